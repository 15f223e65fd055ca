import PyProof.Rows.All
import Wide.All
import OpenK.AllK
import Wide.FinOn
import HandS.ForMost
import HandS.Strs
import HandS.IsInst
import HandS.ForExc
import HandS.Walk
import HandS.Text
import HandS.TryOnly
import HandS.Dict
import HandS.Deep
import HandS.TryMany
import HandS.ExcCtx
import HandS.Hot
import HandS.HotCalls
import HandS.ExcField
import HandS.ExcIs
import KE.KExcInit
import HandS.DeepEq
import HandS.Wide
import HandS.Conv
import HandS.Style
import HandS.TupAny
import HandS.MakeKwOnly
import KE.KStrOpen
import HandS.DictComp
import HandS.MapJoin
import HandS.Iter
import KE.KDictKeyed
import HandS.Ends
import HandS.Replace
import HandS.Defaults
import HandS.ExcOwn
import KE.KExcLine
import PySem.Challenge.RW_sayfill_k07_phrases_checked
set_option Elab.async false
set_option linter.all false
set_option maxRecDepth 100000
set_option maxHeartbeats 4000000
/-! dict(x): x a list, or a tuple that is kept as it was made; its pairs lists or tuples of two. And tuples kept so. -/
namespace XD
open PySem PySem.Spec PyProof.Rows L2
/-- a list or a tuple of just these -/
def IsPr (h : Heap) (b : Addr) (items : Array Value) : Prop := IsTup h b items ∨ h.IsList b items
theorem IsPr.lt {h : Heap} {b : Addr} {it : Array Value} (x : IsPr h b it) : b < h.objs.size := by
  rcases x with ⟨o, e, _⟩ | ⟨o, e, _⟩ <;> exact Heap.lt_size e
theorem IsPr.at {h h' : Heap} {b : Addr} {it : Array Value} (x : IsPr h b it) (k : ∀ o, h.get? b = some o → h'.get? b = some o) : IsPr h' b it := by
  rcases x with ⟨o, e, r⟩ | ⟨o, e, r⟩
  · exact .inl ⟨o, k _ e, r⟩
  · exact .inr ⟨o, k _ e, r⟩
structure Iter1 (prog : Program) (w : World) (A : Around) (I l : Addr) (items : Array Value) (St : Nat → Heap → Prop) : Prop where
  item : ∀ {i : Nat} {s : Shared} {x : Value} {Q : Option Value → Shared → Prop} {E : Value → Shared → Prop}, St i s.heap → items[i]? = some x →
    (∀ h', St (i + 1) h' → Heap.SameBut I s.heap h' → Q (some x) { s with heap := h' }) → wpAny (model prog w) A (pyNext (.ref I)) Q E s
  done : ∀ {i : Nat} {s : Shared} {Q : Option Value → Shared → Prop} {E : Value → Shared → Prop}, St i s.heap → items[i]? = none →
    (∀ h', Heap.ExtBut I s.heap h' → Q none { s with heap := h' }) → wpAny (model prog w) A (pyNext (.ref I)) Q E s
  keep : ∀ {i : Nat} {h h' : Heap}, St i h → (∀ b o, b = I ∨ b = l → h.get? b = some o → h'.get? b = some o) → St i h'
section
variable {prog : Program} {w : World} {A : Around} {E : Value → Shared → Prop}
theorem iter_list {I l : Addr} {items : Array Value} (hh : A.handled = none) (hne : l ≠ I) : Iter1 prog w A I l items (fun i h => h.IsListIter I l i ∧ h.IsList l items) where
  item := fun st hx hq => wpAny_pyNext_list_item st.1 st.2 hx fun h' it' same => hq h' ⟨it', st.2.extBut same.extBut hne⟩ same
  done := fun st hx hq => wpAny_pyNext_list_end hh st.1 st.2 hx hq
  keep := fun st k => ⟨st.1.at fun o e => k _ o (.inl rfl) e, st.2.at fun o e => k _ o (.inr rfl) e⟩
theorem iter_tup {I l : Addr} {items : Array Value} (hh : A.handled = none) (hne : l ≠ I) : Iter1 prog w A I l items (fun i h => h.IsTupleIter I l i ∧ h.IsTuple l items) where
  item := fun st hx hq => wpAny_pyNext_tuple_item st.1 st.2 hx fun h' it' same => hq h' ⟨it', st.2.extBut same.extBut hne⟩ same
  done := fun st hx hq => wpAny_pyNext_tuple_end hh st.1 st.2 hx hq
  keep := fun st k => ⟨st.1.at fun o e => k _ o (.inl rfl) e, by
    obtain ⟨o, e, r⟩ := st.2
    exact ⟨o, k _ o (.inr rfl) e, r⟩⟩
/-- the walk over the pairs, whatever walks -/
theorem pair_loop {R : Result → Shared → Prop} {S I l : Addr} {items : Array Value} {St : Nat → Heap → Prop} {res : Value} (W : Iter1 prog w A.in1 I l items St) (hSI : S ≠ I) (hSl : S ≠ l) :
    ∀ (rest : List (Key × Value)) (i : Nat) (acc : List (Key × Value)) (ix : Int) (t : Tok) (s : Shared), items.size = i + rest.length → acc.length + rest.length ≤ sizeLine →
      (∀ (j : Nat) (q : Key × Value), rest[j]? = some q → ∃ (b : Addr) (u : Value), items[i + j]? = some (.ref b) ∧ b ≠ S ∧ b ≠ I ∧ IsPr s.heap b #[u, q.2] ∧ keyIs q.1 u = true) →
      St i s.heap → s.heap.DictOf (mixKind prog w) S acc →
      (∀ h' tk, h'.DictOf (mixKind prog w) S (merged acc rest) → (∀ b o, b ≠ S → b ≠ I → s.heap.get? b = some o → h'.get? b = some o) → R (.ok (.ret res)) { s with heap := h', toks := tk }) →
      codeAny (model prog w) A (.builtin "dict.update.loop" ⟨[.ref S, .ref I, .int ix t, res], []⟩) R s := by
  intro rest
  induction rest with
  | nil =>
    intro i acc ix t s hsz hln ht st hm hR
    refine codeAny_builtin ud_entry ?_
    rw [Around.under_plainId ud_plain _]
    show wpAny _ A.in1 (pyNext (.ref I) >>= _) _ _ s
    refine wpAny_bind (W.done st (by first | exact Array.getElem?_eq_none (Nat.le_of_eq hsz) | (simp at hsz; simp; omega)) fun h' he => ?_)
    show wpAny _ A.in1 (Builtin.Dict.addKeywords S [] >>= _) _ _ _
    refine wpAny_bind (wpAny_pure (wpAny_pure ?_))
    exact hR h' s.toks (hm.extBut he hSI) fun b o _ hb e => he b o hb e
  | cons q rest ih =>
    intro i acc ix t s hsz hln ht st hm hR
    obtain ⟨b, u, hb, hbS, hbI, hpr, hk⟩ := ht 0 q rfl
    rw [List.length_cons] at hsz hln
    refine codeAny_builtin ud_entry ?_
    rw [Around.under_plainId ud_plain _]
    show wpAny _ A.in1 (pyNext (.ref I) >>= _) _ _ s
    refine wpAny_bind (W.item (x := .ref b) st (by simpa using hb) fun h1 st1 hs1 => ?_)
    have pr1 : IsPr h1 b #[u, q.2] := hpr.at fun o e => hs1.extBut b o hbI e
    have hm1 : h1.DictOf (mixKind prog w) S acc := hm.extBut hs1.extBut hSI
    show wpAny _ A.in1 (holding [Value.ref b] _ >>= _) _ _ _
    refine wpAny_bind (wpAny_holding ?_)
    refine wpAny_bind (wpAny_tryCatch ?_)
    unfold Builtin.Dict.pairItems
    -- behind the two items: the store, then the next turn
    have go : wpAny (model prog w) A.in1 (holding [u, q.2] (dictSet S u q.2)) (fun _ s' => ∀ (ix' : Int) (t' : Tok), codeAny (model prog w) A (.builtin "dict.update.loop" ⟨[.ref S, .ref I, .int ix' t', res], []⟩) R s') (fun e s' => R (.error e) s') { s with heap := h1 } := by
      refine wpAny_holding (wpAny_dictSet_pairs (knd := mixKind prog w) (k := q.1) hk hm1 (fun h2 hm2 hs2 => ?_) (by omega))
      intro ix' t'
      refine ih (i + 1) (stored acc q.1 q.2) ix' t' _ (show items.size = i + 1 + rest.length by omega) ?_ (fun j q' e => ?_) ?_ hm2 fun h' tk hd' k => ?_
      · have z := stored_length_le acc q.1 q.2
        omega
      · obtain ⟨b', u', hb', hbS', hbI', hp', hk'⟩ := ht (j + 1) q' (by simpa using e)
        refine ⟨b', u', ?_, hbS', hbI', (hp'.at fun o e => hs1.extBut b' o hbI' e).at fun o e => hs2.extBut b' o hbS' e, hk'⟩
        rw [show i + 1 + j = i + (j + 1) by omega]
        exact hb'
      · exact W.keep st1 fun c o hc e => hs2.extBut c o (by rcases hc with rfl | rfl; exact Ne.symm hSI; exact Ne.symm hSl) e
      · exact hR h' tk hd' fun c oc h3 h4 e => k c oc h3 h4 (hs2.extBut c oc h3 (hs1.extBut c oc h4 e))
    rcases pr1 with ⟨o, ho, hc, n, hd⟩ | ⟨o, ho, hc, n, hd⟩
    · refine wpAny_bind (wpAny_typeOf (T := "tuple") ⟨o, ho, hc⟩ ?_)
      rw [if_pos (by first | decide | rfl | simp)]
      refine wpAny_bind (wpAny_seqItems ho hd (wpAny_pure ?_))
      show wpAny _ A.in1 (holding [u, q.2] (dictSet S u q.2)) _ _ _
      exact wpAny_mono go (fun _ s' z => wpAny_pure ⟨plainId_quiet ud_plain _, z _ _⟩) fun _ _ z => z
    · refine wpAny_bind (wpAny_typeOf (T := "list") ⟨o, ho, hc⟩ ?_)
      rw [if_pos (by first | decide | rfl | simp)]
      refine wpAny_bind (wpAny_seqItems ho hd (wpAny_pure ?_))
      show wpAny _ A.in1 (holding [u, q.2] (dictSet S u q.2)) _ _ _
      exact wpAny_mono go (fun _ s' z => wpAny_pure ⟨plainId_quiet ud_plain _, z _ _⟩) fun _ _ z => z
theorem tuple_no_keys : typeLookup (.type "tuple") "keys" = pure none := am_miss_of_fast (by first | decide +kernel | rfl)
/-- a tuple has no attribute 'keys' -/
theorem miss_tuple {s : Shared} {a : Addr} {o : Obj} {xs : Array Value} {k : Nat} {Q : Option Value → Shared → Prop} (hx : s.heap.get? a = some o) (hc : o.cls = .type "tuple") (hdat : o.data = .seq xs k) (hd : o.dict = none) (hA : A.handled = none)
    (h : ∀ h' tk, (∀ b ob, s.heap.get? b = some ob → h'.get? b = some ob) → Q none { s with heap := h', toks := tk }) : wpAny (model prog w) A (getAttr? (.ref a) "keys") Q E s := by
  obtain ⟨c, dct, dat, sl⟩ := o
  simp only at hc hdat hd
  subst hc hdat hd
  obtain ⟨hp, g, d, tk, os⟩ := s
  have hT : ∀ tk', (⟨hp, g, d, tk', os⟩ : Shared).TypeIs (.ref a) "tuple" := fun _ => ⟨_, hx, rfl⟩
  have hmiss := tuple_no_keys
  have hname : (["__module__", "__name__", "__qualname__", "__doc__", "__annotations__"] : List Str).contains "keys" = false := by decide +kernel
  have hsz : ("keys" : Str).length + 100 ≤ sizeLine := by first | size_fits | decide +kernel
  have f1 := sub_AttributeError
  have f3 := PySem.F.slot_tuple_getattribute.lookup
  have f4 := PySem.F.slot_tuple_getattribute.bind (.ref a)
  have f5 := am_tuple_getattr_none
  unfold getAttr? getAttrBy? getAttrBy
  repeat (any_goals (first | assumption | exact hT _ | ((with_reducible show wpAny _ _ (call (Value.builtin "tuple.__getattribute__") _ _) _ _ _); refine call_meets PySem.F.slot_tuple_getattribute (hT _) am_entry_tuple_getattribute (PySem.F.args_tuple_getattribute_2 _ _) (meets_getattribute_miss_tuple a xs k sl "keys" _ hmiss hname hsz) ⟨hx, hA, fun h' tk' e hx' => ?_⟩) | wp_step))
  obtain ⟨t', u', he⟩ := hx'.there
  show wpAny _ _ (getattributeRaised _ _ _ _ _ _ _) _ _ _
  unfold getattributeRaised
  repeat (any_goals (first | assumption | wp_step))
  all_goals first | exact h _ _ hx'.keeps | (dsimp only; repeat (any_goals (first | assumption | exact h _ _ hx'.keeps | wp_step)))
/-- dict(l), l a list or a tuple -/
theorem dict_pairs {s : Shared} {l : Addr} {ol : Obj} {items : Array Value} {n : Nat} {prs : List (Key × Value)} {Q : Value → Shared → Prop} (hh : A.handled = none) (hl : s.heap.get? l = some ol) (hc : ol.cls = .type "list" ∨ ol.cls = .type "tuple") (hd : ol.dict = none)
    (hdat : ol.data = .seq items n) (hsz : items.size = prs.length) (hln : prs.length ≤ sizeLine)
    (ht : ∀ (j : Nat) (q : Key × Value), prs[j]? = some q → ∃ (b : Addr) (u : Value), items[j]? = some (.ref b) ∧ IsPr s.heap b #[u, q.2] ∧ keyIs q.1 u = true)
    (h : ∀ h' tk, h'.DictOf (mixKind prog w) s.heap.objs.size (merged [] prs) → (∀ b o, s.heap.get? b = some o → h'.get? b = some o) → Q (.ref s.heap.objs.size) { s with heap := h', toks := tk }) :
    wpAny (model prog w) A (call (.type "dict") [.ref l]) Q E s := by
  refine callType_codes (Q₁ := fun obj s₁ => obj = .ref s.heap.objs.size ∧ s₁ = { s with heap := s.heap.push { cls := .type "dict", data := .dict #[] } }) PySem.F.kt_called_dict (PySem.F.kt_typeCall_dict_1 _) PySem.F.entry_dict_init (kt_code_dict_new _ ⟨rfl, rfl⟩) ?_
  rintro obj s₁ ⟨rfl, rfl⟩
  have hnew : (s.heap.push { cls := .type "dict", data := .dict #[] }).DictOf (mixKind prog w) s.heap.objs.size [] := Heap.DictOf.new s.heap
  have k0 : ∀ b o, s.heap.get? b = some o → (s.heap.push { cls := .type "dict", data := .dict #[] }).get? b = some o := fun b o e => Heap.get?_push_of_some _ e
  have lt : l < s.heap.objs.size := Heap.lt_size hl
  refine ⟨hnew.typeIs, PySem.F.args_dict_init_2 _ _, ?_⟩
  unfold Builtin.«dict.__init__»
  refine wpAny_bind ?_
  unfold Builtin.Dict.selfAndRest
  refine wpAny_bind (wpAny_notOrdered_dict hnew.typeIs ?_)
  show wpAny _ _ (pure (s.heap.objs.size, [Value.ref l])) _ _ _
  refine wpAny_pure ?_
  show wpAny _ _ (Builtin.Dict.updateFrom "dict.__init__" s.heap.objs.size (.ref l) [] .none) _ _ _
  unfold Builtin.Dict.updateFrom
  -- behind the question for 'keys': the iterator, then the walk
  have walk : ∀ {h1 : Heap} {tk1 : Nat} {I : Addr} {it : Obj} {St : Nat → Heap → Prop}, Iter1 prog w A.in1.in1 I l items St → (∀ b o, (s.heap.push { cls := .type "dict", data := .dict #[] }).get? b = some o → h1.get? b = some o) → I = h1.objs.size → St 0 (h1.push it) →
      codeAny (model prog w) A.in1 (.builtin "dict.update.loop" ⟨[.ref s.heap.objs.size, .ref I, .int 0 0, .none], []⟩) (wants (fun r s₂ => r = .none ∧ Q (.ref s.heap.objs.size) s₂) E) { s with heap := h1.push it, toks := tk1 } := by
    intro h1 tk1 I it St W k1 eI st
    have S1 : s.heap.objs.size < h1.objs.size := by
      have e : (s.heap.push { cls := .type "dict", data := .dict #[] }).get? s.heap.objs.size = some { cls := .type "dict", data := .dict #[] } := Heap.get?_push_size _ rfl
      exact Heap.lt_size (k1 _ _ e)
    have k2 : ∀ b o, s.heap.get? b = some o → (h1.push it).get? b = some o := fun b o e => Heap.get?_push_of_some _ (k1 _ _ (k0 _ _ e))
    subst eI
    refine pair_loop (A := A.in1) W (Nat.ne_of_lt S1) (Nat.ne_of_gt lt) prs 0 [] 0 0 { s with heap := h1.push it, toks := tk1 } (by rw [hsz, Nat.zero_add]) (by rw [List.length_nil, Nat.zero_add]; exact hln)
      (fun j q e => ?_) st ((hnew.at fun o e => k1 _ _ e).at fun o e => Heap.get?_push_of_some _ e) (fun h' tk hd' k => ?_)
    · obtain ⟨b, u, e1, e2, e3⟩ := ht j q e
      have hb : b < s.heap.objs.size := e2.lt
      exact ⟨b, u, by rw [Nat.zero_add]; exact e1, Nat.ne_of_lt hb, Nat.ne_of_lt (Nat.lt_trans hb S1), e2.at fun o z => k2 _ _ z, e3⟩
    · exact ⟨rfl, h h' tk hd' fun b o e => k b o (Nat.ne_of_lt (Heap.lt_size e)) (Nat.ne_of_lt (Nat.lt_trans (Heap.lt_size e) S1)) (k2 _ _ e)⟩
  rcases hc with hc | hc
  · refine wpAny_bind (wpAny_typeOf (T := "list") ⟨ol, k0 _ _ hl, hc⟩ ?_)
    rw [if_pos (by first | decide | rfl | simp)]
    refine wpAny_bind (miss_list (k0 _ _ hl) hc hdat hd hh fun h1 tk1 hk1 => ?_)
    rw [if_pos (show (none : Option Value).isNone = true from rfl)]
    refine wpAny_bind (wpAny_rule ?_)
    have hl1 : h1.IsList l items := ⟨ol, hk1 _ _ (k0 _ _ hl), hc, n, hdat⟩
    refine wpAny_bind (wpAny_pyIter_list hl1 ?_)
    have lt1 : l < h1.objs.size := by
      obtain ⟨o, e, _⟩ := hl1
      exact Heap.lt_size e
    have key := walk (tk1 := tk1) (it := { cls := .type "list_iterator", data := .fields #[.ref l, .int 0 0] }) (iter_list (A := A.in1.in1) hh (Nat.ne_of_lt lt1)) hk1 rfl ⟨⟨_, Heap.get?_push_size _ rfl, rfl, rfl⟩, hl1.at fun o e => Heap.get?_push_of_some _ e⟩
    first
      | exact wpAny_pure ⟨plainId_quiet ud_plain _, key⟩
      | exact wpAny_bind (wpAny_pure (wpAny_pure ⟨plainId_quiet ud_plain _, key⟩))
  · refine wpAny_bind (wpAny_typeOf (T := "tuple") ⟨ol, k0 _ _ hl, hc⟩ ?_)
    rw [if_pos (by first | decide | rfl | simp)]
    refine wpAny_bind (miss_tuple (k0 _ _ hl) hc hdat hd hh fun h1 tk1 hk1 => ?_)
    rw [if_pos (show (none : Option Value).isNone = true from rfl)]
    refine wpAny_bind (wpAny_rule ?_)
    have hl1 : h1.IsTuple l items := ⟨ol, hk1 _ _ (k0 _ _ hl), hc, n, hdat⟩
    refine wpAny_bind (wpAny_pyIter_tuple hl1 ?_)
    have lt1 : l < h1.objs.size := by
      obtain ⟨o, e, _⟩ := hl1
      exact Heap.lt_size e
    have key := walk (tk1 := tk1) (it := { cls := .type "tuple_iterator", data := .fields #[.ref l, .int 0 0] }) (iter_tup (A := A.in1.in1) hh (Nat.ne_of_lt lt1)) hk1 rfl ⟨⟨_, Heap.get?_push_size _ rfl, rfl, rfl⟩, by
      obtain ⟨o, e, r⟩ := hl1
      exact ⟨o, Heap.get?_push_of_some _ e, r⟩⟩
    first
      | exact wpAny_pure ⟨plainId_quiet ud_plain _, key⟩
      | exact wpAny_bind (wpAny_pure (wpAny_pure ⟨plainId_quiet ud_plain _, key⟩))
end
end XD

namespace XD
open PySem PySem.Spec PyProof.Rows L2
/-- a tuple that is kept as it was made: it has no dict of its own -/
def SqZ (H : Hp) (a : Addr) (xs : List V) : Prop := ∃ o : Obj, H a = some (.frz o (.tup xs)) ∧ o.dict = none
theorem SqZ.sqT {K : PySem.W.Frag} {H : Hp} {a : Addr} {xs : List V} (h : SqZ H a xs) : SqT K H a xs := by
  obtain ⟨o, e, _⟩ := h
  exact .inl (.inr ⟨o, e⟩)
theorem SqZ.same {H H' : Hp} {a : Addr} {xs : List V} (h : SqZ H a xs) (s : ∀ b o, H b = some o → H' b = some o) : SqZ H' a xs := by
  obtain ⟨o, e, d⟩ := h
  exact ⟨o, s _ _ e, d⟩
section
variable {X : Cx}
theorem prs_of {pins : List (Addr × Obj)} {σ : L2.St} {H : Hp} {s : Shared} (I : Inv X pins σ H s) : ∀ {ps : List Addr} {kvs : List (Key × V)}, Paired (fun p kv => SqT X.K H p [kV kv.1, kv.2] ∨ SqL X.K H p [kV kv.1, kv.2]) ps kvs →
    ∃ prs : List (Key × Value), KV kvs prs ∧ prs.length = ps.length ∧ ∀ (j : Nat) (q : Key × Value), prs[j]? = some q → ∃ (b : Addr) (u : Value), ps[j]? = some b ∧ IsPr s.heap b #[u, q.2] ∧ keyIs q.1 u = true
  | _, _, .nil => ⟨[], .nil, rfl, fun j q e => by simp at e⟩
  | _, _, .cons (a := p) (b := kv) h t => by
    obtain ⟨prs, r, hl, hp⟩ := prs_of I t
    obtain ⟨u, y, ru, ry, ht⟩ : ∃ u y, RelV (kV kv.1) u ∧ RelV kv.2 y ∧ IsPr s.heap p #[u, y] := by
      rcases h with h | h
      · obtain ⟨its, rv, ht, _⟩ := I.tuple h
        obtain ⟨u, y, ei, ru, ry⟩ := vals2 rv
        subst ei
        exact ⟨u, y, ru, ry, .inl ht⟩
      · obtain ⟨its, rv, ht, _⟩ := I.list h
        obtain ⟨u, y, ei, ru, ry⟩ := vals2 rv
        subst ei
        exact ⟨u, y, ru, ry, .inr ht.isList⟩
    refine ⟨(kv.1, y) :: prs, .cons ⟨rfl, ry⟩ r, by rw [List.length_cons, List.length_cons, hl], fun j q e => ?_⟩
    cases j with
    | zero =>
      have e' : (kv.1, y) = q := Option.some.inj e
      subst e'
      exact ⟨p, u, rfl, ht, kV_is (P := X.prog) (w := X.w) ru⟩
    | succ j =>
      obtain ⟨b, u', e1, e2, e3⟩ := hp j q (by simpa using e)
      exact ⟨b, u', by simpa using e1, e2, e3⟩
def rDictZ (K : PySem.W.Frag) : List V → Hp → VK → Prop := fun xs H Q => ∃ (a : Addr) (ps : List Addr) (kvs : List (Key × V)), xs = [.ref a] ∧ (SqL K H a (ps.map V.ref) ∨ SqZ H a (ps.map V.ref)) ∧
  Paired (fun p kv => SqT K H p [kV kv.1, kv.2] ∨ SqL K H p [kV kv.1, kv.2]) ps kvs ∧ ∀ p, H p = none → Q (.ref p) (upd H p (.dK (mergeK [] kvs)))
/-- dict(xs) of a list or a kept tuple of pairs -/
theorem call_dictZ (hcalm : X.calm = true) : CallR X (.type "dict") (rDictZ X.K) := by
  intro pins s σ H xs us Q I r q
  obtain ⟨a, ps, kvs, rfl, hq, hp, q⟩ := q
  obtain ⟨u, rfl, rx⟩ := vals1 r
  cases rx
  obtain ⟨prs, rel, hl, hpr⟩ := prs_of I hp
  obtain ⟨o, n, ho, hc, hd, hdat, hz⟩ : ∃ (o : Obj) (n : Nat), s.heap.get? a = some o ∧ (o.cls = .type "list" ∨ o.cls = .type "tuple") ∧ o.dict = none ∧ o.data = .seq (ps.map Value.ref).toArray n ∧ ps.length ≤ sizeLine := by
    rcases hq with hq | ⟨o, e, hd⟩
    · obtain ⟨its, rv, pl, hz⟩ := I.list hq
      have ei := refs_at rv
      subst ei
      obtain ⟨o, n, ho, hc, hd, hdat⟩ := pl
      exact ⟨o, n, ho, .inl hc, hd, hdat, by rw [List.length_map] at hz; exact hz⟩
    · have ok : ObjOk X.prog X.w H s.heap a (.frz o (.tup (ps.map V.ref))) := I.hok a _ e
      obtain ⟨ho, hz, its, rv, o2, ho2, hc, n, hdat⟩ := ok
      rw [ho] at ho2
      cases ho2
      have ei := refs_at rv
      subst ei
      exact ⟨o, n, ho, .inr hc, hd, hdat, by rw [List.length_map] at hz; exact hz⟩
  refine dict_pairs (prs := prs) (I.ok.hd hcalm) ho hc hd hdat (by simp [hl]) (by rw [hl]; exact hz) (fun j q' e => ?_) fun h' tk hd' k => ?_
  · obtain ⟨b, u, e1, e2, e3⟩ := hpr j q' e
    exact ⟨b, u, by simp [e1], e2, e3⟩
  · have hm : (s.heap.objs.size == sysModules) = false := beq_eq_false_iff_ne.mpr (Nat.ne_of_gt I.big)
    have hlen : (mergeK [] kvs).length ≤ sizeLine := by
      refine Nat.le_trans (length_mergeK kvs []) ?_
      rw [List.length_nil, Nat.zero_add, rel.length, hl]
      exact hz
    exact ⟨.ref s.heap.objs.size, upd H s.heap.objs.size (.dK (mergeK [] kvs)), I.laid (t' := tk) k (Nat.le_refl _) (show ObjOk X.prog X.w _ _ _ (.dK (mergeK [] kvs)) from ⟨hlen, hm, merged [] prs, KV.merge rel .nil, hd'⟩), rfl, q _ (I.hok.fresh (Nat.le_refl _))⟩
/-- tuple(xs) of a list: a tuple that is kept; of a tuple: itself -/
def rTupZ (K : PySem.W.Frag) : List V → Hp → VK → Prop := fun xs H Q => ∃ (p : Addr) (ys : List V), xs = [.ref p] ∧
  ((SqL K H p ys ∧ ∀ l o, H l = none → o.dict = none → Q (.ref l) (upd H l (.frz o (.tup ys)))) ∨ (SqT K H p ys ∧ Q (.ref p) H))
theorem call_tupZ : CallR X (.type "tuple") (rTupZ X.K) := by
  intro pins s σ H xs us Q I r h
  obtain ⟨p, ys, rfl, h⟩ := h
  obtain ⟨u, rfl, rx⟩ := vals1 r
  cases rx
  rcases h with ⟨hq, q⟩ | ⟨hq, q⟩
  · obtain ⟨its, r', pl, hz⟩ := I.list hq
    have hlen := r'.length
    refine call_tuple_list pl.isList (fun h' kp => ?_) (by simp only [List.size_toArray] <;> omega)
    have I1 : Inv X pins σ H { s with heap := h' } := I.kept (t' := s.toks) kp
    have I2 : Inv X pins σ (upd H h'.objs.size (.frz { cls := .type "tuple", data := .seq its.toArray } (.tup ys))) { s with heap := h'.push { cls := .type "tuple", data := .seq its.toArray } } :=
      I1.laid (t' := s.toks) (fun b o e => Heap.get?_push_of_some _ e) (Nat.le_refl _) (show ObjOk X.prog X.w _ _ _ (.frz _ (.tup ys)) from ⟨Heap.get?_push_size _ rfl, hz, its, r', IsTup.new _ _⟩)
    exact ⟨.ref h'.objs.size, _, I2, rfl, q _ _ (I1.hok.fresh (Nat.le_refl _)) rfl⟩
  · obtain ⟨its, r', pl, hz⟩ := I.tuple hq
    exact call_tuple_same pl ⟨.ref p, H, I, rfl, q⟩
/-- a written tuple, kept as it is made -/
def tTupZ (t : TA) : TE := fun σ H Q => t σ H fun xs H1 => xs.length ≤ sizeLine ∧ ∀ p o, H1 p = none → o.dict = none → Q (.ref p) (upd H1 p (.frz o (.tup xs)))
theorem pe_tupZ {es : List Expr} {t : TA} {x1 : Nat} {pos : Pos} (h : PA X es t) : PE X (.Tuple es x1 pos) (tTupZ t) := by
  refine ⟨fun pins s σ H Q I hq => ?_⟩
  refine wpAny_Tuple_spliced (thn (h.run pos pins s σ H _ I hq) fun us s1 ⟨xs, H1, I1, r, z, q⟩ => ⟨by rw [← r.length]; exact z, ?_⟩)
  have hf : H1 s1.heap.objs.size = none := I1.hok.fresh (Nat.le_refl _)
  refine ⟨.ref s1.heap.objs.size, upd H1 s1.heap.objs.size (.frz { cls := .type "tuple", data := .seq us.toArray } (.tup xs)), I1.laid (t' := s1.toks) (fun b u e => Heap.get?_push_of_some _ e) (Nat.le_refl _) ?_, rfl, q _ _ hf rfl⟩
  exact ⟨Heap.get?_push_size _ rfl, z, us, r, ⟨_, Heap.get?_push_size _ rfl, rfl, _, rfl⟩⟩
end
end XD
set_option Elab.async false
set_option linter.all false
set_option maxRecDepth 100000
set_option maxHeartbeats 4000000
/-! len(set(xs)): xs a list or a tuple of texts, however many are alike. -/
namespace XS
open PySem PySem.Spec PyProof.Rows
/-- how many unlike ones are among the first i -/
def un (xs : List Str) : Nat → Nat
  | 0 => 0
  | i + 1 => if (xs.take i).any (· == xs.getD i Str.empty) = true then un xs i else un xs i + 1
theorem un_le (xs : List Str) : ∀ i, un xs i ≤ i
  | 0 => Nat.le_refl 0
  | i + 1 => by
    have := un_le xs i
    unfold un
    split <;> omega
theorem take_next {xs : List Str} {i : Nat} (h : i < xs.length) : xs.take (i + 1) = xs.take i ++ [xs.getD i Str.empty] := by
  rw [List.take_succ_eq_append_getElem h, List.getD_eq_getElem?_getD, List.getElem?_eq_getElem h]
  rfl
theorem any_next {xs : List Str} {i : Nat} (h : i < xs.length) (k : Str) : (xs.take (i + 1)).any (· == k) = ((xs.take i).any (· == k) || decide (k = xs.getD i Str.empty)) := by
  rw [take_next h, List.any_append]
  congr 1
  by_cases e : k = xs.getD i Str.empty
  · rw [decide_eq_true e, e]
    simp
  · rw [decide_eq_false e]
    simp
    exact fun z => e z.symm
theorem un_nodup (xs : List Str) : ∀ i, i ≤ xs.length → (un xs i = i ↔ (xs.take i).Nodup)
  | 0, _ => by simp [un]
  | i + 1, h => by
    have lt : i < xs.length := h
    have ih := un_nodup xs i (Nat.le_of_lt lt)
    have le := un_le xs i
    rw [take_next lt, List.nodup_append]
    unfold un
    by_cases e : (xs.take i).any (· == xs.getD i Str.empty) = true
    · rw [if_pos e]
      obtain ⟨y, hy, z⟩ := List.any_eq_true.mp e
      have z' : y = xs.getD i Str.empty := beq_iff_eq.mp z
      constructor
      · intro q
        omega
      · rintro ⟨_, _, q⟩
        exact absurd z' (q y hy _ (List.mem_singleton.mpr rfl))
    · rw [if_neg e]
      constructor
      · intro q
        refine ⟨ih.mp (by omega), by simp, fun a ha b hb ab => e (List.any_eq_true.mpr ⟨a, ha, ?_⟩)⟩
        rw [List.mem_singleton.mp hb] at ab
        exact beq_iff_eq.mpr ab
      · rintro ⟨q, _, _⟩
        have := ih.mpr q
        omega
/-- unlike all: as many as there are -/
theorem un_all {xs : List Str} : decide (un xs xs.length = xs.length) = decide xs.Nodup := by
  have h := un_nodup xs xs.length (Nat.le_refl _)
  rw [List.take_length] at h
  exact decide_eq_decide.mpr h
section
variable {prog : Program} {w : World} {A : Around} {R : Result → Shared → Prop} {I : Addr} {fp wr : List Addr} {G : Array GenState → Array GenState → Prop} {n : Nat} {P : Nat → Value → Prop} {St : Nat → Shared → Prop}
theorem set_loop (W : WalksS prog w A.in1 I fp wr G n P St) (S : Addr) (hSf : S ∉ fp) (xs : List Str) (hsz : xs.length = n) (hb : n + 1 < scanBound)
    (hval : ∀ i v, P i v → ∃ t, v = .str (xs.getD i Str.empty) t) :
    ∀ (k i : Nat) (s : Shared), n - i = k → i ≤ n → St i s → s.heap.SetOf (PySem.strKind prog w) S (fun k' => (xs.take i).any (· == k')) (un xs i) →
      (∀ s', Moved (S :: wr) G s s' → s'.heap.SetOf (PySem.strKind prog w) S (fun k' => (xs.take n).any (· == k')) (un xs n) → R (.ok (.ret .none)) s') →
      codeAny (model prog w) A (.builtin "set.update.loop" ⟨[.ref S, .ref I], []⟩) R s := by
  have hSw : S ∉ wr := fun h => hSf (W.sub _ h)
  have more : ∀ b ∈ wr, b ∈ S :: wr := fun b hb => List.mem_cons_of_mem _ hb
  intro k
  induction k with
  | zero =>
    intro i s hk hi hst hS hR
    obtain rfl : i = n := by omega
    refine codeAny_builtin PyProof.Rows.F.entry_set_update_loop ?_
    rw [Around.under_plainId PyProof.Rows.F.plain_set_update_loop _]
    show wpAny _ A.in1 (pyNext (.ref I) >>= _) _ _ s
    refine wpAny_bind (W.done s _ _ hst fun s' hm => ?_)
    show wpAny _ A.in1 (ret Value.none) _ _ s'
    refine wpAny_pure (hR s' (hm.mono more) ?_)
    obtain ⟨o, es, ep, t, ho, rest⟩ := hS
    exact ⟨o, es, ep, t, hm.heap S _ hSw ho, rest⟩
  | succ k ih =>
    intro i s hk hi hst hS hR
    have hlt : i < n := by omega
    have hlx : i < xs.length := by omega
    refine codeAny_builtin PyProof.Rows.F.entry_set_update_loop ?_
    rw [Around.under_plainId PyProof.Rows.F.plain_set_update_loop _]
    show wpAny _ A.in1 (pyNext (.ref I) >>= _) _ _ s
    refine wpAny_bind (W.item i s _ _ hlt hst fun v s' hP hst' hm => ?_)
    obtain ⟨t, rfl⟩ := hval i v hP
    have hS' : s'.heap.SetOf (PySem.strKind prog w) S (fun k' => (xs.take i).any (· == k')) (un xs i) := by
      obtain ⟨o, es, ep, tb, ho, rest⟩ := hS
      exact ⟨o, es, ep, tb, hm.heap S _ hSw ho, rest⟩
    show wpAny _ A.in1 (holding [Value.str (xs.getD i Str.empty) t] (setAdd S (.str (xs.getD i Str.empty) t)) >>= _) _ _ s'
    refine wpAny_bind (wpAny_holding ?_)
    unfold setAdd
    refine wpAny_holding ?_
    refine wpAny_bind ((PySem.strKind prog w).pyHash (k := xs.getD i Str.empty) (strKind_is _ _ _ _) ?_)
    have room : un xs i + 1 < scanBound := by
      have := un_le xs i
      omega
    refine wpAny_setAddHashed_of (knd := PySem.strKind prog w) (s := { s' with toks := s'.toks + 1 }) (strKind_is _ _ _ _) rfl hS' room fun h' hsb hS2 => ?_
    have next : h'.SetOf (PySem.strKind prog w) S (fun k' => (xs.take (i + 1)).any (· == k')) (un xs (i + 1)) :=
      SetOf_congr hS2 (fun k' => (any_next hlx k').symm) rfl
    refine wpAny_pure ⟨plainId_quiet PyProof.Rows.F.plain_set_update_loop _, ih (i + 1) _ (by omega) hlt (W.frame _ s' _ _ hst' (Nat.le_succ _) fun b hb o e => ?_) next fun s'' hm'' hS'' => ?_⟩
    · rw [hsb.2 b (fun h : b = S => hSf (by rw [← h]; exact hb))]
      exact e
    · refine hR s'' (Moved.trans W.gtrans ((hm.mono more).then_heap (Nat.le_succ _) fun b o hb e => ?_) hm'') hS''
      rw [hsb.2 b (fun h : b = S => hb (by rw [h]; exact List.mem_cons_self))]
      exact e
end
section
variable {prog : Program} {w : World} {A : Around} {E : Value → Shared → Prop} {s : Shared}
set_option maxHeartbeats 8000000 in
theorem call_set_strs {l : Addr} {items : Array Value} {xs : List Str} {Q : Value → Shared → Prop} (hh : A.handled = none) (hl : s.heap.IsList l items ∨ s.heap.IsTuple l items) (hi : PyProof.Rows.StrsAre items.toList xs) (hb : xs.length + 1 < scanBound)
    (h : ∀ (h' : Heap) (tk : Nat), h'.SetOf (PySem.strKind prog w) s.heap.objs.size (fun k' => (xs.take items.size).any (· == k')) (un xs items.size) →
      (∀ b o, b < s.heap.objs.size → s.heap.get? b = some o → h'.get? b = some o) → Q (.ref s.heap.objs.size) { s with heap := h', toks := tk }) :
    wpAny (model prog w) A (call (.type "set") [.ref l]) Q E s := by
  obtain ⟨c, tl, hmro⟩ := PySem.F.called_set.mro
  have hmade := PySem.F.called_set.made
  have hsub := PySem.F.called_set.sub
  refine wpAny_call (codeAny_of_tree ?_)
  show wpAny _ _ (callAny (.type "set") _) _ _ _
  refine wpAny_pure ⟨Code.quiet_builtin _ (by decide +kernel), codeAny_builtin PySem.F.entry_type_call ?_⟩
  rw [Around.under_plain (weight_type_call_type "set" [.ref l] []) rfl]
  have h1 := PySem.F.called_set.notType
  have h2 := PySem.F.called_set.canCreate
  have hct := PySem.F.typeCall_set_1 (.ref l)
  repeat (any_goals (first | assumption | wp_step))
  refine codeAny_mono (code_set_new_1 (.ref l) (E := E) (Q₁ := fun obj s₁ => ∃ led : Bool, obj = .ref s.heap.objs.size ∧ s₁ = { s with heap := s.heap.push { cls := .type "set", dict := none, data := .set #[] 0 (.fresh 0 0 led) } }) fun led => ⟨led, rfl, rfl⟩) fun r s₁ hr => ?_
  have hsz : xs.length = items.size := by
    rw [← StrsAre.len_eq hi, Array.length_toList]
  have hval : ∀ (i : Nat) (v : Value), items[i]? = some v → ∃ t, v = .str (xs.getD i Str.empty) t := fun i v hv => SS.strs_at hi i v (by rw [Array.getElem?_toList]; exact hv)
  cases r with
  | error e => exact hr
  | ok fl =>
    cases fl with
    | ret obj =>
      obtain ⟨led, rfl, rfl⟩ := hr
      have hS : (s.heap.push { cls := .type "set", dict := none, data := .set #[] 0 (.fresh 0 0 led) }).get? s.heap.objs.size = some { cls := .type "set", dict := none, data := .set #[] 0 (.fresh 0 0 led) } := Heap.get?_push_size _ rfl
      have hT : Shared.TypeIs { s with heap := s.heap.push { cls := .type "set", dict := none, data := .set #[] 0 (.fresh 0 0 led) } } (.ref s.heap.objs.size) "set" := ⟨_, hS, rfl⟩
      have hli := PySem.F.called_set.init.lookup
      have hbi := PySem.F.called_set.init.bind (.ref s.heap.objs.size)
      repeat (any_goals (first | assumption | wp_step))
      refine codeAny_mono (codeAny_call_builtin (R := wants (fun r s₂ => r = .none ∧ ∃ h' tk, s₂ = { s with heap := h', toks := tk } ∧
          h'.SetOf (PySem.strKind prog w) s.heap.objs.size (fun k' => (xs.take items.size).any (· == k')) (un xs items.size) ∧
          (∀ b o, b < s.heap.objs.size → s.heap.get? b = some o → h'.get? b = some o)) E) PySem.F.called_set.init.plain PySem.F.entry_set_init (check_set_init_1 hT ?_)) fun r₂ s₂ hr₂ => ?_
      · -- behind the iterator at I of the object it: the walk, then the end
        have walk : ∀ {it : Obj} {B : Around} {Rr : Result → Shared → Prop} {St : Nat → Shared → Prop} {P : Nat → Value → Prop},
            WalksS prog w B.in1 (s.heap.push { cls := .type "set", dict := none, data := .set #[] 0 (.fresh 0 0 led) }).objs.size [(s.heap.push { cls := .type "set", dict := none, data := .set #[] 0 (.fresh 0 0 led) }).objs.size, l] [(s.heap.push { cls := .type "set", dict := none, data := .set #[] 0 (.fresh 0 0 led) }).objs.size] (fun a b => b = a) items.size P St →
            l < s.heap.objs.size → (∀ i v, P i v → items[i]? = some v) → St 0 { s with heap := (s.heap.push { cls := .type "set", dict := none, data := .set #[] 0 (.fresh 0 0 led) }).push it } →
            (∀ h' tk, h'.SetOf (PySem.strKind prog w) s.heap.objs.size (fun k' => (xs.take items.size).any (· == k')) (un xs items.size) → (∀ b o, b < s.heap.objs.size → s.heap.get? b = some o → h'.get? b = some o) → Rr (.ok (.ret .none)) { s with heap := h', toks := tk }) →
            codeAny (model prog w) B (.builtin "set.update.loop" ⟨[.ref s.heap.objs.size, .ref (s.heap.push { cls := .type "set", dict := none, data := .set #[] 0 (.fresh 0 0 led) }).objs.size], []⟩) Rr { s with heap := (s.heap.push { cls := .type "set", dict := none, data := .set #[] 0 (.fresh 0 0 led) }).push it } := by
          intro it B Rr St P W lt hP st0 fin
          have hSf : s.heap.objs.size ∉ [(s.heap.push { cls := .type "set", dict := none, data := .set #[] 0 (.fresh 0 0 led) }).objs.size, l] := by
            rw [Heap.size_push]
            simp only [List.mem_cons, List.mem_singleton, List.not_mem_nil, or_false, not_or]
            exact ⟨Nat.ne_of_lt (Nat.lt_succ_self _), Nat.ne_of_gt lt⟩
          refine set_loop W s.heap.objs.size hSf xs hsz (by omega) (fun i v p => hval i v (hP i v p)) (items.size - 0) 0 _ (by omega) (Nat.zero_le _) st0 ?hS0 ?hR
          case hS0 =>
            have hget : ((s.heap.push { cls := .type "set", dict := none, data := .set #[] 0 (.fresh 0 0 led) }).push it).get? s.heap.objs.size = some { cls := .type "set", dict := none, data := .set #[] 0 (.fresh 0 0 led) } := Heap.get?_push_of_some _ hS
            exact PyProof.Rows.SetOf_congr ((PyProof.Rows.setObjOf_fresh (knd := PySem.strKind prog w) led).setOf hget (by unfold scanBound; omega)) (fun _ => rfl) rfl
          case hR =>
            intro s' hm hS'
            obtain ⟨h', g', d', tk', os'⟩ := s'
            have eg : g' = s.gens := hm.gens
            have ed : d' = s.drawn := hm.drawn
            have eo : os' = s.os := hm.os
            subst eg
            subst ed
            subst eo
            refine fin h' tk' hS' fun b o hb e => ?_
            have n1 : b ≠ s.heap.objs.size := Nat.ne_of_lt hb
            have n2 : b ≠ (s.heap.push { cls := .type "set", dict := none, data := .set #[] 0 (.fresh 0 0 led) }).objs.size := by
              rw [Heap.size_push]
              exact Nat.ne_of_lt (Nat.lt_succ_of_lt hb)
            exact hm.heap b o (by simp only [List.mem_cons, List.mem_singleton, List.not_mem_nil, or_false, not_or]; exact ⟨n1, n2⟩) (Heap.get?_push_of_some _ (Heap.get?_push_of_some _ e))
        have hh3 : A.in1.in1.in1.handled = none := by
          simp [hh]
        rcases hl with hl | hl
        · obtain ⟨ol, hol, hcl, nl, hdl⟩ := hl
          obtain ⟨ocls, odict, odata, oslots⟩ := ol
          simp only at hcl hdl
          subst hcl
          subst hdl
          have hol' : (s.heap.push { cls := .type "set", dict := none, data := .set #[] 0 (.fresh 0 0 led) }).get? l = some { cls := .type "list", dict := odict, data := .seq items nl, slots := oslots } := Heap.get?_push_of_some _ hol
          have hsls := PySem.F.sub_list_set
          have hslf := PySem.F.sub_list_frozenset
          have hne : (Value.type "list" == Value.type "dict") = false := by decide
          have hl1 : (s.heap.push { cls := .type "set", dict := none, data := .set #[] 0 (.fresh 0 0 led) }).IsList l items := ⟨_, hol', rfl, nl, rfl⟩
          have lt : l < s.heap.objs.size := Heap.lt_size hol
          have hneI : l ≠ (s.heap.push { cls := .type "set", dict := none, data := .set #[] 0 (.fresh 0 0 led) }).objs.size := by
            rw [Heap.size_push]
            exact Nat.ne_of_lt (Nat.lt_succ_of_lt lt)
          unfold Builtin.«set.__init__» noKeywords Builtin.Frozenset.updateFrom
          generalize hPI : pyIter = PI
          wp_walk
          subst hPI
          refine wpAny_pyIter_list hl1 ?_
          refine wpAny_bind (wpAny_runValue ?_)
          refine walk ((Walks.list hh3 _ l hneI items).toS) lt (fun _ _ z => z) ⟨⟨_, Heap.get?_push_size _ rfl, rfl, rfl⟩, (hl1.push _)⟩ fun h' tk' hS' hk' => ?_
          show wpAny _ _ _ _ _ _
          refine wpAny_pure ?_
          show wpAny _ _ (ret Value.none) _ _ _
          exact wpAny_pure ⟨rfl, h', tk', rfl, hS', hk'⟩
        · obtain ⟨ol, hol, hcl, nl, hdl⟩ := hl
          obtain ⟨ocls, odict, odata, oslots⟩ := ol
          simp only at hcl hdl
          subst hcl
          subst hdl
          have hol' : (s.heap.push { cls := .type "set", dict := none, data := .set #[] 0 (.fresh 0 0 led) }).get? l = some { cls := .type "tuple", dict := odict, data := .seq items nl, slots := oslots } := Heap.get?_push_of_some _ hol
          have hsls := PySem.F.sub_tuple_set
          have hslf := PySem.F.sub_tuple_frozenset
          have hne : (Value.type "tuple" == Value.type "dict") = false := by decide
          have hl1 : (s.heap.push { cls := .type "set", dict := none, data := .set #[] 0 (.fresh 0 0 led) }).IsTuple l items := ⟨_, hol', rfl, nl, rfl⟩
          have lt : l < s.heap.objs.size := Heap.lt_size hol
          have hneI : l ≠ (s.heap.push { cls := .type "set", dict := none, data := .set #[] 0 (.fresh 0 0 led) }).objs.size := by
            rw [Heap.size_push]
            exact Nat.ne_of_lt (Nat.lt_succ_of_lt lt)
          unfold Builtin.«set.__init__» noKeywords Builtin.Frozenset.updateFrom
          generalize hPI : pyIter = PI
          wp_walk
          subst hPI
          refine wpAny_pyIter_tuple hl1 ?_
          refine wpAny_bind (wpAny_runValue ?_)
          refine walk ((Walks.tuple hh3 _ l hneI items).toS) lt (fun _ _ z => z) ⟨⟨_, Heap.get?_push_size _ rfl, rfl, rfl⟩, (hl1.push _)⟩ fun h' tk' hS' hk' => ?_
          show wpAny _ _ _ _ _ _
          refine wpAny_pure ?_
          show wpAny _ _ (ret Value.none) _ _ _
          exact wpAny_pure ⟨rfl, h', tk', rfl, hS', hk'⟩
      · cases r₂ with
        | error e => exact hr₂
        | ok fl₂ =>
          cases fl₂ with
          | ret r =>
            obtain ⟨rfl, h', tk, rfl, hS', hk'⟩ := hr₂
            repeat (any_goals (first | assumption | wp_step))
            exact h _ _ hS' hk'
          | _ => exact hr₂.elim
    | _ => exact hr.elim
end
end XS

namespace XS
open PySem PySem.Spec PyProof.Rows L2
/-- len(set(xs)), xs a list or a tuple of texts -/
def tLenS (K : PySem.W.Frag) (ta : TE) : TE := fun σ H Q => ta σ H fun x H1 => ∃ (l : Addr) (xs : List Str), x = .ref l ∧ (SqL K H1 l (xs.map V.str) ∨ SqT K H1 l (xs.map V.str)) ∧ xs.length ≤ 1000 ∧ Q (.int (un xs xs.length : Nat)) H1
theorem pe_lenS {X : Cx} {a : Expr} {ta : TE} {p p2 q pos : Pos} (hc : X.calm = true) (hg : Gl X "len") (hm : X.mg "len" = none) (hg2 : Gl X "set") (hm2 : X.mg "set" = none) (ha : PE X a ta)
    (na : starEach [a] X.env = (false, eval a X.env) :: starEach [] X.env := by rfl) : PE X (.Call (.Name "len" p) [.Call (.Name "set" p2) [a] [] q] [] pos) (tLenS X.K ta) := by
  refine ⟨fun pins s σ H Q I h => ?_⟩
  refine Call_ (ld_blt I hg hm boot_len ?_)
  refine PyProof.Rows.callWith_builtin1 (PyProof.Rows.args_cons ?_ rfl) rfl rfl
  refine Call_ (ld_blt I hg2 hm2 boot_set ?_)
  refine PyProof.Rows.callWith_type1 (PyProof.Rows.args_cons (thn (ha.run pins s σ H _ I h) fun v s1 ⟨x, H1, I1, r1, q1⟩ => PyProof.Rows.args_nil ?_) na) na rfl
  obtain ⟨l, xs, rfl, hq, h1, q1⟩ := q1
  cases r1
  have small : xs.length + 1 < scanBound := by
    unfold scanBound
    omega
  obtain ⟨its, r, hl⟩ : ∃ its : List Value, Vals (xs.map V.str) its ∧ (s1.heap.IsList l its.toArray ∨ s1.heap.IsTuple l its.toArray) := by
    rcases hq with hq | hq
    · obtain ⟨its, r, pl, _⟩ := I1.list hq
      exact ⟨its, r, .inl pl.isList⟩
    · obtain ⟨its, r, pl, _⟩ := I1.tuple hq
      exact ⟨its, r, .inr pl⟩
  have hlen : its.toArray.size = xs.length := by
    rw [List.size_toArray, ← r.length, List.length_map]
  refine call_set_strs (I1.ok.hd hc) hl (by simpa using strsAre_of r) small fun h' tk hS hk => ?_
  refine PyProof.Rows.args_nil ?_
  rw [hlen] at hS
  obtain ⟨o, es, ep, t, ho, hex, hd, _, _, _, hf, hn⟩ := hS
  have I2 : Inv X pins σ H1 { s1 with heap := h', toks := tk } := I1.kept fun b o e => hk b o (Heap.lt_size e) e
  have := un_le xs xs.length
  exact call_len_set ho hex hd hf (by rw [hn] <;> omega) ⟨.int (un xs xs.length : Nat), H1, I2.tok _, ⟨_, by rw [hn]⟩, q1⟩
end XS
set_option Elab.async false
set_option linter.all false
set_option maxRecDepth 100000
set_option maxHeartbeats 4000000
namespace Q
open PySem L2
def top (i : Nat) : Stmt := PySem.Challenge.pw_sayfill_k07_phrases_checked.main.body.getD i (.Pass ⟨0, 0, 0, 0⟩)
abbrev sIsRow : Stmt := top 2
abbrev sIsPair : Stmt := top 3
abbrev sIsSmall : Stmt := top 4
abbrev sIsWord : Stmt := top 5
abbrev sWordsOf : Stmt := top 6
abbrev sIsText : Stmt := top 7
abbrev sUnlike : Stmt := top 8
abbrev sAreFacts : Stmt := top 9
abbrev sInSeq : Stmt := top 10
abbrev sETalkError : Stmt := top 12
abbrev sEBadValue : Stmt := top 13
abbrev sEBadField : Stmt := top 14
abbrev sETooMany : Stmt := top 15
abbrev sCheckPhrases : Stmt := top 21
abbrev sMeanings : Stmt := top 22
abbrev sReadingsOf : Stmt := top 23
abbrev sActsOnce : Stmt := top 24
abbrev sIsPhrase : Stmt := top 25
abbrev sIsAct : Stmt := top 26
abbrev sSteps : Stmt := top 27
abbrev sRows : Stmt := top 28
abbrev sOneNumberMore : Stmt := top 29
abbrev sForm : Stmt := top 36
abbrev sInit : Stmt := inClass sForm 0
abbrev sFieldsM : Stmt := inClass sForm 1
abbrev sRulesM : Stmt := inClass sForm 2
abbrev sEqM : Stmt := inClass sForm 3
abbrev sAreFields : Stmt := top 37
abbrev sAreValues : Stmt := top 38
abbrev sAreRules : Stmt := top 39
abbrev sWays : Stmt := top 40
abbrev sEach : Stmt := top 41
abbrev sLStart : Stmt := top 43
abbrev sLDraw : Stmt := top 44
abbrev sLSame : Stmt := top 45
abbrev sLWords : Stmt := top 46
abbrev sLTable : Stmt := top 47
abbrev sLForm : Stmt := top 48
abbrev sLActs : Stmt := top 49
abbrev sLSpoken : Stmt := top 50
abbrev sLBook : Stmt := top 51
abbrev sLListed : Stmt := top 52
abbrev sLRefuses : Stmt := top 53
abbrev sLOther : Stmt := top 54
abbrev sLBadTexts : Stmt := top 55
abbrev sLBadActs : Stmt := top 56
abbrev sLBadPairs : Stmt := top 57
abbrev sLLongBook : Stmt := top 58
abbrev sLaw : Stmt := top 59
end Q
set_option Elab.async false
set_option linter.all false
set_option maxRecDepth 100000
set_option maxHeartbeats 4000000
namespace Q
open PySem L2
end Q
/-! ### data: what may be handed in -/
namespace Q
open PySem L2
theorem seqT_same {K : PySem.W.Frag} {H H' : Hp} {a : Addr} {xs : List V} (s : Same H H') (h : SqT K H a xs) : SqT K H' a xs := by
  rcases h with (h | ⟨o, h⟩) | h
  · exact .inl (.inl (s _ _ h))
  · exact .inl (.inr ⟨o, s _ _ h⟩)
  · exact .inr h
mutual
theorem dp_same {K : PySem.W.Frag} {H H' : Hp} (s : Same H H') : ∀ {v : V} {d : PyData}, Dp K H v d → Dp K H' v d
  | _, _, .non => .non
  | _, _, .bl b => .bl b
  | _, _, .int i => .int i
  | _, _, .str x => .str x
  | _, _, .lst h a => .lst (s.seq h) (dps_same s a)
  | _, _, .tup h a => .tup (seqT_same s h) (dps_same s a)
theorem dps_same {K : PySem.W.Frag} {H H' : Hp} (s : Same H H') : ∀ {vs : List V} {ds : List PyData}, DpAll K H vs ds → DpAll K H' vs ds
  | _, _, .nil => .nil
  | _, _, .cons h t => .cons (dp_same s h) (dps_same s t)
end
theorem dps_len {K : PySem.W.Frag} {H : Hp} : ∀ {vs : List V} {ds : List PyData}, DpAll K H vs ds → vs.length = ds.length
  | _, _, .nil => rfl
  | _, _, .cons _ t => by rw [List.length_cons, List.length_cons, dps_len t]
theorem dps_get {K : PySem.W.Frag} {H : Hp} : ∀ {vs : List V} {ds : List PyData} {i : Nat} {v : V}, DpAll K H vs ds → vs[i]? = some v → ∃ d, ds[i]? = some d ∧ Dp K H v d
  | _, _, _, _, .nil, e => by simp at e
  | _, _, 0, v, .cons h _, e => by
    simp at e
    subst e
    exact ⟨_, rfl, h⟩
  | _, _, i + 1, v, .cons _ t, e => by
    obtain ⟨d, h1, h2⟩ := dps_get (i := i) (v := v) t (by simpa using e)
    exact ⟨d, by simpa using h1, h2⟩
def tyName : PyData → String
  | .none => "NoneType"
  | .bool _ => "bool"
  | .int _ => "int"
  | .str _ => "str"
  | .list _ => "list"
  | .tuple _ => "tuple"
  | .dict _ => "dict"
theorem tyD {K : PySem.W.Frag} {H : Hp} {v : V} {d : PyData} (h : Dp K H v d) : TyX K H v (.type (tyName d)) := by
  cases h with
  | non => exact .base .non
  | bl b => exact .base (.bl b)
  | int i => exact .base (.int i)
  | str x => exact .base (.str x)
  | lst h _ =>
    rcases h with (h | ⟨o, h⟩) | ⟨o, its, n, h, c, _⟩
    · exact .base (.lst h)
    · exact .base (.frz h)
    · exact .kList h c
  | tup h _ =>
    rcases h with (h | ⟨o, h⟩) | ⟨o, its, n, h, c, _⟩
    · exact .base (.tup h)
    · exact .fTuple h
    · exact .kTuple h c
/-! ### the mirror -/
def rowOf : PyData → Option (List PyData)
  | .list xs => some xs
  | .tuple xs => some xs
  | _ => none
def isRow (d : PyData) : Bool := (rowOf d).isSome
def isPair (d : PyData) : Bool := match rowOf d with
  | some xs => decide (xs.length = 2)
  | none => false
def isStr : PyData → Bool
  | .str _ => true
  | _ => false
/-- a to z, as the program asks it -/
def az (c : Nat) : Bool := !decide (([c] : List Nat) < ("a" : Str).cps.toList) && !decide (("z" : Str).cps.toList < [c])
def word (s : Str) : Bool := decide (1 ≤ s.length) && decide (s.length ≤ 8) && s.cps.toList.all az
def isWord : PyData → Bool
  | .str s => word s
  | _ => false
theorem no_dict {K : PySem.W.Frag} {H : Hp} {v : V} {kvs : List (PyData × PyData)} : ¬ Dp K H v (.dict kvs) := fun h => by cases h
theorem kit_str {K : PySem.W.Frag} {d : PyData} (h : ∀ kvs, d ≠ .dict kvs) : PySem.W.kitOne K (.type (tyName d)) (.type "str") = some (isStr d) := by
  cases d with
  | dict kvs => exact absurd rfl (h kvs)
  | none => exact kit_ty (a := "NoneType") (b := "str") (by show kitB "NoneType" "str" = some false; decide +kernel)
  | bool b => exact kit_ty (a := "bool") (b := "str") (by show kitB "bool" "str" = some false; decide +kernel)
  | int i => exact kit_ty (a := "int") (b := "str") (by show kitB "int" "str" = some false; decide +kernel)
  | str s => exact kit_ty (a := "str") (b := "str") (by show kitB "str" "str" = some true; decide +kernel)
  | list xs => exact kit_ty (a := "list") (b := "str") (by show kitB "list" "str" = some false; decide +kernel)
  | tuple xs => exact kit_ty (a := "tuple") (b := "str") (by show kitB "tuple" "str" = some false; decide +kernel)
theorem kit_row {K : PySem.W.Frag} {d : PyData} (h : ∀ kvs, d ≠ .dict kvs) : PySem.W.kitAny K (.type (tyName d)) [.type "list", .type "tuple"] = some (isRow d) := by
  have no : ∀ {a : String}, kitB a "list" = some false → kitB a "tuple" = some false → PySem.W.kitAny K (.type a) [.type "list", .type "tuple"] = some false := fun h1 h2 =>
    kitAny_cons (kit_ty h1) (fun _ => kitAny_cons (kit_ty h2) (fun _ => kitAny_nil) (fun z => Bool.noConfusion z)) (fun z => Bool.noConfusion z)
  cases d with
  | dict kvs => exact absurd rfl (h kvs)
  | none => exact no (by decide +kernel) (by decide +kernel)
  | bool b => exact no (a := "bool") (by decide +kernel) (by decide +kernel)
  | int i => exact no (a := "int") (by decide +kernel) (by decide +kernel)
  | str s => exact no (a := "str") (by decide +kernel) (by decide +kernel)
  | list xs => exact kitAny_cons (b := true) (kit_ty (a := "list") (by decide +kernel)) (fun z => Bool.noConfusion z) (fun _ => rfl)
  | tuple xs => exact kitAny_cons (b := false) (kit_ty (a := "tuple") (by decide +kernel)) (fun _ => kitAny_cons (b := true) (kit_ty (a := "tuple") (by decide +kernel)) (fun z => Bool.noConfusion z) (fun _ => rfl)) (fun z => Bool.noConfusion z)
theorem dp_no_dict {K : PySem.W.Frag} {H : Hp} {v : V} {d : PyData} (h : Dp K H v d) : ∀ kvs, d ≠ .dict kvs := fun kvs e => no_dict (e ▸ h)
/-- the strings in it are no longer than 1,000,000 -/
def Short : PyData → Prop
  | .str s => s.length ≤ 1000000
  | _ => True
theorem new_same {H : Hp} {p : Addr} (h : H p = none) (o : HO) : Same H (upd H p o) := fun b u q => by
  rw [upd_ne (ne_of_none q h)]
  exact q
theorem row_len {K : PySem.W.Frag} {H : Hp} {v : V} {d : PyData} {xs : List PyData} (h : Dp K H v d) (r : rowOf d = some xs) : ∃ (p : Addr) (ys : List V), v = .ref p ∧ (SqL K H p ys ∨ SqT K H p ys) ∧ DpAll K H ys xs := by
  cases h with
  | lst h a =>
    cases r
    exact ⟨_, _, rfl, .inl h, a⟩
  | tup h a =>
    cases r
    exact ⟨_, _, rfl, .inr h, a⟩
  | _ => cases r
/-! ### promises -/
structure Bb (mg : Str → Option Value) : Prop where
  isi : mg "isinstance" = none
  list : mg "list" = none
  tup : mg "tuple" = none
  str : mg "str" = none
  len : mg "len" = none
  all : mg "all" = none
  set : mg "set" = none
  dict : mg "dict" = none
  ml : ∃ t, mg "MOST_LETTERS" = some (.int 8 t)
def spIsRow (K : PySem.W.Frag) : Sp := fun vs H Q _ => ∃ (v : V) (d : PyData), vs = [v] ∧ Dp K H v d ∧ ∀ H', Same H H' → Q (.bl (isRow d)) H'
def spIsPair (K : PySem.W.Frag) : Sp := fun vs H Q _ => ∃ (v : V) (d : PyData), vs = [v] ∧ Dp K H v d ∧ ∀ H', Same H H' → Q (.bl (isPair d)) H'
def spIsWord (K : PySem.W.Frag) : Sp := fun vs H Q _ => ∃ (v : V) (d : PyData), vs = [v] ∧ Dp K H v d ∧ Short d ∧ ∀ H', Same H H' → Q (.bl (isWord d)) H'
section
variable {P : Program} {w : World} {K : PySem.W.Frag} {mg : Str → Option Value} {base : Heap}
theorem scIsRow : FnScope ["thing"] ["thing"] (defScope sIsRow) := ⟨rfl, rfl, rfl, by decide +kernel, rfl, by decide +kernel, by decide +kernel⟩
theorem ok_isrow {f : Addr} {fd : FuncData} (F : Fun K "is_row" "is_row" sIsRow f fd) (T : Bb mg) : FnOk P w K mg base CX0 1 f fd ["thing"] (spIsRow K) := by
  refine F.ok scIsRow (fun vs H Q E h => ?_) (fun cdv A outer s H vs Q E hr h => ?_)
  · obtain ⟨v, d, rfl, _⟩ := h
    rfl
  obtain ⟨v, d, rfl, hd, k⟩ := h
  have vl : PySem.bootBuiltins "list" = some (.type "list") := by decide +kernel
  have vt : PySem.bootBuiltins "tuple" = some (.type "tuple") := by decide +kernel
  refine ⟨_, pss_one (ps_ret (pe_callB call_isiT rfl T.isi (by decide +kernel) (pa_cons (pv 0) (pa_cons (pe_tup (pa_cons (pe_bltn (v := .ty "list") rfl T.list vl rfl) (pa_cons (pe_bltn (v := .ty "tuple") rfl T.tup vt rfl) pa_nil))) pa_nil)))), ?_⟩
  refine ⟨_, rfl, (by show 2 ≤ sizeLine; decide), fun p hp => ?_⟩
  have s := new_same hp (.tup [.ty "list", .ty "tuple"])
  exact ⟨_, p, _, _, _, _, rfl, upd_same, .cons (.ty _) (.cons (.ty _) .nil), tyD (dp_same s hd), kit_row (dp_no_dict hd), k _ s⟩
theorem scIsPair : FnScope ["thing"] ["thing"] (defScope sIsPair) := ⟨rfl, rfl, rfl, by decide +kernel, rfl, by decide +kernel, by decide +kernel⟩
theorem ok_ispair {f fR : Addr} {fd fdR : FuncData} (F : Fun K "is_pair" "is_pair" sIsPair f fd) (T : Bb mg) (GR : FnOk P w K mg base CX0 1 fR fdR ["thing"] (spIsRow K)) (kR : PySem.W.keepIn K (.ref fR) = true) (bR : Binds K fdR ["thing"] []) (mR : mg "is_row" = some (.ref fR)) :
    FnOk P w K mg base CX0 2 f fd ["thing"] (spIsPair K) := by
  refine F.ok scIsPair (fun vs H Q E h => ?_) (fun cdv A outer s H vs Q E hr h => ?_)
  · obtain ⟨v, d, rfl, _⟩ := h
    rfl
  obtain ⟨v, d, rfl, hd, k⟩ := h
  refine ⟨_, pss_one (ps_ret (pe_and (pe_call GR hr rfl mR kR bR .nil pass0 (pa_cons (pv 0) pa_nil)) (pe_one (pe_cmpR op_eq (pe_callB call_len_seq rfl T.len PySem.boot_len (pa_cons (pv 0) pa_nil)) pe_int (nomark _))))), ?_⟩
  refine ⟨_, rfl, v, d, rfl, hd, fun H1 s1 => ⟨_, rfl, ?_⟩⟩
  cases e : rowOf d with
  | none =>
    have e1 : isRow d = false := by
      unfold isRow
      rw [e]
      rfl
    have e2 : isPair d = false := by
      unfold isPair
      rw [e]
    rw [e1]
    refine iteF ?_
    have q := k H1 s1
    rwa [e2] at q
  | some xs =>
    have e1 : isRow d = true := by
      unfold isRow
      rw [e]
      rfl
    obtain ⟨p, ys, rfl, hs, ha⟩ := row_len (dp_same s1 hd) e
    have e2 : isPair d = decide (V.int (ys.length : Int) = V.int 2) := by
      unfold isPair
      rw [e]
      show decide (xs.length = 2) = _
      rw [← dps_len ha]
      exact decide_eq_decide.mpr ⟨fun z => by rw [z]; rfl, fun z => by have := V.int.inj z; omega⟩
    rw [e1]
    refine iteT ⟨_, rfl, p, ys, rfl, hs, rfl, ?_⟩
    have q := k H1 s1
    rwa [e2] at q
end
end Q
set_option Elab.async false
set_option linter.all false
set_option maxRecDepth 100000
set_option maxHeartbeats 4000000
/-! ### is_word -/
namespace Q
open PySem L2
theorem iteDT {p A B : Prop} [Decidable p] (hp : p) (h : A) : if decide p = true then A else B := by
  rw [decide_eq_true hp]
  exact iteT h
theorem iteDF {p A B : Prop} [Decidable p] (hp : ¬ p) (h : B) : if decide p = true then A else B := by
  rw [decide_eq_false hp]
  exact iteF h
theorem iteB {b : Bool} {A B : Prop} (h1 : b = true → A) (h2 : b = false → B) : if b = true then A else B := by
  cases b
  · exact iteF (h2 rfl)
  · exact iteT (h1 rfl)
theorem q_is {Q : VK} {H : Hp} {c d : Bool} (h : c = d) (q : Q (.bl d) H) : Q (.bl c) H := by
  rw [h]
  exact q
theorem small1000 {n : Nat} (h : n ≤ 1000) : n < sizeLine := by
  have : 1000 < sizeLine := by decide
  omega
/-- isinstance(x, T) -/
theorem pe_isi {X : Cx} {e1 : Expr} {t1 : TE} {T : Str} {tn : String} {p p2 pos : Pos} (hi : X.mg "isinstance" = none) (hm : X.mg T = none) (hv : PySem.bootBuiltins T = some (.type tn)) (h1 : PE X e1 t1)
    (g1 : Gl X "isinstance" := by rfl) (g2 : Gl X T := by rfl) (hn : T ≠ "__name__" := by decide) (hd : (T == ("__debug__" : Str)) = false := by decide)
    (he : starEach (e1 :: [.Name T p2]) X.env = (false, eval e1 X.env) :: starEach [.Name T p2] X.env := by rfl) (hpl : (backTo pos (starEach [.Name T p2] X.env)).any (·.1) = false := by rfl)
    (he2 : starEach (Expr.Name T p2 :: []) X.env = (false, eval (.Name T p2) X.env) :: starEach [] X.env := by rfl) :
    PE X (.Call (.Name "isinstance" p) [e1, .Name T p2] [] pos) (tCB (rIsi X.K) (tCons t1 (tCons (tC (.ty tn)) tNil))) :=
  pe_callB call_isi g1 hi (by decide +kernel) (pa_cons h1 (pa_cons (pe_bltn (v := .ty tn) g2 hm hv rfl hn hd) pa_nil he2) he) (he := he) (hpl := hpl)
theorem take_one {α : Type} {xs : List α} {i : Nat} {x : α} (h : xs[i]? = some x) : xs.take (i + 1) = xs.take i ++ [x] := by
  rw [List.take_add_one, h]
  rfl
section
variable {P : Program} {w : World} {K : PySem.W.Frag} {mg : Str → Option Value} {base : Heap}
theorem scIsSmall : FnScope ["string", "sign"] ["string"] (defScope sIsSmall) := ⟨rfl, rfl, rfl, by decide +kernel, rfl, by decide +kernel, by decide +kernel⟩
/-- small letters, one or more -/
def small (x : Str) : Bool := decide (0 < x.length) && x.cps.toList.all az
def spIsSmall : Sp := fun vs H Q _ => ∃ x : Str, vs = [.str x] ∧ x.length ≤ 1000 ∧ ∀ H', Same H H' → Q (.bl (small x)) H'
theorem ok_issmall {f : Addr} {fd : FuncData} (F : Fun K "is_small" "is_small" sIsSmall f fd) (T : Bb mg) : FnOk P w K mg base CX0 1 f fd ["string"] spIsSmall := by
  refine F.ok scIsSmall (fun vs H Q E h => ?_) (fun cdv A outer s H vs Q E hr h => ?_)
  · obtain ⟨x, rfl, _⟩ := h
    rfl
  obtain ⟨x, rfl, hx, k⟩ := h
  refine ⟨_, pss_one (ps_ret (pe_and (pe_cmpR op_gt (pe_callB call_len_str rfl T.len PySem.boot_len (pa_cons (pv 0) pa_nil)) pe_int (nomark _))
    (pe_one (pe_callB (cr_all (by rfl)) rfl T.all (by decide +kernel) (pa_cons (pe_lc (own := [("sign", 1)]) (g := gName 1) (tt := tYes) (by rfl) scIsSmall.nd (pi_str (pv 0)) (blkOk_by (N := ["string", "sign"]) (sc := defScope sIsSmall) (by decide +kernel))
      (fun _ _ _ _ _ => pg_name (i := 1) scIsSmall.nd rfl (.inl rfl)) (fun _ _ _ _ _ => pts_nil) (fun _ _ _ _ _ => pe_chain op_le_str op_le_str pe_str (pv 1) pe_str)) pa_nil))))), ?_⟩
  have hsz : x.length ≤ sizeLine := by
    have : 1000 ≤ sizeLine := by decide
    omega
  refine ⟨_, rfl, x, rfl, hsz, _, _, rfl, rfl, _, rfl, ?_⟩
  by_cases h0 : (0 : Int) < (x.length : Int)
  · refine iteDT h0 ?_
    refine ⟨_, rfl, x, rfl, fun D hD => lc_it (walk_str (z := x)) (fun i H' => H' D = some (.lst (((x.cps.toList.take i).map az).map V.bl)) ∧ Same H H') ⟨upd_same, new_same hD _⟩ (fun _ _ _ _ => trivial) (fun i c H1 H2 hi hP hY => ?_) (fun H' hP => ?_)⟩
    · obtain ⟨hL, s1⟩ := hP
      obtain ⟨rfl, c1, hc, rfl⟩ := hY
      have hc2 : x.cps.toList[i]? = some c1 := by
        rw [Array.getElem?_toList]
        exact hc
      have fin : ∀ b : Bool, b = az c1 → ∃ acc, H2 D = some (.lst acc) ∧ acc.length < sizeLine ∧ (fun H' => H' D = some (.lst (((x.cps.toList.take (i + 1)).map az).map V.bl)) ∧ Same H H') (upd H2 D (.lst (acc ++ [.bl b]))) := fun b e => by
        refine ⟨_, hL, small1000 ?_, ?_, fun b o q => ?_⟩
        · rw [List.length_map, List.length_map, List.length_take, Array.length_toList]
          have : x.cps.size = x.length := rfl
          omega
        · rw [upd_same, take_one hc2, List.map_append, List.map_append, e]
          rfl
        · rw [upd_ne (ne_of_none q hD)]
          exact s1 _ _ q
      refine ⟨rfl, ?_⟩
      unfold tYes
      refine iteT ⟨_, rfl, _, _, rfl, rfl, _, rfl, iteB (fun e1 => ⟨_, _, rfl, rfl, fin _ ?_⟩) (fun e1 => fin _ ?_)⟩
      · unfold az
        have e2 : (!decide (([c1] : List Nat) < ("a" : Str).cps.toList)) = true := e1
        rw [e2, Bool.true_and]
      · unfold az
        have e2 : (!decide (([c1] : List Nat) < ("a" : Str).cps.toList)) = false := e1
        rw [e2, Bool.false_and]
    · obtain ⟨hL, s1⟩ := hP
      rw [List.take_of_length_le (by rw [Array.length_toList]; exact Nat.le_refl _)] at hL
      refine ⟨_, _, rfl, SqL.of hL, q_is ?_ (k _ s1)⟩
      show ((x.cps.toList.map az).all id) = small x
      unfold small
      rw [decide_eq_true (by omega : 0 < x.length), List.all_map]
      rfl
  · refine iteDF h0 (q_is ?_ (k H (Same.refl H)))
    show false = small x
    unfold small
    rw [decide_eq_false (by omega : ¬ 0 < x.length), Bool.false_and]
theorem scIsWord : FnScope ["thing"] ["thing"] (defScope sIsWord) := ⟨rfl, rfl, rfl, by decide +kernel, rfl, by decide +kernel, by decide +kernel⟩
theorem ok_isword {f fM : Addr} {fd fdM : FuncData} (F : Fun K "is_word" "is_word" sIsWord f fd) (T : Bb mg) (GM : FnOk P w K mg base CX0 1 fM fdM ["string"] spIsSmall) (kM : PySem.W.keepIn K (.ref fM) = true) (bM : Binds K fdM ["string"] []) (mM : mg "is_small" = some (.ref fM)) :
    FnOk P w K mg base CX0 2 f fd ["thing"] (spIsWord K) := by
  refine F.ok scIsWord (fun vs H Q E h => ?_) (fun cdv A outer s H vs Q E hr h => ?_)
  · obtain ⟨v, d, rfl, _⟩ := h
    rfl
  obtain ⟨v, d, rfl, hd, hs, k⟩ := h
  obtain ⟨tML, hML⟩ := T.ml
  have vs_ : PySem.bootBuiltins "str" = some (.type "str") := by decide +kernel
  refine ⟨_, pss_one (ps_ret (pe_and (pe_isi T.isi T.str vs_ (pv 0)) (pe_and (pe_cmpR op_le (pe_callB call_len_str rfl T.len PySem.boot_len (pa_cons (pv 0) pa_nil)) (pe_glob (v := .int 8) (by rfl) hML ⟨_, rfl⟩) (nomark _))
    (pe_one (pe_call GM hr rfl mM kM bM .nil pass0 (pa_cons (pv 0) pa_nil)))))), ?_⟩
  have ki := kit_str (K := K) (dp_no_dict hd)
  refine ⟨_, rfl, _, _, _, _, _, rfl, .ty _, tyD hd, ki, _, rfl, ?_⟩
  cases hd with
  | str x =>
    have hx : x.length ≤ 1000000 := hs
    have hsz : x.length ≤ sizeLine := by
      have : 1000000 ≤ sizeLine := by decide
      omega
    refine iteT ⟨_, rfl, x, rfl, hsz, _, _, rfl, rfl, _, rfl, ?_⟩
    by_cases h8 : (x.length : Int) ≤ 8
    · refine iteDT h8 ⟨_, rfl, x, rfl, by omega, fun H1 s1 => q_is ?_ (k H1 s1)⟩
      show small x = word x
      unfold small word
      rw [decide_eq_true (by omega : x.length ≤ 8), Bool.and_true]
      rfl
    · refine iteDF h8 (q_is (d := isWord (.str x)) ?_ (k H (Same.refl H)))
      show false = word x
      unfold word
      rw [decide_eq_false (by omega : ¬ x.length ≤ 8), Bool.and_false, Bool.false_and]
  | _ => exact iteF (k H (Same.refl H))
end
end Q
set_option Elab.async false
set_option linter.all false
set_option maxRecDepth 100000
set_option maxHeartbeats 4000000
/-! ### are_unlike_words -/
namespace Q
open PySem L2
def strOf : PyData → Str
  | .str s => s
  | _ => Str.empty
def textsOf (ds : List PyData) : List Str := ds.map strOf
def unlike (ds : List PyData) : Bool := ds.all isWord && decide (textsOf ds).Nodup
theorem words_vals {K : PySem.W.Frag} {H : Hp} : ∀ {ys : List V} {ds : List PyData}, DpAll K H ys ds → ds.all isWord = true → ys = (textsOf ds).map V.str
  | _, _, .nil, _ => rfl
  | _, _, .cons h t, e => by
    rw [List.all_cons, Bool.and_eq_true] at e
    rw [words_vals t e.2]
    cases h with
    | str x => rfl
    | _ => exact absurd e.1 (by intro z; cases z)
theorem words_int {n m : Nat} : decide (V.int (n : Int) = V.int (m : Int)) = decide (n = m) :=
  decide_eq_decide.mpr ⟨fun z => by have := V.int.inj z; omega, fun z => by rw [z]⟩
def spUnlike (K : PySem.W.Frag) : Sp := fun vs H Q _ => ∃ (p : Addr) (ys : List V) (ds : List PyData), vs = [.ref p] ∧ (SqL K H p ys ∨ SqT K H p ys) ∧ DpAll K H ys ds ∧ (∀ d ∈ ds, Short d) ∧ ds.length ≤ 1000 ∧ ∀ H', Same H H' → Q (.bl (unlike ds)) H'
/-- over a list or a tuple -/
def iRow (K : PySem.W.Frag) (te : TE) : TI := fun σ H R => iList K te σ H R ∨ iTup K te σ H R
theorem pi_row {X : Cx} {tg e : Expr} {te : TE} (he : PE X e te) : PI X tg e (iRow X.K te) :=
  ⟨fun pins s σ H R I h => h.elim (fun q => (pi_list he).run pins s σ H R I q) (fun q => (pi_tup he).run pins s σ H R I q)⟩
theorem sq_same {K : PySem.W.Frag} {H H' : Hp} {p : Addr} {ys : List V} (s : Same H H') (h : SqL K H p ys ∨ SqT K H p ys) : SqL K H' p ys ∨ SqT K H' p ys :=
  h.elim (fun q => .inl (s.seq q)) (fun q => .inr (seqT_same s q))
/-- a comprehension over a list or a tuple that its turns leave as it is -/
theorem lc_row {K : PySem.W.Frag} {p : Addr} {ys : List V} {t0 : TE} {g : TG} {tt : TT} {te : TE} {vs : List Nat} {σ : St} {H : Hp} {Q : VK} (Pv : Addr → Nat → Hp → Prop) (ht : ∀ Q' : VK, Q' (.ref p) H → t0 σ H Q') (hq : SqL K H p ys ∨ SqT K H p ys)
    (h0 : ∀ D, H D = none → Pv D 0 (upd H D (.lst []))) (hG : ∀ D i H', H D = none → Pv D i H' → Same H H')
    (hs : ∀ D i x H', H D = none → i < ys.length → Pv D i H' → ys[i]? = some x → g x (wipe σ vs) H' fun σ2 H2 => wipe σ2 vs = wipe σ vs ∧ tt σ2 H2 fun b H3 =>
      if b = true then te σ2 H3 fun y H4 => ∃ acc, H4 D = some (.lst acc) ∧ acc.length < sizeLine ∧ Pv D (i + 1) (upd H4 D (.lst (acc ++ [y]))) else Pv D (i + 1) H3)
    (hd : ∀ D H', H D = none → Pv D ys.length H' → Q (.ref D) H') : tLc (iRow K t0) g tt te vs σ H Q := by
  rcases hq with hq | hq
  · refine .inl (ht _ ⟨p, rfl, ⟨ys, hq⟩, fun D hD => lc_it walk_list (Pv D) (h0 D hD) (fun i H' _ hP => (hG D i H' hD hP).seq hq) (fun i x H1 H2 hi hP hY => ?_) (fun H' hP => hd D H' hD hP)⟩)
    obtain ⟨rfl, hx⟩ := hY
    exact hs D i x H2 hD hi hP hx
  · refine .inr (ht _ ⟨p, rfl, ⟨ys, hq⟩, fun D hD => lc_it walk_tup (Pv D) (h0 D hD) (fun i H' _ hP => seqT_same (hG D i H' hD hP) hq) (fun i x H1 H2 hi hP hY => ?_) (fun H' hP => hd D H' hD hP)⟩)
    obtain ⟨rfl, hx⟩ := hY
    exact hs D i x H2 hD hi hP hx
section
variable {P : Program} {w : World} {K : PySem.W.Frag} {mg : Str → Option Value} {base : Heap}
theorem scUnlike : FnScope ["things", "thing"] ["things"] (defScope sUnlike) := ⟨rfl, rfl, rfl, by decide +kernel, rfl, by decide +kernel, by decide +kernel⟩
theorem ok_unlike {f fW : Addr} {fd fdW : FuncData} (F : Fun K "are_unlike_words" "are_unlike_words" sUnlike f fd) (T : Bb mg) (GW : FnOk P w K mg base CX0 2 fW fdW ["thing"] (spIsWord K)) (kW : PySem.W.keepIn K (.ref fW) = true) (bW : Binds K fdW ["thing"] []) (mW : mg "is_word" = some (.ref fW)) :
    FnOk P w K mg base CX0 3 f fd ["things"] (spUnlike K) := by
  refine F.ok scUnlike (fun vs H Q E h => ?_) (fun cdv A outer s H vs Q E hr h => ?_)
  · obtain ⟨p, ys, ds, rfl, _⟩ := h
    rfl
  obtain ⟨p, ys, ds, rfl, hq, ha, hs, hn, k⟩ := h
  have hlen := dps_len ha
  refine ⟨_, pss_one (ps_ret (pe_and (pe_callB (cr_all (by rfl)) rfl T.all (by decide +kernel) (pa_cons (pe_lc (own := [("thing", 1)]) (g := gName 1) (tt := tYes) (by rfl) scUnlike.nd (pi_row (pv 0)) (blkOk_by (N := ["things", "thing"]) (sc := defScope sUnlike) (by decide +kernel))
      (fun _ _ _ _ _ => pg_name (i := 1) scUnlike.nd rfl (.inl rfl)) (fun _ _ _ _ _ => pts_nil) (fun _ _ _ _ _ => pe_call GW hr rfl mW kW bW .nil pass0 (pa_cons (pv 1) pa_nil))) pa_nil))
    (pe_one (pe_cmpR op_eq (XS.pe_lenS (by rfl) rfl T.len rfl T.set (pv 0)) (pe_callB call_len_seq rfl T.len PySem.boot_len (pa_cons (pv 0) pa_nil)) (nomark _))))), ?_⟩
  unfold tRet tAndV tCB tCons
  show tLc (iRow K (tVar 0)) (gName 1) tYes (tCall (spIsWord K) [] E0 (tCons (tVar 1) tNil)) [1] _ H _
  refine lc_row (ys := ys) (fun D i H' => H' D = some (.lst (((ds.take i).map isWord).map V.bl)) ∧ Same H H') (fun Q' q => ⟨_, rfl, q⟩) hq (fun D hD => ⟨upd_same, new_same hD _⟩) (fun D i H' hD hP => hP.2) (fun D i x H1 hD hi hP hx => ?_) (fun D H' hD hP => ?_)
  · obtain ⟨d, hd, hdp⟩ := dps_get ha hx
    refine ⟨rfl, ?_⟩
    unfold tYes
    refine iteT ⟨_, rfl, x, d, rfl, dp_same hP.2 hdp, hs d (List.mem_of_getElem? hd), fun H2 s2 => ⟨_, s2 _ _ hP.1, small1000 ?_, ?_, fun b o q => ?_⟩⟩
    · rw [List.length_map, List.length_map, List.length_take]
      omega
    · rw [upd_same, take_one hd, List.map_append, List.map_append]
      rfl
    · rw [upd_ne (ne_of_none q hD)]
      exact s2 _ _ (hP.2 _ _ q)
  · obtain ⟨hL, s1⟩ := hP
    rw [List.take_of_length_le (by omega)] at hL
    refine ⟨_, _, rfl, SqL.of hL, _, rfl, iteB (fun e => ?_) (fun e => ?_)⟩
    · have e1 : ds.all isWord = true := by
        rw [List.all_map] at e
        exact e
      have e2 := words_vals ha e1
      have hq1 := sq_same s1 hq
      refine ⟨_, rfl, p, textsOf ds, rfl, by rw [← e2]; exact hq1, by unfold textsOf; rw [List.length_map]; exact hn, _, rfl, p, ys, rfl, hq1, rfl, ?_⟩
      refine q_is ?_ (k _ s1)
      unfold unlike
      rw [e1, Bool.true_and, words_int, ← XS.un_all, e2, List.length_map]
    · refine q_is ?_ (k _ s1)
      unfold unlike
      rw [List.all_map] at e
      have e1 : ds.all isWord = false := e
      rw [e1, Bool.false_and]
end
end Q
set_option Elab.async false
set_option linter.all false
set_option maxRecDepth 100000
set_option maxHeartbeats 4000000
/-! ### are_facts -/
namespace Q
open PySem L2 XD
/-- the values told of a field -/
def look (n : Str) : List (Str × List Str) → Option (List Str)
  | [] => none
  | (m, ws) :: t => if m = n then some ws else look n t
def stands (ws : List Str) (d : PyData) : Bool := (ws.map PyData.str).any fun z => PyData.eqv z d
def pairOf (f : PyData) : Option (PyData × PyData) := match rowOf f with
  | some [a, b] => some (a, b)
  | _ => none
def goFacts (t : List (Str × List Str)) (seen : List Str) : List PyData → Bool
  | [] => true
  | f :: fs => match pairOf f with
    | some (.str n, w) => match look n t with
      | some ws => !seen.contains n && (stands ws w && goFacts t (n :: seen) fs)
      | none => false
    | _ => false
def areFacts (t : List (Str × List Str)) (d : PyData) : Bool := match rowOf d with
  | some fs => decide (fs.length ≤ t.length) && goFacts t [] fs
  | none => false
/-- the fields as a form keeps them -/
inductive TabR (K : PySem.W.Frag) (H : Hp) : List Addr → List (Key × V) → List (Str × List Str) → Prop
  | nil : TabR K H [] [] []
  | cons {q v : Addr} {n : Str} {ws : List Str} {ps : List Addr} {kvs : List (Key × V)} {t : List (Str × List Str)} : SqT K H q [.str n, .ref v] → SqT K H v (ws.map V.str) → (∀ w ∈ ws, PyData.strOk w = true) → TabR K H ps kvs t → TabR K H (q :: ps) ((.inr n, .ref v) :: kvs) ((n, ws) :: t)
def TabAt (K : PySem.W.Frag) (H : Hp) (p : Addr) (t : List (Str × List Str)) : Prop := ∃ (ps : List Addr) (kvs : List (Key × V)), SqZ H p (ps.map V.ref) ∧ TabR K H ps kvs t ∧ (t.map (·.1)).Nodup ∧ t.length ≤ 1000
theorem TabR.same {K : PySem.W.Frag} {H H' : Hp} (s : Same H H') : ∀ {ps : List Addr} {kvs : List (Key × V)} {t : List (Str × List Str)}, TabR K H ps kvs t → TabR K H' ps kvs t
  | _, _, _, .nil => .nil
  | _, _, _, .cons a b o c => .cons (seqT_same s a) (seqT_same s b) o (TabR.same s c)
theorem TabR.len {K : PySem.W.Frag} {H : Hp} : ∀ {ps : List Addr} {kvs : List (Key × V)} {t : List (Str × List Str)}, TabR K H ps kvs t → ps.length = t.length ∧ kvs.map (·.1) = (t.map (·.1)).map Sum.inr
  | _, _, _, .nil => ⟨rfl, rfl⟩
  | _, _, _, .cons a b o c => ⟨by rw [List.length_cons, List.length_cons, (TabR.len c).1], by rw [List.map_cons, List.map_cons, List.map_cons, (TabR.len c).2]⟩
theorem TabR.prs {K : PySem.W.Frag} {H : Hp} : ∀ {ps : List Addr} {kvs : List (Key × V)} {t : List (Str × List Str)}, TabR K H ps kvs t → Paired (fun p (kv : Key × V) => SqT K H p [kV kv.1, kv.2] ∨ SqL K H p [kV kv.1, kv.2]) ps kvs
  | _, _, _, .nil => .nil
  | _, _, _, .cons a b o c => .cons (.inl a) (TabR.prs c)
theorem TabR.val {K : PySem.W.Frag} {H : Hp} {n : Str} : ∀ {ps : List Addr} {kvs : List (Key × V)} {t : List (Str × List Str)}, TabR K H ps kvs t →
    (look n t = none ∧ valV kvs (.inr n) = none) ∨ (∃ ws vp, look n t = some ws ∧ valV kvs (.inr n) = some (.ref vp) ∧ SqT K H vp (ws.map V.str) ∧ ∀ w ∈ ws, PyData.strOk w = true)
  | _, _, _, .nil => .inl ⟨rfl, rfl⟩
  | _, _, _, .cons (n := m) (v := v) (ws := ws) a b o c => by
    by_cases e : m = n
    · subst e
      exact .inr ⟨ws, v, by unfold look; rw [if_pos rfl], valV_pos rfl, b, o⟩
    · have e2 : ¬ (Sum.inr m : Key) = Sum.inr n := fun z => e (Sum.inr.inj z)
      have l1 : ∀ {ws : List Str} {t : List (Str × List Str)}, look n ((m, ws) :: t) = look n t := by
        intro ws t
        show (if m = n then some ws else look n t) = look n t
        rw [if_neg e]
      rcases TabR.val c with ⟨h1, h2⟩ | ⟨ws', vp, h1, h2, h3⟩
      · exact .inl ⟨l1.trans h1, (valV_neg e2).trans h2⟩
      · exact .inr ⟨ws', vp, l1.trans h1, (valV_neg e2).trans h2, h3⟩
theorem merge_nodup : ∀ (kvs acc : List (Key × V)), (∀ kv ∈ kvs, valV acc kv.1 = none) → (kvs.map (·.1)).Nodup → mergeK acc kvs = acc ++ kvs
  | [], acc, _, _ => (List.append_nil acc).symm
  | kv :: kvs, acc, h, hn => by
    rw [List.map_cons, List.nodup_cons] at hn
    show mergeK (putK acc kv.1 kv.2) kvs = _
    have h0 := h kv List.mem_cons_self
    rw [putK_new kv.2 h0, merge_nodup kvs _ (fun kv' hm => ?_) hn.2, List.append_assoc]
    · rfl
    · rw [valV_snoc kv.1 kv'.1 kv.2 acc h0, if_neg (fun z => hn.1 (List.mem_map.mpr ⟨kv', hm, z⟩))]
      exact h kv' (List.mem_cons_of_mem _ hm)
theorem nodup_inr {xs : List Str} (h : xs.Nodup) : (xs.map (Sum.inr : Str → Key)).Nodup := by
  induction xs with
  | nil => exact List.nodup_nil
  | cons x xs ih =>
    rw [List.nodup_cons] at h
    rw [List.map_cons, List.nodup_cons]
    refine ⟨fun z => ?_, ih h.2⟩
    obtain ⟨y, hy, e⟩ := List.mem_map.mp z
    exact h.1 (Sum.inr.inj e ▸ hy)
theorem dps_strs {K : PySem.W.Frag} {H : Hp} : ∀ ws : List Str, DpAll K H (ws.map V.str) (ws.map PyData.str)
  | [] => .nil
  | w :: ws => .cons (.str w) (dps_strs ws)
theorem lay_strs : ∀ ws : List Str, (∀ w ∈ ws, PyData.strOk w = true) → PyData.canLayAll0 (ws.map PyData.str) = true
  | [], _ => by simp [PyData.canLayAll0]
  | w :: ws, h => by simp [PyData.canLayAll0, PyData.canLay0, h w List.mem_cons_self, lay_strs ws fun x hx => h x (List.mem_cons_of_mem _ hx)]
/-- x not in a tuple of texts, x any data -/
def rNotInZ (K : PySem.W.Frag) : R2 := fun x y H Q => ∃ (p : Addr) (ws : List Str) (d : PyData), y = .ref p ∧ SqT K H p (ws.map V.str) ∧ (∀ w ∈ ws, PyData.strOk w = true) ∧ Dp K H x d ∧ SeqAt.shaped d = true ∧ Q (.bl (!stands ws d)) H
theorem op_notInZ {X : Cx} (hu : X.A.units + 65 < cLine) : OpR X (compareOp .NotIn) (rNotInZ X.K) := by
  intro pins s σ H x y v u Q I rx ry h
  obtain ⟨p, ws, d, rfl, hq, ho, hd, sd, q⟩ := h
  cases ry
  obtain ⟨bs, r1⟩ := Dp.reads I d x v hd rx
  obtain ⟨its, rv, pl, hz⟩ := I.tuple hq
  obtain ⟨as, r2⟩ := Dp.readsAll I (ws.map PyData.str) _ its (dps_strs ws) rv
  have r3 : ReadsAll s.heap its.toArray.toList (ws.map PyData.str) as := by simpa using r2
  refine SeqAt.notIn_tupleAt _ pl (SeqAt.items_eqAt r3 r1 (lay_strs ws ho) (SeqAt.canLay_of_shaped sd) (PyProof.Rows.room_in_shaped sd hu)) ⟨.bl _, H, I, rfl, ?_⟩
  rw [SeqAt.any_by_data r3 (lay_strs ws ho)]
  exact q
/-- a, b = a list or a tuple of that length -/
def gRow (K : PySem.W.Frag) (n : Nat) (t : TGs) : TG := fun v σ H Q => gTup K n t v σ H Q ∨ gLst K n t v σ H Q
theorem pg_row {X : Cx} {es : List Expr} {k : Nat} {t : TGs} {n : Nat} {pos : Pos} (hc : X.calm = true) (h : PGs X es t)
    (hn : (assignEach es X.env).length = n := by rfl) (hst : (assignEach es X.env).findIdx? (·.1) = none := by rfl) : PG X (.Tuple es k pos) (gRow X.K n t) :=
  ⟨fun pins s σ H v u Q I r hw => hw.elim (fun q => (pg_tup hc h hn hst).run pins s σ H v u Q I r q) (fun q => (pg_lst hc h hn hst).run pins s σ H v u Q I r q)⟩
/-- a walk over a list or a tuple that its turns leave as it is -/
theorem for_row {K : PySem.W.Frag} {p : Addr} {ys : List V} {t0 : TE} {g : TG} {tb : TS} {D : Ends} {σ : L2.St} {H0 H : Hp} (Pv : Nat → L2.St → Hp → Prop) (ht : ∀ Q' : VK, Q' (.ref p) H → t0 σ H Q') (hq : SqL K H0 p ys ∨ SqT K H0 p ys) (h0 : Pv 0 σ H) (hG : ∀ i σ H', Pv i σ H' → Same H0 H')
    (hs : ∀ i x σ H', i < ys.length → Pv i σ H' → ys[i]? = some x → g x σ H' fun σ2 H2 => tb { D with nx := Pv (i + 1), ct := Pv (i + 1), bk := D.nx } σ2 H2) (hd : ∀ σ H', Pv ys.length σ H' → D.nx σ H') : tFor (iRow K t0) g tb D σ H := by
  have s0 := hG 0 σ H h0
  rcases hq with hq | hq
  · refine .inl (ht _ ⟨p, rfl, ⟨ys, s0.seq hq⟩, for_it walk_list Pv h0 (fun i σ H' _ hP => (hG i σ H' hP).seq hq) (fun i x σ H1 H2 hi hP hY => ?_) hd⟩)
    obtain ⟨rfl, hx⟩ := hY
    exact hs i x σ H2 hi hP hx
  · refine .inr (ht _ ⟨p, rfl, ⟨ys, seqT_same s0 hq⟩, for_it walk_tup Pv h0 (fun i σ H' _ hP => seqT_same (hG i σ H' hP) hq) (fun i x σ H1 H2 hi hP hY => ?_) hd⟩)
    obtain ⟨rfl, hx⟩ := hY
    exact hs i x σ H2 hi hP hx
theorem pair_yes {f : PyData} (h : isPair f = true) : ∃ a b, pairOf f = some (a, b) ∧ rowOf f = some [a, b] := by
  unfold isPair at h
  unfold pairOf
  cases e : rowOf f with
  | none =>
    rw [e] at h
    cases h
  | some xs =>
    rw [e] at h
    have h2 : xs.length = 2 := of_decide_eq_true h
    match xs, h2 with
    | [a, b], _ => exact ⟨a, b, rfl, rfl⟩
theorem pair_no {f : PyData} (h : isPair f = false) : pairOf f = none := by
  unfold isPair at h
  unfold pairOf
  cases e : rowOf f with
  | none => rfl
  | some xs =>
    rw [e] at h
    have h2 : ¬ xs.length = 2 := of_decide_eq_false h
    match xs, h2 with
    | [], _ => rfl
    | [_], _ => rfl
    | [_, _], h => exact absurd rfl h
    | _ :: _ :: _ :: _, _ => rfl
theorem go_none {t : List (Str × List Str)} {seen : List Str} {f : PyData} {fs : List PyData} (h : pairOf f = none) : goFacts t seen (f :: fs) = false := by
  unfold goFacts
  rw [h]
theorem go_nostr {t : List (Str × List Str)} {seen : List Str} {f a b : PyData} {fs : List PyData} (h : pairOf f = some (a, b)) (hs : isStr a = false) : goFacts t seen (f :: fs) = false := by
  unfold goFacts
  rw [h]
  cases a <;> first | rfl | cases hs
theorem go_new {t : List (Str × List Str)} {seen : List Str} {f b : PyData} {n : Str} {fs : List PyData} (h : pairOf f = some (.str n, b)) (hl : look n t = none) : goFacts t seen (f :: fs) = false := by
  unfold goFacts
  rw [h]
  show (match look n t with | some ws => !seen.contains n && (stands ws b && goFacts t (n :: seen) fs) | none => false) = false
  rw [hl]
theorem go_old {t : List (Str × List Str)} {seen : List Str} {f b : PyData} {n : Str} {ws : List Str} {fs : List PyData} (h : pairOf f = some (.str n, b)) (hl : look n t = some ws) : goFacts t seen (f :: fs) = (!seen.contains n && (stands ws b && goFacts t (n :: seen) fs)) := by
  conv => lhs; unfold goFacts
  rw [h]
  show (match look n t with | some ws => !seen.contains n && (stands ws b && goFacts t (n :: seen) fs) | none => false) = _
  rw [hl]
theorem go_seen {t : List (Str × List Str)} {seen : List Str} {f b : PyData} {n : Str} {fs : List PyData} (h : pairOf f = some (.str n, b)) (hs : seen.contains n = true) : goFacts t seen (f :: fs) = false := by
  cases e : look n t with
  | none => exact go_new h e
  | some ws => rw [go_old h e, hs] <;> rfl
/-- what stands for values is such that it can be compared -/
def FOk (d : PyData) : Prop := ∀ fs, rowOf d = some fs → ∀ f ∈ fs, ∀ a b, pairOf f = some (a, b) → SeqAt.shaped b = true
def spAreFacts (K : PySem.W.Frag) : Sp := fun vs H Q _ => ∃ (p : Addr) (t : List (Str × List Str)) (v : V) (d : PyData), vs = [.ref p, v] ∧ TabAt K H p t ∧ Dp K H v d ∧ FOk d ∧ ∀ H', Same H H' → Q (.bl (areFacts t d)) H'
section
variable {P : Program} {w : World} {K : PySem.W.Frag} {mg : Str → Option Value} {base : Heap}
theorem scAreFacts : FnScope ["fields", "facts", "values_of", "told", "fact", "name", "value"] ["fields", "facts"] (defScope sAreFacts) := ⟨rfl, rfl, rfl, by decide +kernel, rfl, by decide +kernel, by decide +kernel⟩
theorem ok_arefacts {f fR fP : Addr} {fd fdR fdP : FuncData} (F : Fun K "are_facts" "are_facts" sAreFacts f fd) (T : Bb mg) (GR : FnOk P w K mg base CX0 1 fR fdR ["thing"] (spIsRow K)) (kR : PySem.W.keepIn K (.ref fR) = true) (bR : Binds K fdR ["thing"] []) (mR : mg "is_row" = some (.ref fR))
    (GP : FnOk P w K mg base CX0 2 fP fdP ["thing"] (spIsPair K)) (kP : PySem.W.keepIn K (.ref fP) = true) (bP : Binds K fdP ["thing"] []) (mP : mg "is_pair" = some (.ref fP)) :
    FnOk P w K mg base CX0 3 f fd ["fields", "facts"] (spAreFacts K) := by
  refine F.ok scAreFacts (fun vs H Q E h => ?_) (fun cdv A outer s H vs Q E hr h => ?_)
  · obtain ⟨p, t, v, d, rfl, _⟩ := h
    rfl
  obtain ⟨p, t, v, d, rfl, ht, hd, hf, k⟩ := h
  have vs_ : PySem.bootBuiltins "str" = some (.type "str") := by decide +kernel
  have vd_ : PySem.bootBuiltins "dict" = some (.type "dict") := by decide +kernel
  have hu2 : (A.deeper (PyProof.Rows.envOfC "are_facts" (defScope sAreFacts) s.heap.objs.size f cdv)).units + 65 < cLine := by
    have := hr.un
    omega
  have hu1 : (A.deeper (PyProof.Rows.envOfC "are_facts" (defScope sAreFacts) s.heap.objs.size f cdv)).units + 1 < cLine := by
    omega
  refine ⟨_, pss_cons (ps_if (PW.pt (pw_or (pt_not (pt_val (pe_call GR (hr.mono (by decide)) rfl mR kR bR .nil pass0 (pa_cons (pv 1) pa_nil)))) (pw_or1 (pt_cmpR op_gt (pe_callB call_len_seq rfl T.len PySem.boot_len (pa_cons (pv 1) pa_nil)) (pe_callB call_len_seq rfl T.len PySem.boot_len (pa_cons (pv 0) pa_nil)) (nomark _)))))
      (pss_one (ps_ret pe_bl)) pss_nil)
    (pss_cons (ps_set (i := 2) scAreFacts.nd rfl (.inl rfl) (pe_callTy (call_dictZ (by rfl)) rfl T.dict vd_ (pa_cons (pv 0) pa_nil)))
    (pss_cons (ps_set (i := 3) scAreFacts.nd rfl (.inl rfl) pe_dnewK)
    (pss_cons (ps_for PassesOwn.never rfl (pi_row (pv 1)) (pg_name (i := 4) scAreFacts.nd rfl (.inl rfl))
      (pss_cons (ps_if (pt_not (pt_val (pe_call GP hr rfl mP kP bP .nil pass0 (pa_cons (pv 4) pa_nil)))) (pss_one (ps_ret pe_bl)) pss_nil)
      (pss_cons (ps_asg (pv 4) (pg_row rfl (pgs_cons (pg_name (i := 5) scAreFacts.nd rfl (.inl rfl)) (pgs_cons (pg_name (i := 6) scAreFacts.nd rfl (.inl rfl)) pgs_nil))))
      (pss_cons (ps_if (PW.pt (pw_or (pt_not (pt_val (pe_isi T.isi T.str vs_ (pv 5)))) (pw_or (pt_cmp (pc_din hu1 (pv 5) (pv 3)) (by with_unfolding_all rfl)) (pw_or1 (pt_cmp (pc_dnotin hu1 (pv 5) (pv 2)) (by with_unfolding_all rfl))))))
        (pss_one (ps_ret pe_bl)) pss_nil)
      (pss_cons (ps_if (pt_cmpR (op_notInZ hu2) (pv 6) (pe_dget hu1 (pv 2) (pv 5) (fun _ _ => rfl)) (by with_unfolding_all rfl)) (pss_one (ps_ret pe_bl)) pss_nil)
      (pss_one (ps_dput hu1 (pv 3) (pv 5) pe_bl rfl)))))))
    (pss_one (ps_ret pe_bl))))), ?_⟩
  refine ⟨_, rfl, v, d, rfl, hd, fun H1 s1 => ⟨_, rfl, ?_⟩⟩
  cases e : rowOf d with
  | none =>
    have e1 : isRow d = false := by
      unfold isRow
      rw [e]
      rfl
    rw [e1]
    refine iteT (iteT (q_is ?_ (k H1 s1)))
    unfold areFacts
    rw [e]
  | some fs =>
    have e1 : isRow d = true := by
      unfold isRow
      rw [e]
      rfl
    rw [e1]
    obtain ⟨q, ys, rfl, hq, ha⟩ := row_len (dp_same s1 hd) e
    have hlen := dps_len ha
    obtain ⟨ps, kvs, hz, hT, hn, hm⟩ := ht
    have hz1 : SqZ H1 p (ps.map V.ref) := hz.same s1
    have hT1 := hT.same s1
    have hps : (ps.map V.ref).length = t.length := by rw [List.length_map, hT1.len.1]
    refine iteF ⟨_, rfl, q, ys, rfl, hq, _, rfl, p, _, rfl, .inr hz1.sqT, _, _, rfl, rfl, _, rfl, ?_⟩
    by_cases hl : fs.length ≤ t.length
    · refine iteDF (by omega) ?_
      refine ⟨_, rfl, p, ps, kvs, rfl, .inr hz1, hT1.prs, fun Av hA => ?_⟩
      intro Bv hB
      have hkeys : (kvs.map (·.1)).Nodup := by
        rw [hT1.len.2]
        exact nodup_inr hn
      have hmk : mergeK [] kvs = kvs := (merge_nodup kvs [] (fun _ _ => rfl) hkeys).trans (List.nil_append kvs)
      rw [hmk] at hB ⊢
      have hAB : Av ≠ Bv := fun z => by
        rw [z, upd_same] at hB
        cases hB
      have s2 : Same H1 (upd (upd H1 Av (.dK kvs)) Bv (.dK [])) := (new_same hA _).trans (new_same hB _)
      have areq : areFacts t d = goFacts t [] fs := by
        unfold areFacts
        rw [e]
        show (decide (fs.length ≤ t.length) && goFacts t [] fs) = _
        rw [decide_eq_true hl, Bool.true_and]
      show tFor (iRow K (tVar 1)) (gName 4) _ _ _ _
      refine for_row (ys := ys) (H0 := H1) (fun i σ H' => ∃ (seen : List Str) (told : List (Key × V)) (f4 f5 f6 : Option V), σ = [some (.ref p), some (.ref q), some (.ref Av), some (.ref Bv), f4, f5, f6] ∧ H' Av = some (.dK kvs) ∧ H' Bv = some (.dK told) ∧ told.length ≤ i ∧
        (∀ n, (valV told (.inr n)).isSome = seen.contains n) ∧ Same H1 H' ∧ areFacts t d = goFacts t seen (fs.drop i)) (fun Q' z => ⟨_, rfl, z⟩) hq ?_ ?_ ?_ ?_
      · refine ⟨[], [], none, none, none, rfl, ?_, upd_same, Nat.le_refl _, fun n => rfl, s2, areq⟩
        rw [upd_ne hAB, upd_same]
      · rintro i σ H' ⟨_, _, _, _, _, _, _, _, _, _, z, _⟩
        exact z
      · rintro i x σ H2 hi ⟨seen, told, f4, f5, f6, rfl, h1, h2, h3, h4, h5, h6⟩ hx
        obtain ⟨f, hf1, hdf⟩ := dps_get ha hx
        have hfm : f ∈ fs := List.mem_of_getElem? hf1
        have hdrop : fs.drop i = f :: fs.drop (i + 1) := by
          obtain ⟨hi2, e2⟩ := List.getElem?_eq_some_iff.mp hf1
          rw [List.drop_eq_getElem_cons hi2, e2]
        rw [hdrop] at h6
        refine ⟨_, rfl, x, f, rfl, dp_same h5 hdf, fun H3 s3 => ⟨_, rfl, ?_⟩⟩
        have s13 : Same H1 H3 := h5.trans s3
        have no : areFacts t d = false → Q (.bl false) H3 := fun z => q_is z.symm (k _ (s1.trans s13))
        cases ep : isPair f with
        | false => exact iteT (no (h6.trans (go_none (pair_no ep))))
        | true =>
          obtain ⟨a, b, e2, e3⟩ := pair_yes ep
          refine iteF ?_
          obtain ⟨r, zs, rfl, hz2, hzs⟩ := row_len (dp_same s13 hdf) e3
          obtain ⟨va, vb, rfl, hva, hvb⟩ : ∃ va vb, zs = [va, vb] ∧ Dp K H3 va a ∧ Dp K H3 vb b := by
            cases hzs with
            | cons q1 q2 =>
              cases q2 with
              | cons q3 q4 =>
                cases q4
                exact ⟨_, _, rfl, q1, q3⟩
          have asg : ∀ Q' : L2.St → Hp → Prop, Q' [some (.ref p), some (.ref q), some (.ref Av), some (.ref Bv), some (.ref r), some va, some vb] H3 →
              gRow K 2 (gCons (gName 5) (gCons (gName 6) gNil)) (.ref r) [some (.ref p), some (.ref q), some (.ref Av), some (.ref Bv), some (.ref r), f5, f6] H3 Q' := fun Q' z => by
            rcases hz2 with hz2 | hz2
            · exact .inr ⟨r, [va, vb], rfl, hz2, rfl, va, [vb], rfl, vb, [], rfl, rfl, z⟩
            · exact .inl ⟨r, [va, vb], rfl, hz2, rfl, va, [vb], rfl, vb, [], rfl, rfl, z⟩
          refine ⟨_, rfl, asg _ ?_⟩
          refine ⟨_, rfl, _, _, _, _, _, rfl, .ty _, tyD hva, kit_str (dp_no_dict hva), _, rfl, ?_⟩
          cases es : isStr a with
          | false => exact iteT (iteT (no (h6.trans (go_nostr e2 es))))
          | true =>
            obtain ⟨n, rfl⟩ : ∃ n, a = .str n := by
              cases a <;> first | exact ⟨_, rfl⟩ | cases es
            cases hva
            have h1' := s3 _ _ h1
            have h2' := s3 _ _ h2
            refine iteF ⟨_, rfl, _, rfl, Bv, _, rfl, DGet.k (k := .inr n) h2', _, rfl, ?_⟩
            rw [h4]
            cases en : seen.contains n with
            | true => exact iteT (iteT (no (h6.trans (go_seen e2 en))))
            | false =>
              refine iteF ⟨_, rfl, _, rfl, Av, _, rfl, DGet.k (k := .inr n) h1', _, rfl, ?_⟩
              rcases hT1.val (n := n) with ⟨g1, g2⟩ | ⟨ws, vp, g1, g2, g3, g4⟩
              · rw [g2]
                exact iteT (no (h6.trans (go_new e2 g1)))
              · rw [g2]
                refine iteF ?_
                have hg := DGet.k (k := .inr n) h1'
                rw [g2] at hg
                refine ⟨_, rfl, _, rfl, _, rfl, Av, _, rfl, hg, vp, ws, b, rfl, seqT_same s13 g3, g4, hvb, hf fs e f hfm _ _ e2, _, rfl, ?_⟩
                have g5 := go_old (t := t) (seen := seen) (fs := fs.drop (i + 1)) e2 g1
                rw [en] at g5
                cases ew : stands ws b with
                | false =>
                  refine iteT (no (h6.trans (g5.trans ?_)))
                  rw [ew] <;> rfl
                | true =>
                  refine iteF ⟨_, rfl, _, rfl, Bv, _, rfl, DPut.k (k := .inr n) h2' (small1000 (by omega)), ?_⟩
                  refine ⟨n :: seen, putK told (.inr n) (.bl true), some (.ref r), some (.str n), some vb, rfl, ?_, upd_same, ?_, ?_, ?_, ?_⟩
                  · rw [upd_ne hAB]
                    exact h1'
                  · have := length_putK told (.inr n) (.bl true)
                    omega
                  · intro m
                    rw [valV_put, List.contains_cons]
                    by_cases em : m = n
                    · subst em
                      rw [if_pos rfl]
                      simp
                    · rw [if_neg (fun z => em (Sum.inr.inj z)), h4 m]
                      have : (m == n) = false := beq_eq_false_iff_ne.mpr em
                      rw [this, Bool.false_or]
                  · refine fun b' o z => ?_
                    have nB : b' ≠ Bv := fun y => by
                      subst y
                      have := (new_same hA (.dK kvs)) _ _ z
                      rw [hB] at this
                      cases this
                    rw [upd_ne nB]
                    exact s13 _ _ z
                  · rw [h6, g5, ew] <;> rfl
      · rintro σ H' ⟨seen, told, f4, f5, f6, rfl, h1, h2, h3, h4, h5, h6⟩
        rw [List.drop_eq_nil_of_le (by omega)] at h6
        exact q_is (h6.trans rfl).symm (k _ (s1.trans h5))
    · refine iteDT (by omega) (q_is ?_ (k H1 s1))
      unfold areFacts
      rw [e]
      show false = (decide (fs.length ≤ t.length) && goFacts t [] fs)
      rw [decide_eq_false hl, Bool.false_and]
end
end Q
set_option Elab.async false
set_option linter.all false
set_option maxRecDepth 100000
set_option maxHeartbeats 4000000
/-! ### in_sequence -/
namespace Q
open PySem L2 XD
/-- the word told with a name -/
def pick (n : Str) : List (Str × Str) → Option Str
  | [] => none
  | (m, w) :: r => if m = n then some w else pick n r
def sorted (t : List (Str × List Str)) (r : List (Str × Str)) : List (Str × Str) := t.filterMap fun e => (pick e.1 r).map fun w => (e.1, w)
/-- pairs of words, each a list or a tuple -/
inductive FactR (K : PySem.W.Frag) (H : Hp) : List Addr → List (Key × V) → List (Str × Str) → Prop
  | nil : FactR K H [] [] []
  | cons {q : Addr} {n w : Str} {ps : List Addr} {kvs : List (Key × V)} {r : List (Str × Str)} : (SqT K H q [.str n, .str w] ∨ SqL K H q [.str n, .str w]) → FactR K H ps kvs r → FactR K H (q :: ps) ((.inr n, .str w) :: kvs) ((n, w) :: r)
theorem FactR.prs {K : PySem.W.Frag} {H : Hp} : ∀ {ps : List Addr} {kvs : List (Key × V)} {r : List (Str × Str)}, FactR K H ps kvs r → Paired (fun p (kv : Key × V) => SqT K H p [kV kv.1, kv.2] ∨ SqL K H p [kV kv.1, kv.2]) ps kvs
  | _, _, _, .nil => .nil
  | _, _, _, .cons a c => .cons a (FactR.prs c)
theorem FactR.same {K : PySem.W.Frag} {H H' : Hp} (s : Same H H') : ∀ {ps : List Addr} {kvs : List (Key × V)} {r : List (Str × Str)}, FactR K H ps kvs r → FactR K H' ps kvs r
  | _, _, _, .nil => .nil
  | _, _, _, .cons a c => .cons (a.elim (fun q => .inl (seqT_same s q)) (fun q => .inr (s.seq q))) (FactR.same s c)
theorem FactR.keys {K : PySem.W.Frag} {H : Hp} : ∀ {ps : List Addr} {kvs : List (Key × V)} {r : List (Str × Str)}, FactR K H ps kvs r → kvs.map (·.1) = (r.map (·.1)).map Sum.inr
  | _, _, _, .nil => rfl
  | _, _, _, .cons a c => by rw [List.map_cons, List.map_cons, List.map_cons, FactR.keys c]
theorem FactR.val {K : PySem.W.Frag} {H : Hp} {n : Str} : ∀ {ps : List Addr} {kvs : List (Key × V)} {r : List (Str × Str)}, FactR K H ps kvs r → valV kvs (.inr n) = (pick n r).map V.str
  | _, _, _, .nil => rfl
  | _, _, _, .cons (n := m) (w := w) (r := r) a c => by
    by_cases e : m = n
    · subst e
      rw [valV_pos rfl]
      unfold pick
      rw [if_pos rfl] <;> rfl
    · rw [valV_neg (fun z => e (Sum.inr.inj z)), FactR.val c]
      conv => rhs; unfold pick
      rw [if_neg e]
/-- a rule as a form keeps it -/
def RuleAt (K : PySem.W.Frag) (H : Hp) (p : Addr) (r : List (Str × Str)) : Prop := ∃ qs : List Addr, SqZ H p (qs.map V.ref) ∧ Paired (fun q (e : Str × Str) => SqT K H q [.str e.1, .str e.2]) qs r
theorem prd_same {K : PySem.W.Frag} {H H' : Hp} (s : Same H H') : ∀ {qs : List Addr} {r : List (Str × Str)}, Paired (fun q (e : Str × Str) => SqT K H q [.str e.1, .str e.2]) qs r → Paired (fun q (e : Str × Str) => SqT K H' q [.str e.1, .str e.2]) qs r
  | _, _, .nil => .nil
  | _, _, .cons a b => .cons (seqT_same s a) (prd_same s b)
theorem prd_snoc {α β : Type} {R : α → β → Prop} : ∀ {xs : List α} {ys : List β} {x : α} {y : β}, Paired R xs ys → R x y → Paired R (xs ++ [x]) (ys ++ [y])
  | _, _, _, _, .nil, h => .cons h .nil
  | _, _, _, _, .cons a b, h => .cons a (prd_snoc b h)
theorem TabR.at {K : PySem.W.Frag} {H : Hp} : ∀ {ps : List Addr} {kvs : List (Key × V)} {t : List (Str × List Str)} {i : Nat} {x : V}, TabR K H ps kvs t → (ps.map V.ref)[i]? = some x →
    ∃ (q v : Addr) (n : Str) (ws : List Str), x = .ref q ∧ t[i]? = some (n, ws) ∧ SqT K H q [.str n, .ref v] ∧ SqT K H v (ws.map V.str)
  | _, _, _, _, _, .nil, e => by simp at e
  | _, _, _, 0, _, .cons (q := q) (v := v) (n := n) (ws := ws) a b o c, e => by
    simp at e
    exact ⟨q, v, n, ws, e.symm, rfl, a, b⟩
  | _, _, _, i + 1, x, .cons a b o c, e => by
    obtain ⟨q, v, n, ws, h1, h2, h3⟩ := TabR.at (i := i) (x := x) c (by simpa using e)
    exact ⟨q, v, n, ws, h1, by simpa using h2, h3⟩
theorem sorted_next {t : List (Str × List Str)} {r : List (Str × Str)} {i : Nat} {n : Str} {ws : List Str} (h : t[i]? = some (n, ws)) : sorted (t.take (i + 1)) r = sorted (t.take i) r ++ ((pick n r).map fun w => (n, w)).toList := by
  unfold sorted
  rw [take_one h, List.filterMap_append]
  cases e : pick n r with
  | none => simp [e]
  | some w => simp [e]
theorem sorted_len {t : List (Str × List Str)} {r : List (Str × Str)} : (sorted t r).length ≤ t.length := by
  unfold sorted
  exact List.length_filterMap_le _ _
theorem prd_len {α β : Type} {R : α → β → Prop} : ∀ {xs : List α} {ys : List β}, Paired R xs ys → xs.length = ys.length
  | _, _, .nil => rfl
  | _, _, .cons _ b => by rw [List.length_cons, List.length_cons, prd_len b]
theorem seqT_off {K : PySem.W.Frag} {H : Hp} {D q : Addr} {xs acc acc' : List V} (h : SqT K H q xs) (hD : H D = some (.lst acc)) : SqT K (upd H D (.lst acc')) q xs := by
  have n1 : ∀ {o : HO}, H q = some o → (∀ l, o ≠ .lst l) → q ≠ D := fun e1 e2 z => by
    subst z
    rw [hD] at e1
    exact e2 _ (Option.some.inj e1).symm
  rcases h with (h | ⟨o, h⟩) | h
  · exact .inl (.inl (by rw [upd_ne (n1 h (by intro l z; cases z))]; exact h))
  · exact .inl (.inr ⟨o, by rw [upd_ne (n1 h (by intro l z; cases z))]; exact h⟩)
  · exact .inr h
theorem prd_off {K : PySem.W.Frag} {H : Hp} {D : Addr} {acc acc' : List V} (hD : H D = some (.lst acc)) : ∀ {qs : List Addr} {r : List (Str × Str)}, Paired (fun q (e : Str × Str) => SqT K H q [.str e.1, .str e.2]) qs r →
    Paired (fun q (e : Str × Str) => SqT K (upd H D (.lst acc')) q [.str e.1, .str e.2]) qs r
  | _, _, .nil => .nil
  | _, _, .cons a b => .cons (seqT_off a hD) (prd_off hD b)
def spInSeq (K : PySem.W.Frag) : Sp := fun vs H Q _ => ∃ (p q : Addr) (t : List (Str × List Str)) (ps : List Addr) (kvs : List (Key × V)) (r : List (Str × Str)), vs = [.ref p, .ref q] ∧ TabAt K H p t ∧ (SqL K H q (ps.map V.ref) ∨ SqZ H q (ps.map V.ref)) ∧
  FactR K H ps kvs r ∧ (r.map (·.1)).Nodup ∧ ∀ z H', Same H H' → RuleAt K H' z (sorted t r) → Q (.ref z) H'
section
variable {P : Program} {w : World} {K : PySem.W.Frag} {mg : Str → Option Value} {base : Heap}
theorem scInSeq : FnScope ["fields", "facts", "value_of", "name", "_"] ["fields", "facts"] (defScope sInSeq) := ⟨rfl, rfl, rfl, by decide +kernel, rfl, by decide +kernel, by decide +kernel⟩
theorem ok_inseq {f : Addr} {fd : FuncData} (F : Fun K "in_sequence" "in_sequence" sInSeq f fd) (T : Bb mg) : FnOk P w K mg base CX0 1 f fd ["fields", "facts"] (spInSeq K) := by
  refine F.ok scInSeq (fun vs H Q E h => ?_) (fun cdv A outer s H vs Q E hr h => ?_)
  · obtain ⟨p, q, t, ps, kvs, r, rfl, _⟩ := h
    rfl
  obtain ⟨p, q, t, ps, kvs, r, rfl, ht, hq, hF, hn, k⟩ := h
  have vd_ : PySem.bootBuiltins "dict" = some (.type "dict") := by decide +kernel
  have vt_ : PySem.bootBuiltins "tuple" = some (.type "tuple") := by decide +kernel
  have hu1 : (A.deeper (PyProof.Rows.envOfC "in_sequence" (defScope sInSeq) s.heap.objs.size f cdv)).units + 1 < cLine := by
    have := hr.un
    omega
  refine ⟨_, pss_cons (ps_set (i := 2) scInSeq.nd rfl (.inr rfl) (pe_callTy (call_dictZ (by rfl)) rfl T.dict vd_ (pa_cons (pv 1) pa_nil)))
    (pss_one (ps_ret (pe_callTy call_tupZ rfl T.tup vt_ (pa_cons (pe_lc (own := [("name", 3), ("_", 4)]) (g := gTup K 2 (gCons (gName 3) (gCons (gName 4) gNil))) (by rfl) scInSeq.nd (pi_row (pv 0)) (blkOk_by (N := ["fields", "facts", "value_of", "name", "_"]) (sc := defScope sInSeq) (by decide +kernel))
      (fun _ _ _ _ _ => pg_tup rfl (pgs_cons (pg_name (i := 3) scInSeq.nd rfl (.inl rfl)) (pgs_cons (pg_name (i := 4) scInSeq.nd rfl (.inl rfl)) pgs_nil)))
      (fun _ _ _ _ _ => pts_one (pt_cmp (pc_din hu1 (pv 3) (pv 2)) (by with_unfolding_all rfl)))
      (fun _ _ _ _ _ => pe_tupZ (pa_cons (pv 3) (pa_cons (pe_dget hu1 (pv 2) (pv 3) (fun _ _ => rfl)) pa_nil)))) pa_nil)))), ?_⟩
  obtain ⟨ps0, tk, hz, hT, htn, htm⟩ := ht
  refine ⟨_, rfl, q, ps, kvs, rfl, hq, hF.prs, fun C hC => ?_⟩
  have hmk : mergeK [] kvs = kvs := (merge_nodup kvs [] (fun _ _ => rfl) (by rw [hF.keys]; exact nodup_inr hn)).trans (List.nil_append kvs)
  rw [hmk]
  have s2 : Same H (upd H C (.dK kvs)) := new_same hC _
  have hT2 := hT.same s2
  have hlen : (ps0.map V.ref).length = t.length := by rw [List.length_map, hT.len.1]
  show tLc (iRow K (tVar 0)) (gTup K 2 (gCons (gName 3) (gCons (gName 4) gNil))) (tB (tDIn (tVar 3) (tVar 2))) (tTupZ (tCons (tVar 3) (tCons (tDGet (tVar 2) (tVar 3)) tNil))) [3, 4]
    [some (.ref p), some (.ref q), some (.ref C), none, none] (upd H C (.dK kvs)) (fun x H1 => rTupZ K [x] H1 Q)
  refine lc_row (ys := ps0.map V.ref) (fun D i H' => ∃ qs : List Addr, H' D = some (.lst (qs.map V.ref)) ∧ Paired (fun q (e : Str × Str) => SqT K H' q [.str e.1, .str e.2]) qs (sorted (t.take i) r) ∧ Same (upd H C (.dK kvs)) H')
    (fun Q' z => ⟨_, rfl, z⟩) (.inr (hz.same s2).sqT) (fun D hD => ⟨[], upd_same, .nil, new_same hD _⟩) (fun D i H' hD hP => hP.elim fun _ z => z.2.2) (fun D i x H' hD hi hP hx => ?_) (fun D H' hD hP => ?_)
  · obtain ⟨qs, g1, g2, g3⟩ := hP
    obtain ⟨q1, v1, n, ws, rfl, e1, e2, e3⟩ := hT2.at hx
    have hC' := g3 _ _ (upd_same (H := H) (a := C) (o := .dK kvs))
    have hv := hF.val (n := n)
    have hnx := sorted_next (r := r) e1
    refine ⟨q1, _, rfl, seqT_same g3 e2, rfl, .str n, _, rfl, .ref v1, [], rfl, rfl, rfl, _, rfl, _, rfl, C, _, rfl, DGet.k (k := .inr n) hC', _, rfl, ?_⟩
    rw [hv]
    cases ep : pick n r with
    | none =>
      refine iteF ⟨qs, g1, ?_, g3⟩
      rw [hnx, ep]
      simpa using g2
    | some w1 =>
      have hg := DGet.k (k := .inr n) hC'
      rw [hv, ep] at hg
      refine iteT ⟨_, rfl, _, rfl, _, rfl, C, _, rfl, hg, (by show 2 ≤ sizeLine; decide), fun z o hz0 ho => ?_⟩
      have hDz : D ≠ z := fun y => by
        rw [y, hz0] at g1
        cases g1
      have sz : Same H' (upd H' z (.frz o (.tup [.str n, .str w1]))) := new_same hz0 _
      have hD4 := sz _ _ g1
      have hql : qs.length ≤ t.length := by
        rw [prd_len g2]
        refine Nat.le_trans sorted_len ?_
        rw [List.length_take]
        exact Nat.min_le_right _ _
      refine ⟨_, hD4, small1000 (by rw [List.length_map]; omega), qs ++ [z], ?_, ?_, fun b o' y => ?_⟩
      · rw [upd_same, List.map_append] <;> rfl
      · rw [hnx, ep]
        refine prd_off hD4 (prd_snoc (prd_same sz g2) ?_)
        exact .inl (.inr ⟨o, upd_same⟩)
      · rw [upd_ne (ne_of_none y hD)]
        exact sz _ _ (g3 _ _ y)
  · obtain ⟨qs, g1, g2, g3⟩ := hP
    rw [List.take_of_length_le (by omega)] at g2
    refine ⟨D, _, rfl, .inl ⟨SqL.of g1, fun l o hl ho => ?_⟩⟩
    have sl : Same H' (upd H' l (.frz o (.tup (qs.map V.ref)))) := new_same hl _
    exact k l _ ((s2.trans g3).trans sl) ⟨qs, ⟨o, upd_same, ho⟩, prd_same sl g2⟩
end
end Q
set_option Elab.async false
set_option linter.all false
set_option maxRecDepth 100000
set_option maxHeartbeats 4000000
/-! ### _are_values, _are_fields -/
namespace Q
open PySem L2 XD
structure Fm (mg : Str → Option Value) : Prop where
  mf : ∃ t, mg "MOST_FIELDS" = some (.int 6 t)
  mv : ∃ t, mg "MOST_VALUES" = some (.int 5 t)
  mr : ∃ t, mg "MOST_RULES" = some (.int 20 t)
  mp : ∃ t, mg "MOST_PAIRS" = some (.int 4 t)
  mfi : ∃ t, mg "MOST_FILLINGS" = some (.int 1000 t)
/-- a def that is known -/
structure Kn (P : Program) (w : World) (K : PySem.W.Frag) (mg : Str → Option Value) (base : Heap) (k : Nat) (x : Str) (ps : List Str) (sp : Sp) : Prop where
  ex : ∃ f fd, FnOk P w K mg base CX0 k f fd ps sp ∧ PySem.W.keepIn K (.ref f) = true ∧ Binds K fd ps [] ∧ mg x = some (.ref f)
def areValues (d : PyData) : Bool := match rowOf d with
  | some ws => decide (1 ≤ ws.length) && (decide (ws.length ≤ 5) && unlike ws)
  | none => false
def MShort (d : PyData) : Prop := ∀ ws, rowOf d = some ws → ∀ w ∈ ws, Short w
def spAreValues (K : PySem.W.Frag) : Sp := fun vs H Q _ => ∃ (v : V) (d : PyData), vs = [v] ∧ Dp K H v d ∧ MShort d ∧ ∀ H', Same H H' → Q (.bl (areValues d)) H'
theorem isRow_of {d : PyData} {xs : List PyData} (h : rowOf d = some xs) : isRow d = true := by
  unfold isRow
  rw [h]
  rfl
theorem isRow_no {d : PyData} (h : rowOf d = none) : isRow d = false := by
  unfold isRow
  rw [h]
  rfl
section
variable {P : Program} {w : World} {K : PySem.W.Frag} {mg : Str → Option Value} {base : Heap}
theorem scAreValues : FnScope ["values"] ["values"] (defScope sAreValues) := ⟨rfl, rfl, rfl, by decide +kernel, rfl, by decide +kernel, by decide +kernel⟩
theorem ok_arevalues {f : Addr} {fd : FuncData} (F : Fun K "_are_values" "_are_values" sAreValues f fd) (T : Bb mg) (C : Fm mg) (KR : Kn P w K mg base 1 "is_row" ["thing"] (spIsRow K)) (KU : Kn P w K mg base 3 "are_unlike_words" ["things"] (spUnlike K)) :
    FnOk P w K mg base CX0 4 f fd ["values"] (spAreValues K) := by
  obtain ⟨fR, fdR, GR, kR, bR, mR⟩ := KR.ex
  obtain ⟨fU, fdU, GU, kU, bU, mU⟩ := KU.ex
  obtain ⟨tV, hV⟩ := C.mv
  refine F.ok scAreValues (fun vs H Q E h => ?_) (fun cdv A outer s H vs Q E hr h => ?_)
  · obtain ⟨v, d, rfl, _⟩ := h
    rfl
  obtain ⟨v, d, rfl, hd, hs, k⟩ := h
  refine ⟨_, pss_one (ps_ret (pe_and (pe_call GR (hr.mono (by decide)) rfl mR kR bR .nil pass0 (pa_cons (pv 0) pa_nil))
    (pe_and (pe_chain op_le op_le pe_int (pe_callB call_len_seq rfl T.len PySem.boot_len (pa_cons (pv 0) pa_nil)) (pe_glob (v := .int 5) (by rfl) hV ⟨_, rfl⟩))
    (pe_one (pe_call GU hr rfl mU kU bU .nil pass0 (pa_cons (pv 0) pa_nil)))))), ?_⟩
  refine ⟨_, rfl, v, d, rfl, hd, fun H1 s1 => ⟨_, rfl, ?_⟩⟩
  cases e : rowOf d with
  | none =>
    rw [isRow_no e]
    refine iteF (q_is ?_ (k H1 s1))
    unfold areValues
    rw [e]
  | some ws =>
    rw [isRow_of e]
    obtain ⟨p, ys, rfl, hq, ha⟩ := row_len (dp_same s1 hd) e
    have hlen := dps_len ha
    have eq0 : areValues d = (decide (1 ≤ ws.length) && (decide (ws.length ≤ 5) && unlike ws)) := by
      unfold areValues
      rw [e]
    refine iteT ⟨_, rfl, p, ys, rfl, hq, _, _, rfl, rfl, _, rfl, ?_⟩
    by_cases h1 : 1 ≤ ws.length
    · rw [decide_eq_true h1, Bool.true_and] at eq0
      refine iteDT (by omega) ⟨_, _, rfl, rfl, _, rfl, ?_⟩
      by_cases h5 : ws.length ≤ 5
      · rw [decide_eq_true h5, Bool.true_and] at eq0
        refine iteDT (by omega) ⟨_, rfl, p, ys, ws, rfl, hq, ha, hs ws e, by omega, fun H2 s2 => q_is eq0.symm (k _ (s1.trans s2))⟩
      · rw [decide_eq_false h5, Bool.false_and] at eq0
        exact iteDF (by omega) (q_is eq0.symm (k H1 s1))
    · rw [decide_eq_false h1, Bool.false_and] at eq0
      exact iteDF (by omega) ⟨_, rfl, iteF (q_is eq0.symm (k H1 s1))⟩
end
def fieldOk (f : PyData) : Bool := match pairOf f with
  | some (_, v) => areValues v
  | none => false
def firstOf (f : PyData) : PyData := match pairOf f with
  | some (a, _) => a
  | none => .none
def areFields (d : PyData) : Bool := match rowOf d with
  | some fs => decide (1 ≤ fs.length) && (decide (fs.length ≤ 6) && (fs.all fieldOk && unlike (fs.map firstOf)))
  | none => false
/-- the texts in it are short -/
def FShort (d : PyData) : Prop := ∀ fs, rowOf d = some fs → ∀ f ∈ fs, ∀ a b, pairOf f = some (a, b) → Short a ∧ MShort b
def spAreFields (K : PySem.W.Frag) : Sp := fun vs H Q _ => ∃ (v : V) (d : PyData), vs = [v] ∧ Dp K H v d ∧ FShort d ∧ ∀ H', Same H H' → Q (.bl (areFields d)) H'
def rBoth (K : PySem.W.Frag) : V → V → Hp → VK → Prop := fun x y H Q => rIxL K x y H Q ∨ rIxT K x y H Q
theorem ix_both {X : Cx} (K : PySem.W.Frag) (h : X.K = K) : IxR X (rBoth K) := by
  subst h
  exact IxR.or ix_list ix_tup
theorem ix_row {K : PySem.W.Frag} {H : Hp} {p : Addr} {xs : List V} {i : Int} {v : V} {Q : VK} (h : SqL K H p xs ∨ SqT K H p xs) (e : atI xs i = some v) (q : Q v H) : rBoth K (.ref p) (.int i) H Q :=
  h.elim (fun z => .inl ⟨p, xs, i, v, rfl, rfl, z, e, q⟩) (fun z => .inr ⟨p, xs, i, v, rfl, rfl, z, e, q⟩)
theorem dps_snoc {K : PySem.W.Frag} {H : Hp} {v : V} {d : PyData} : ∀ {vs : List V} {ds : List PyData}, DpAll K H vs ds → Dp K H v d → DpAll K H (vs ++ [v]) (ds ++ [d])
  | _, _, .nil, h => .cons h .nil
  | _, _, .cons a b, h => .cons a (dps_snoc b h)
/-- what stands behind a pair -/
theorem pair_at {K : PySem.W.Frag} {H : Hp} {v : V} {f a b : PyData} (h : Dp K H v f) (e : pairOf f = some (a, b)) : ∃ (r : Addr) (va vb : V), v = .ref r ∧ (SqL K H r [va, vb] ∨ SqT K H r [va, vb]) ∧ Dp K H va a ∧ Dp K H vb b := by
  have e3 : rowOf f = some [a, b] := by
    unfold pairOf at e
    cases er : rowOf f with
    | none =>
      rw [er] at e
      cases e
    | some xs =>
      rw [er] at e
      match xs, e with
      | [_, _], e =>
        cases e
        rfl
  obtain ⟨r, zs, rfl, hz2, hzs⟩ := row_len h e3
  cases hzs with
  | cons q1 q2 =>
    cases q2 with
    | cons q3 q4 =>
      cases q4
      exact ⟨r, _, _, rfl, hz2, q1, q3⟩
theorem pair_isPair {f a b : PyData} (e : pairOf f = some (a, b)) : isPair f = true := by
  cases h : isPair f with
  | true => rfl
  | false =>
    rw [pair_no h] at e
    cases e
section
variable {P : Program} {w : World} {K : PySem.W.Frag} {mg : Str → Option Value} {base : Heap}
theorem scAreFields : FnScope ["fields", "field"] ["fields"] (defScope sAreFields) := ⟨rfl, rfl, rfl, by decide +kernel, rfl, by decide +kernel, by decide +kernel⟩
theorem ok_arefields {f : Addr} {fd : FuncData} (F : Fun K "_are_fields" "_are_fields" sAreFields f fd) (T : Bb mg) (C : Fm mg) (KR : Kn P w K mg base 1 "is_row" ["thing"] (spIsRow K)) (KP : Kn P w K mg base 2 "is_pair" ["thing"] (spIsPair K)) (KU : Kn P w K mg base 3 "are_unlike_words" ["things"] (spUnlike K)) (KV : Kn P w K mg base 4 "_are_values" ["values"] (spAreValues K)) :
    FnOk P w K mg base CX0 5 f fd ["fields"] (spAreFields K) := by
  obtain ⟨fR, fdR, GR, kR, bR, mR⟩ := KR.ex
  obtain ⟨fP, fdP, GP, kP, bP, mP⟩ := KP.ex
  obtain ⟨fU, fdU, GU, kU, bU, mU⟩ := KU.ex
  obtain ⟨fV, fdV, GV, kV, bV, mV⟩ := KV.ex
  obtain ⟨tF, hF⟩ := C.mf
  refine F.ok scAreFields (fun vs H Q E h => ?_) (fun cdv A outer s H vs Q E hr h => ?_)
  · obtain ⟨v, d, rfl, _⟩ := h
    rfl
  obtain ⟨v, d, rfl, hd, hs, k⟩ := h
  refine ⟨_, pss_cons (ps_if (PW.pt (pw_or (pt_not (pt_val (pe_call GR (hr.mono (by decide)) rfl mR kR bR .nil pass0 (pa_cons (pv 0) pa_nil)))) (pw_or1 (pt_not (pt_chain op_le op_le pe_int (pe_callB call_len_seq rfl T.len PySem.boot_len (pa_cons (pv 0) pa_nil)) (pe_glob (v := .int 6) (by rfl) hF ⟨_, rfl⟩))))))
      (pss_one (ps_ret pe_bl)) pss_nil)
    (pss_cons (ps_for PassesOwn.never rfl (pi_row (pv 0)) (pg_name (i := 1) scAreFields.nd rfl (.inl rfl))
      (pss_one (ps_if (PW.pt (pw_or (pt_not (pt_val (pe_call GP (hr.mono (by decide)) rfl mP kP bP .nil pass0 (pa_cons (pv 1) pa_nil)))) (pw_or1 (pt_not (pt_val (pe_call GV hr rfl mV kV bV .nil pass0 (pa_cons (pe_ix (ix_both K rfl) (pv 1) pe_int (fun _ _ => rfl)) pa_nil)))))))
        (pss_one (ps_ret pe_bl)) pss_nil)))
    (pss_one (ps_ret (pe_call GU (hr.mono (by decide)) rfl mU kU bU .nil pass0 (pa_cons (pe_lc (own := [("field", 1)]) (g := gName 1) (tt := tYes) (by rfl) scAreFields.nd (pi_row (pv 0)) (blkOk_by (N := ["fields", "field"]) (sc := defScope sAreFields) (by decide +kernel))
      (fun _ _ _ _ _ => pg_name (i := 1) scAreFields.nd rfl (.inl rfl)) (fun _ _ _ _ _ => pts_nil) (fun _ _ _ _ _ => pe_ix (ix_both K rfl) (pv 1) pe_int (fun _ _ => rfl))) pa_nil))))), ?_⟩
  refine ⟨_, rfl, v, d, rfl, hd, fun H1 s1 => ⟨_, rfl, ?_⟩⟩
  cases e : rowOf d with
  | none =>
    rw [isRow_no e]
    refine iteT (iteT (q_is ?_ (k H1 s1)))
    unfold areFields
    rw [e]
  | some fs =>
    rw [isRow_of e]
    obtain ⟨p, ys, rfl, hq, ha⟩ := row_len (dp_same s1 hd) e
    have hlen := dps_len ha
    have eq0 : areFields d = (decide (1 ≤ fs.length) && (decide (fs.length ≤ 6) && (fs.all fieldOk && unlike (fs.map firstOf)))) := by
      unfold areFields
      rw [e]
    refine iteF ⟨_, rfl, p, ys, rfl, hq, _, _, rfl, rfl, _, rfl, ?_⟩
    by_cases h1 : 1 ≤ fs.length
    · rw [decide_eq_true h1, Bool.true_and] at eq0
      refine iteDT (by omega) ⟨_, _, rfl, rfl, _, rfl, ?_⟩
      by_cases h5 : fs.length ≤ 6
      · rw [decide_eq_true h5, Bool.true_and] at eq0
        rw [decide_eq_true (by omega : (ys.length : Int) ≤ 6)]
        refine iteF ?_
        show tFor (iRow K (tVar 0)) (gName 1) _ _ _ _
        refine for_row (ys := ys) (H0 := H1) (fun i σ H' => ∃ f1 : Option V, σ = [some (.ref p), f1] ∧ Same H1 H' ∧ fs.all fieldOk = (fs.drop i).all fieldOk) (fun Q' z => ⟨_, rfl, z⟩) hq ⟨none, rfl, Same.refl H1, rfl⟩ ?_ ?_ ?_
        · rintro i σ H' ⟨_, _, z, _⟩
          exact z
        · rintro i x σ H2 hi ⟨f1, rfl, s2, h6⟩ hx
          obtain ⟨f, hf1, hdf⟩ := dps_get ha hx
          have hfm : f ∈ fs := List.mem_of_getElem? hf1
          have hdrop : fs.drop i = f :: fs.drop (i + 1) := by
            obtain ⟨hi2, e2⟩ := List.getElem?_eq_some_iff.mp hf1
            rw [List.drop_eq_getElem_cons hi2, e2]
          rw [hdrop, List.all_cons] at h6
          have no : ∀ H3, Same H1 H3 → fieldOk f = false → Q (.bl false) H3 := fun H3 s3 z => q_is (by rw [eq0, h6, z] <;> rfl) (k _ (s1.trans s3))
          refine ⟨_, rfl, x, f, rfl, dp_same s2 hdf, fun H3 s3 => ⟨_, rfl, ?_⟩⟩
          have s13 : Same H1 H3 := s2.trans s3
          cases ep : pairOf f with
          | none =>
            have : isPair f = false := by
              cases z : isPair f with
              | false => rfl
              | true =>
                obtain ⟨a, b, z2, _⟩ := pair_yes z
                rw [ep] at z2
                cases z2
            rw [this]
            exact iteT (iteT (no _ s13 (by unfold fieldOk; rw [ep])))
          | some ab =>
            obtain ⟨a, b⟩ := ab
            rw [pair_isPair ep]
            obtain ⟨r, va, vb, rfl, hr2, hva, hvb⟩ := pair_at (dp_same s13 hdf) ep
            have eok : fieldOk f = areValues b := by
              unfold fieldOk
              rw [ep]
            refine iteF ⟨_, rfl, ix_row hr2 rfl ⟨vb, b, rfl, hvb, (hs fs e f hfm a b ep).2, fun H4 s4 => ⟨_, rfl, ?_⟩⟩⟩
            have s14 : Same H1 H4 := s13.trans s4
            rw [← eok]
            cases ev : fieldOk f with
            | false => exact iteT (no _ s14 ev)
            | true =>
              refine iteF ⟨_, rfl, s14, ?_⟩
              rw [h6, ev, Bool.true_and]
        · rintro σ H' ⟨f1, rfl, s2, h6⟩
          rw [List.drop_eq_nil_of_le (by omega)] at h6
          have hall : fs.all fieldOk = true := h6
          rw [hall, Bool.true_and] at eq0
          have s02 : Same H H' := s1.trans s2
          show tLc (iRow K (tVar 0)) (gName 1) tYes (tOp (rBoth K) (tVar 1) (tC (.int 0))) [1] [some (.ref p), f1] H' (fun x H2 => spUnlike K ([x] ++ []) H2 Q E0)
          -- the first parts
          have pick1 : ∀ {i : Nat} {x : V} {f : PyData} {H3 : Hp}, Same H1 H3 → ys[i]? = some x → fs[i]? = some f → ∃ (r : Addr) (va vb : V), x = .ref r ∧ (SqL K H3 r [va, vb] ∨ SqT K H3 r [va, vb]) ∧ Dp K H3 va (firstOf f) := fun {i x f H3} s3 hx hf1 => by
            obtain ⟨f', hf2, hdf⟩ := dps_get ha hx
            rw [hf1] at hf2
            cases hf2
            have hfm : f ∈ fs := List.mem_of_getElem? hf1
            have hok := List.all_eq_true.mp hall f hfm
            cases ep : pairOf f with
            | none =>
              unfold fieldOk at hok
              rw [ep] at hok
              cases hok
            | some ab =>
              obtain ⟨a, b⟩ := ab
              obtain ⟨r, va, vb, h1, h2, h3, _⟩ := pair_at (dp_same s3 hdf) ep
              have ef : firstOf f = a := by
                unfold firstOf
                rw [ep]
              rw [ef]
              exact ⟨r, va, vb, h1, h2, h3⟩
          refine lc_row (ys := ys) (fun D i H3 => ∃ vs : List V, H3 D = some (.lst vs) ∧ DpAll K H1 vs ((fs.take i).map firstOf) ∧ Same H' H3) (fun Q' z => ⟨_, rfl, z⟩) (sq_same s2 hq) (fun D hD => ⟨[], upd_same, .nil, new_same hD _⟩) (fun D i H3 _ hP => hP.elim fun _ z => z.2.2) (fun D i x H3 hD hi hP hx => ?_) (fun D H3 hD hP => ?_)
          · obtain ⟨vs, g1, g2, g3⟩ := hP
            obtain ⟨f, hf1, _⟩ := dps_get ha hx
            obtain ⟨r, va, vb, rfl, h2', h3'⟩ := pick1 (Same.refl H1) hx hf1
            refine ⟨rfl, ?_⟩
            unfold tYes
            refine iteT ⟨_, rfl, ix_row (sq_same (s2.trans g3) h2') rfl ⟨vs, g1, small1000 ?_, vs ++ [va], upd_same, ?_, fun b o z => ?_⟩⟩
            · rw [dps_len g2, List.length_map, List.length_take]
              omega
            · rw [take_one hf1, List.map_append]
              exact dps_snoc g2 h3'
            · rw [upd_ne (ne_of_none z hD)]
              exact g3 _ _ z
          · obtain ⟨vs, g1, g2, g3⟩ := hP
            rw [List.take_of_length_le (by omega)] at g2
            refine ⟨D, vs, fs.map firstOf, rfl, .inl (SqL.of g1), dps_same (s2.trans g3) g2, ?_, by rw [List.length_map]; omega, fun H4 s4 => q_is eq0.symm (k _ ((s02.trans g3).trans s4))⟩
            intro a hm
            obtain ⟨f, hfm, rfl⟩ := List.mem_map.mp hm
            cases ep : pairOf f with
            | none =>
              have : firstOf f = .none := by
                unfold firstOf
                rw [ep]
              rw [this]
              exact True.intro
            | some ab =>
              obtain ⟨a, b⟩ := ab
              have ef : firstOf f = a := by
                unfold firstOf
                rw [ep]
              rw [ef]
              exact (hs fs e f hfm a b ep).1
      · rw [decide_eq_false h5, Bool.false_and] at eq0
        rw [decide_eq_false (by omega : ¬ (ys.length : Int) ≤ 6)]
        exact iteT (q_is eq0.symm (k H1 s1))
    · rw [decide_eq_false h1, Bool.false_and] at eq0
      exact iteDF (by omega) ⟨_, rfl, iteT (q_is eq0.symm (k H1 s1))⟩
end
end Q
set_option Elab.async false
set_option linter.all false
set_option maxRecDepth 100000
set_option maxHeartbeats 4000000
/-! ### _are_rules, _ways_to_fill -/
namespace Q
open PySem L2 XD
def ruleOk (t : List (Str × List Str)) (d : PyData) : Bool := match rowOf d with
  | some fs => areFacts t d && (decide (1 ≤ fs.length) && decide (fs.length ≤ 4))
  | none => false
def areRules (t : List (Str × List Str)) (d : PyData) : Bool := match rowOf d with
  | some rs => decide (rs.length ≤ 20) && rs.all (ruleOk t)
  | none => false
def ROk (d : PyData) : Prop := ∀ rs, rowOf d = some rs → ∀ r ∈ rs, FOk r
theorem TabAt.same {K : PySem.W.Frag} {H H' : Hp} {p : Addr} {t : List (Str × List Str)} (s : Same H H') (h : TabAt K H p t) : TabAt K H' p t := by
  obtain ⟨ps, kvs, a, b, c⟩ := h
  exact ⟨ps, kvs, a.same s, b.same s, c⟩
theorem facts_row {t : List (Str × List Str)} {d : PyData} (h : areFacts t d = true) : ∃ fs, rowOf d = some fs := by
  unfold areFacts at h
  cases e : rowOf d with
  | some fs => exact ⟨fs, rfl⟩
  | none =>
    rw [e] at h
    cases h
theorem ruleOk_no {t : List (Str × List Str)} {d : PyData} (h : areFacts t d = false) : ruleOk t d = false := by
  unfold ruleOk
  cases e : rowOf d with
  | none => rfl
  | some fs =>
    show (areFacts t d && _) = false
    rw [h, Bool.false_and]
theorem ruleOk_yes {t : List (Str × List Str)} {d : PyData} {fs : List PyData} (e : rowOf d = some fs) (h : areFacts t d = true) : ruleOk t d = (decide (1 ≤ fs.length) && decide (fs.length ≤ 4)) := by
  unfold ruleOk
  rw [e]
  show (areFacts t d && _) = _
  rw [h, Bool.true_and]
def spAreRules (K : PySem.W.Frag) : Sp := fun vs H Q _ => ∃ (p : Addr) (t : List (Str × List Str)) (v : V) (d : PyData), vs = [.ref p, v] ∧ TabAt K H p t ∧ Dp K H v d ∧ ROk d ∧ ∀ H', Same H H' → Q (.bl (areRules t d)) H'
section
variable {P : Program} {w : World} {K : PySem.W.Frag} {mg : Str → Option Value} {base : Heap}
theorem scAreRules : FnScope ["fields", "rules", "rule"] ["fields", "rules"] (defScope sAreRules) := ⟨rfl, rfl, rfl, by decide +kernel, rfl, by decide +kernel, by decide +kernel⟩
theorem ok_arerules {f : Addr} {fd : FuncData} (F : Fun K "_are_rules" "_are_rules" sAreRules f fd) (T : Bb mg) (C : Fm mg) (KR : Kn P w K mg base 1 "is_row" ["thing"] (spIsRow K)) (KF : Kn P w K mg base 3 "are_facts" ["fields", "facts"] (spAreFacts K)) :
    FnOk P w K mg base CX0 4 f fd ["fields", "rules"] (spAreRules K) := by
  obtain ⟨fR, fdR, GR, kR, bR, mR⟩ := KR.ex
  obtain ⟨fF, fdF, GF, kF, bF, mF⟩ := KF.ex
  obtain ⟨tR, hR⟩ := C.mr
  obtain ⟨tP, hP⟩ := C.mp
  refine F.ok scAreRules (fun vs H Q E h => ?_) (fun cdv A outer s H vs Q E hr h => ?_)
  · obtain ⟨p, t, v, d, rfl, _⟩ := h
    rfl
  obtain ⟨p, t, v, d, rfl, ht, hd, hs, k⟩ := h
  refine ⟨_, pss_cons (ps_if (PW.pt (pw_or (pt_not (pt_val (pe_call GR (hr.mono (by decide)) rfl mR kR bR .nil pass0 (pa_cons (pv 1) pa_nil)))) (pw_or1 (pt_cmpR op_gt (pe_callB call_len_seq rfl T.len PySem.boot_len (pa_cons (pv 1) pa_nil)) (pe_glob (v := .int 20) (by rfl) hR ⟨_, rfl⟩) (nomark _)))))
      (pss_one (ps_ret pe_bl)) pss_nil)
    (pss_cons (ps_for PassesOwn.never rfl (pi_row (pv 1)) (pg_name (i := 2) scAreRules.nd rfl (.inl rfl))
      (pss_one (ps_if (PW.pt (pw_or (pt_not (pt_val (pe_call GF hr rfl mF kF bF .nil pass0 (pa_cons (pv 0) (pa_cons (pv 2) pa_nil))))) (pw_or1 (pt_not (pt_chain op_le op_le pe_int (pe_callB call_len_seq rfl T.len PySem.boot_len (pa_cons (pv 2) pa_nil)) (pe_glob (v := .int 4) (by rfl) hP ⟨_, rfl⟩))))))
        (pss_one (ps_ret pe_bl)) pss_nil)))
    (pss_one (ps_ret pe_bl))), ?_⟩
  refine ⟨_, rfl, v, d, rfl, hd, fun H1 s1 => ⟨_, rfl, ?_⟩⟩
  cases e : rowOf d with
  | none =>
    rw [isRow_no e]
    refine iteT (iteT (q_is ?_ (k H1 s1)))
    unfold areRules
    rw [e]
  | some fs =>
    rw [isRow_of e]
    obtain ⟨q, ys, rfl, hq, ha⟩ := row_len (dp_same s1 hd) e
    have hlen := dps_len ha
    have eq0 : areRules t d = (decide (fs.length ≤ 20) && fs.all (ruleOk t)) := by
      unfold areRules
      rw [e]
    refine iteF ⟨_, rfl, q, ys, rfl, hq, _, _, rfl, rfl, _, rfl, ?_⟩
    by_cases h1 : fs.length ≤ 20
    · rw [decide_eq_true h1, Bool.true_and] at eq0
      refine iteDF (by omega) ?_
      show tFor (iRow K (tVar 1)) (gName 2) _ _ _ _
      refine for_row (ys := ys) (H0 := H1) (fun i σ H' => ∃ f1 : Option V, σ = [some (.ref p), some (.ref q), f1] ∧ Same H1 H' ∧ fs.all (ruleOk t) = (fs.drop i).all (ruleOk t)) (fun Q' z => ⟨_, rfl, z⟩) hq ⟨none, rfl, Same.refl H1, rfl⟩ ?_ ?_ ?_
      · rintro i σ H' ⟨_, _, z, _⟩
        exact z
      · rintro i x σ H2 hi ⟨f1, rfl, s2, h6⟩ hx
        obtain ⟨f, hf1, hdf⟩ := dps_get ha hx
        have hfm : f ∈ fs := List.mem_of_getElem? hf1
        have hdrop : fs.drop i = f :: fs.drop (i + 1) := by
          obtain ⟨hi2, e2⟩ := List.getElem?_eq_some_iff.mp hf1
          rw [List.drop_eq_getElem_cons hi2, e2]
        rw [hdrop, List.all_cons] at h6
        have no : ∀ H3, Same H1 H3 → ruleOk t f = false → Q (.bl false) H3 := fun H3 s3 z => q_is (by rw [eq0, h6, z] <;> rfl) (k _ (s1.trans s3))
        refine ⟨_, rfl, _, rfl, p, t, x, f, rfl, TabAt.same (s1.trans s2) ht, dp_same s2 hdf, hs fs e f hfm, fun H3 s3 => ⟨_, rfl, ?_⟩⟩
        have s13 : Same H1 H3 := s2.trans s3
        cases ef : areFacts t f with
        | false => exact iteT (iteT (no _ s13 (ruleOk_no ef)))
        | true =>
          obtain ⟨gs, eg⟩ := facts_row ef
          obtain ⟨r, zs, rfl, hr2, hzs⟩ := row_len (dp_same s13 hdf) eg
          have hzl := dps_len hzs
          have eok := ruleOk_yes eg ef
          refine iteF ⟨_, rfl, r, zs, rfl, hr2, _, _, rfl, rfl, _, rfl, ?_⟩
          by_cases g1 : 1 ≤ gs.length
          · rw [decide_eq_true g1, Bool.true_and] at eok
            refine iteDT (by omega) ⟨_, _, rfl, rfl, _, rfl, ?_⟩
            by_cases g4 : gs.length ≤ 4
            · rw [decide_eq_true g4] at eok
              rw [decide_eq_true (by omega : (zs.length : Int) ≤ 4)]
              refine iteF ⟨_, rfl, s13, ?_⟩
              rw [h6, eok, Bool.true_and]
            · rw [decide_eq_false g4] at eok
              rw [decide_eq_false (by omega : ¬ (zs.length : Int) ≤ 4)]
              exact iteT (no _ s13 eok)
          · rw [decide_eq_false g1, Bool.false_and] at eok
            exact iteDF (by omega) ⟨_, rfl, iteT (no _ s13 eok)⟩
      · rintro σ H' ⟨f1, rfl, s2, h6⟩
        rw [List.drop_eq_nil_of_le (by omega)] at h6
        exact q_is (eq0.trans h6).symm (k _ (s1.trans s2))
    · rw [decide_eq_false h1, Bool.false_and] at eq0
      exact iteDT (by omega) (q_is eq0.symm (k H1 s1))
end
end Q
set_option Elab.async false
set_option linter.all false
set_option maxRecDepth 100000
set_option maxHeartbeats 4000000
/-! ### _ways_to_fill, _each_once -/
namespace Q
open PySem L2 XD
/-- so many ways -/
def waysFrom (a : Nat) (t : List (Str × List Str)) : Nat := t.foldl (fun a e => a * e.2.length) a
def spWays (K : PySem.W.Frag) : Sp := fun vs H Q _ => ∃ (p : Addr) (t : List (Str × List Str)), vs = [.ref p] ∧ TabAt K H p t ∧ t.length ≤ 6 ∧ (∀ e ∈ t, e.2.length ≤ 5) ∧ ∀ H', Same H H' → Q (.int (waysFrom 1 t : Nat)) H'
theorem ways_next {t : List (Str × List Str)} {i : Nat} {e : Str × List Str} (h : t[i]? = some e) : waysFrom 1 (t.take (i + 1)) = waysFrom 1 (t.take i) * e.2.length := by
  unfold waysFrom
  rw [take_one h, List.foldl_append]
  rfl
theorem ways_small {t : List (Str × List Str)} (hs : ∀ e ∈ t, e.2.length ≤ 5) : ∀ a, waysFrom a t ≤ a * 5 ^ t.length := by
  induction t with
  | nil =>
    intro a
    show a ≤ a * 1
    omega
  | cons e t ih =>
    intro a
    show waysFrom (a * e.2.length) t ≤ a * 5 ^ (t.length + 1)
    refine Nat.le_trans (ih (fun e' h => hs e' (List.mem_cons_of_mem _ h)) _) ?_
    rw [Nat.pow_succ, Nat.mul_assoc]
    refine Nat.mul_le_mul_left a ?_
    rw [Nat.mul_comm]
    exact Nat.mul_le_mul_left _ (hs e List.mem_cons_self)
/-- a rule as data -/
def ruleD (r : List (Str × Str)) : PyData := .tuple (r.map fun e => .tuple [.str e.1, .str e.2])
theorem eqvAll_pairs : ∀ a b : List (Str × Str), PyData.eqvAll (a.map fun e => .tuple [.str e.1, .str e.2]) (b.map fun e => .tuple [.str e.1, .str e.2]) = decide (a = b)
  | [], [] => by simp [PyData.eqvAll]
  | [], _ :: _ => by simp [PyData.eqvAll]
  | _ :: _, [] => by simp [PyData.eqvAll]
  | (n, w) :: a, (m, v) :: b => by
    rw [List.map_cons, List.map_cons, PyData.eqvAll, eqvAll_pairs a b, PyData.eqv, PyData.eqvAll, PyData.eqvAll, PyData.eqvAll, PyData.eqv, PyData.eqv]
    by_cases h1 : n = m
    · by_cases h2 : w = v
      · by_cases h3 : a = b
        · simp [h1, h2, h3]
        · simp [h1, h2, h3]
      · simp [h1, h2]
    · simp [h1]
theorem eqv_rule (a b : List (Str × Str)) : PyData.eqv (ruleD a) (ruleD b) = decide (a = b) := by
  unfold ruleD
  rw [PyData.eqv]
  exact eqvAll_pairs a b
def RStr (r : List (Str × Str)) : Prop := ∀ e ∈ r, PyData.strOk e.1 = true ∧ PyData.strOk e.2 = true
theorem rule_lay : ∀ r : List (Str × Str), RStr r → PyData.canLayAll0 (r.map fun e => .tuple [.str e.1, .str e.2]) = true
  | [], _ => by simp [PyData.canLayAll0]
  | e :: r, h => by
    have h1 := h e List.mem_cons_self
    have h2 := rule_lay r fun x hx => h x (List.mem_cons_of_mem _ hx)
    rw [List.map_cons, PyData.canLayAll0, h2, Bool.and_true]
    simp [PyData.canLay0, PyData.canLayAll0, h1.1, h1.2]
theorem rule_depth : ∀ r : List (Str × Str), PyData.depthAll (r.map fun e => .tuple [.str e.1, .str e.2]) ≤ 2
  | [] => by simp [PyData.depthAll]
  | e :: r => by
    have := rule_depth r
    rw [List.map_cons, PyData.depthAll]
    simp [PyData.depth, PyData.depthAll] at this ⊢
    omega
theorem rule_shaped {r : List (Str × Str)} (h : RStr r) : SeqAt.shaped (ruleD r) = true := by
  unfold SeqAt.shaped ruleD
  have h1 := rule_lay r h
  have h2 := rule_depth r
  rw [PyData.canLay0, h1, Bool.true_and]
  refine decide_eq_true ?_
  rw [PyData.depth]
  omega
theorem rules_lay : ∀ rs : List (List (Str × Str)), (∀ r ∈ rs, RStr r) → PyData.canLayAll0 (rs.map ruleD) = true
  | [], _ => by simp [PyData.canLayAll0]
  | r :: rs, h => by
    rw [List.map_cons, PyData.canLayAll0, rules_lay rs fun x hx => h x (List.mem_cons_of_mem _ hx), Bool.and_true]
    exact SeqAt.canLay_of_shaped (rule_shaped (h r List.mem_cons_self))
theorem rules_depth : ∀ rs : List (List (Str × Str)), PyData.depthAll (rs.map ruleD) ≤ 3
  | [] => by simp [PyData.depthAll]
  | r :: rs => by
    have h1 := rules_depth rs
    have h2 := rule_depth r
    rw [List.map_cons, PyData.depthAll]
    have h3 : (ruleD r).depth ≤ 3 := by
      unfold ruleD
      rw [PyData.depth]
      omega
    omega
theorem rules_shaped {rs : List (List (Str × Str))} (h : ∀ r ∈ rs, RStr r) : SeqAt.shaped (.list (rs.map ruleD)) = true := by
  unfold SeqAt.shaped
  have h1 := rules_lay rs h
  have h2 := rules_depth rs
  rw [PyData.canLay0, h1, Bool.true_and]
  refine decide_eq_true ?_
  rw [PyData.depth]
  omega
theorem prd_dps {K : PySem.W.Frag} {H : Hp} : ∀ {qs : List Addr} {r : List (Str × Str)}, Paired (fun q (e : Str × Str) => SqT K H q [.str e.1, .str e.2]) qs r → DpAll K H (qs.map V.ref) (r.map fun e => .tuple [.str e.1, .str e.2])
  | _, _, .nil => .nil
  | _, _, .cons a b => .cons (.tup a (.cons (.str _) (.cons (.str _) .nil))) (prd_dps b)
theorem RuleAt.dp {K : PySem.W.Frag} {H : Hp} {p : Addr} {r : List (Str × Str)} (h : RuleAt K H p r) : Dp K H (.ref p) (ruleD r) := by
  obtain ⟨qs, h1, h2⟩ := h
  exact .tup h1.sqT (prd_dps h2)
theorem RuleAt.same {K : PySem.W.Frag} {H H' : Hp} {p : Addr} {r : List (Str × Str)} (s : Same H H') (h : RuleAt K H p r) : RuleAt K H' p r := by
  obtain ⟨qs, h1, h2⟩ := h
  exact ⟨qs, h1.same s, prd_same s h2⟩
theorem rules_dps {K : PySem.W.Frag} {H : Hp} : ∀ {ps : List Addr} {rs : List (List (Str × Str))}, Paired (RuleAt K H) ps rs → DpAll K H (ps.map V.ref) (rs.map ruleD)
  | _, _, .nil => .nil
  | _, _, .cons a b => .cons a.dp (rules_dps b)
theorem rules_same {K : PySem.W.Frag} {H H' : Hp} (s : Same H H') : ∀ {ps : List Addr} {rs : List (List (Str × Str))}, Paired (RuleAt K H) ps rs → Paired (RuleAt K H') ps rs
  | _, _, .nil => .nil
  | _, _, .cons a b => .cons (a.same s) (rules_same s b)
theorem prd_at {α β : Type} {R : α → β → Prop} : ∀ {xs : List α} {ys : List β} {i : Nat} {x : α}, Paired R xs ys → xs[i]? = some x → ∃ y, ys[i]? = some y ∧ R x y
  | _, _, _, _, .nil, e => by simp at e
  | _, _, 0, _, .cons a b, e => by
    simp at e
    subst e
    exact ⟨_, rfl, a⟩
  | _, _, i + 1, x, .cons a b, e => by
    obtain ⟨y, h1, h2⟩ := prd_at (i := i) (x := x) b (by simpa using e)
    exact ⟨y, by simpa using h1, h2⟩
/-- each once, at its first place -/
def once (rs : List (List (Str × Str))) : List (List (Str × Str)) := rs.foldl (fun acc r => if r ∈ acc then acc else acc ++ [r]) []
theorem once_next {rs : List (List (Str × Str))} {i : Nat} {r : List (Str × Str)} (h : rs[i]? = some r) : once (rs.take (i + 1)) = if r ∈ once (rs.take i) then once (rs.take i) else once (rs.take i) ++ [r] := by
  unfold once
  rw [take_one h, List.foldl_append]
  rfl
def RulesAt (K : PySem.W.Frag) (H : Hp) (p : Addr) (rs : List (List (Str × Str))) : Prop := ∃ ps : List Addr, SqZ H p (ps.map V.ref) ∧ Paired (RuleAt K H) ps rs
def spEach (K : PySem.W.Frag) : Sp := fun vs H Q _ => ∃ (q : Addr) (ps : List Addr) (rs : List (List (Str × Str))), vs = [.ref q] ∧ SqL K H q (ps.map V.ref) ∧ Paired (RuleAt K H) ps rs ∧ (∀ r ∈ rs, RStr r) ∧ rs.length ≤ 1000 ∧ ∀ z H', Same H H' → RulesAt K H' z (once rs) → Q (.ref z) H'
section
variable {P : Program} {w : World} {K : PySem.W.Frag} {mg : Str → Option Value} {base : Heap}
theorem scWays : FnScope ["fields", "ways", "_", "values"] ["fields"] (defScope sWays) := ⟨rfl, rfl, rfl, by decide +kernel, rfl, by decide +kernel, by decide +kernel⟩
theorem ok_ways {f : Addr} {fd : FuncData} (F : Fun K "_ways_to_fill" "_ways_to_fill" sWays f fd) (T : Bb mg) : FnOk P w K mg base CX0 1 f fd ["fields"] (spWays K) := by
  refine F.ok scWays (fun vs H Q E h => ?_) (fun cdv A outer s H vs Q E hr h => ?_)
  · obtain ⟨p, t, rfl, _⟩ := h
    rfl
  obtain ⟨p, t, rfl, ⟨ps, kvs, hz, hT, hn, hm⟩, hl, hs, k⟩ := h
  refine ⟨_, pss_cons (ps_set (i := 1) scWays.nd rfl (.inl rfl) pe_int)
    (pss_cons (ps_for PassesOwn.never rfl (pi_row (pv 0)) (pg_tup rfl (pgs_cons (pg_name (i := 2) scWays.nd rfl (.inl rfl)) (pgs_cons (pg_name (i := 3) scWays.nd rfl (.inl rfl)) pgs_nil)))
      (pss_one (ps_set (i := 1) scWays.nd rfl (.inl rfl) (pe_mul (pv 1) (pe_callB call_len_seq rfl T.len PySem.boot_len (pa_cons (pv 3) pa_nil))))))
    (pss_one (ps_ret (pv 1)))), ?_⟩
  have hlen : (ps.map V.ref).length = t.length := by rw [List.length_map, hT.len.1]
  show tFor (iRow K (tVar 0)) _ _ _ [some (.ref p), some (.int 1), none, none] _
  refine for_row (ys := ps.map V.ref) (H0 := H) (fun i σ H' => ∃ f2 f3 : Option V, σ = [some (.ref p), some (.int (waysFrom 1 (t.take i) : Nat)), f2, f3] ∧ H' = H) (fun Q' z => ⟨_, rfl, z⟩) (.inr hz.sqT) ⟨none, none, rfl, rfl⟩ ?_ ?_ ?_
  · rintro i σ H' ⟨_, _, _, rfl⟩
    exact Same.refl _
  · rintro i x σ H' hi ⟨f2, f3, rfl, rfl⟩ hx
    obtain ⟨q1, v1, n, ws, rfl, e1, e2, e3⟩ := hT.at hx
    have b1 : waysFrom 1 (t.take i) ≤ 15625 := by
      refine Nat.le_trans (ways_small (fun e he => hs e (List.mem_of_mem_take he)) 1) ?_
      rw [Nat.one_mul]
      have : (t.take i).length ≤ 6 := by
        rw [List.length_take]
        omega
      exact Nat.le_trans (Nat.pow_le_pow_right (by decide) this) (by decide)
    refine ⟨q1, _, rfl, e2, rfl, .str n, _, rfl, .ref v1, [], rfl, rfl, _, rfl, _, rfl, v1, _, rfl, .inr e3, _, _, rfl, rfl, ?_, ?_⟩
    · constructor
      · have : -(2 ^ 64 : Int) < 0 := by decide
        omega
      · have : (15625 : Int) < 2 ^ 64 := by decide
        omega
    · refine ⟨some (.str n), some (.ref v1), ?_, rfl⟩
      rw [ways_next e1, List.length_map]
      show [_, some (V.int _), _, _] = _
      rw [Int.natCast_mul]
  · rintro σ H' ⟨f2, f3, rfl, rfl⟩
    rw [List.take_of_length_le (by omega)]
    exact ⟨_, rfl, k _ (Same.refl _)⟩
theorem scEach : FnScope ["rules", "kept", "rule"] ["rules"] (defScope sEach) := ⟨rfl, rfl, rfl, by decide +kernel, rfl, by decide +kernel, by decide +kernel⟩
theorem ok_each {f : Addr} {fd : FuncData} (F : Fun K "_each_once" "_each_once" sEach f fd) (T : Bb mg) : FnOk P w K mg base CX0 1 f fd ["rules"] (spEach K) := by
  refine F.ok scEach (fun vs H Q E h => ?_) (fun cdv A outer s H vs Q E hr h => ?_)
  · obtain ⟨q, ps, rs, rfl, _⟩ := h
    rfl
  obtain ⟨q, ps, rs, rfl, hq, hp, hs, hm, k⟩ := h
  have vt_ : PySem.bootBuiltins "tuple" = some (.type "tuple") := by decide +kernel
  have hu2 : (A.deeper (PyProof.Rows.envOfC "_each_once" (defScope sEach) s.heap.objs.size f cdv)).units + 65 < cLine := by
    have := hr.un
    omega
  refine ⟨_, pss_cons (ps_set (i := 1) scEach.nd rfl (.inl rfl) (pe_lst pa_nil))
    (pss_cons (ps_for PassesOwn.never rfl (pi_row (pv 0)) (pg_name (i := 2) scEach.nd rfl (.inl rfl))
      (pss_one (ps_if (pt_cmpR (op_notInD hu2) (pv 2) (pv 1) (by with_unfolding_all rfl))
        (pss_one (ps_expr (pe_bm PySem.F.plainAttrs_list PySem.F.slot_list_append PySem.F.type_list_append mt_append (pv 1) (pa_cons (pv 2) pa_nil)))) pss_nil)))
    (pss_one (ps_ret (pe_callTy call_tupZ rfl T.tup vt_ (pa_cons (pv 1) pa_nil))))), ?_⟩
  refine ⟨by show 0 ≤ sizeLine; decide, fun B hB => ?_⟩
  have hlen : (ps.map V.ref).length = rs.length := by rw [List.length_map, prd_len hp]
  have s1 : Same H (upd H B (.lst [])) := new_same hB _
  show tFor (iRow K (tVar 0)) _ _ _ [some (.ref q), some (.ref B), none] _
  refine for_row (ys := ps.map V.ref) (H0 := H) (fun i σ H' => ∃ (f2 : Option V) (ks : List Addr), σ = [some (.ref q), some (.ref B), f2] ∧ H' B = some (.lst (ks.map V.ref)) ∧ Paired (RuleAt K H) ks (once (rs.take i)) ∧ (∀ r ∈ once (rs.take i), r ∈ rs) ∧ ks.length ≤ i ∧ Same H H') (fun Q' z => ⟨_, rfl, z⟩) (.inl hq)
    ⟨none, [], rfl, upd_same, .nil, (fun (r : List (Str × Str)) (h : r ∈ ([] : List (List (Str × Str)))) => absurd h List.not_mem_nil), Nat.le_refl _, s1⟩ ?_ ?_ ?_
  · rintro i σ H' ⟨_, _, _, _, _, _, _, z⟩
    exact z
  · rintro i x σ H' hi ⟨f2, ks, rfl, g1, g2, g3, g4, g5⟩ hx
    obtain ⟨pr, e0, rfl⟩ : ∃ pr, ps[i]? = some pr ∧ x = .ref pr := by
      rw [List.getElem?_map] at hx
      cases e : ps[i]? with
      | none =>
        rw [e] at hx
        cases hx
      | some pr =>
        rw [e] at hx
        cases hx
        exact ⟨pr, rfl, rfl⟩
    obtain ⟨r, e1, hr1⟩ := prd_at hp e0
    have hrm : r ∈ rs := List.mem_of_getElem? e1
    have hnx := once_next e1
    have hany : ((once (rs.take i)).map ruleD).any (fun z => PyData.eqv z (ruleD r)) = decide (r ∈ once (rs.take i)) := by
      rw [List.any_map]
      refine (List.any_eq (p := _)).trans (decide_eq_decide.mpr ⟨fun ⟨y, h1, h2⟩ => ?_, fun h1 => ⟨r, h1, ?_⟩⟩)
      · have h3 : PyData.eqv (ruleD y) (ruleD r) = true := h2
        rw [eqv_rule] at h3
        exact (of_decide_eq_true h3) ▸ h1
      · show PyData.eqv (ruleD r) (ruleD r) = true
        rw [eqv_rule]
        exact decide_eq_true rfl
    refine ⟨_, rfl, _, rfl, ruleD r, (once (rs.take i)).map ruleD, (hr1.same g5).dp, .lst (SqL.of g1) (rules_dps (rules_same g5 g2)), rule_shaped (hs r hrm), rules_shaped (fun r' h => hs r' (g3 r' h)), _, rfl, ?_⟩
    rw [hany]
    by_cases hin : r ∈ once (rs.take i)
    · rw [if_pos hin] at hnx
      rw [decide_eq_true hin]
      refine iteF ⟨_, ks, rfl, g1, by rw [hnx]; exact g2, by rw [hnx]; exact g3, by omega, g5⟩
    · rw [if_neg hin] at hnx
      rw [decide_eq_false hin]
      refine iteT ⟨_, rfl, .inl ⟨rfl, _, SqL.of g1⟩, _, rfl, B, _, _, rfl, rfl, g1, small1000 (by rw [List.length_map]; omega), ?_⟩
      refine ⟨_, ks ++ [pr], rfl, ?_, ?_, ?_, ?_, fun b o z => ?_⟩
      · rw [upd_same, List.map_append] <;> rfl
      · rw [hnx]
        exact prd_snoc g2 hr1
      · rw [hnx]
        intro r' h'
        rcases List.mem_append.mp h' with h' | h'
        · exact g3 r' h'
        · rw [List.mem_singleton.mp h']
          exact hrm
      · rw [List.length_append, List.length_singleton]
        omega
      · rw [upd_ne (ne_of_none z hB)]
        exact g5 _ _ z
  · rintro σ H' ⟨f2, ks, rfl, g1, g2, g3, g4, g5⟩
    rw [List.take_of_length_le (by omega)] at g2
    refine ⟨_, rfl, B, _, rfl, .inl ⟨SqL.of g1, fun l o hl ho => ?_⟩⟩
    have sl : Same H' (upd H' l (.frz o (.tup (ks.map V.ref)))) := new_same hl _
    exact k l _ (g5.trans sl) ⟨ks, ⟨o, upd_same, ho⟩, rules_same (g5.trans sl) g2⟩
end
end Q
set_option Elab.async false
set_option linter.all false
set_option maxRecDepth 100000
set_option maxHeartbeats 4000000
/-! ### what surely are facts -/
namespace Q
open PySem L2 XD
theorem stands_str {ws : List Str} {d : PyData} (h : stands ws d = true) : ∃ w, d = .str w ∧ w ∈ ws := by
  unfold stands at h
  obtain ⟨z, hz, e⟩ := List.any_eq_true.mp h
  obtain ⟨w, hw, rfl⟩ := List.mem_map.mp hz
  cases d with
  | str x =>
    rw [PyData.eqv] at e
    have : w = x := by simpa using e
    subst this
    exact ⟨w, rfl, hw⟩
  | _ => simp [PyData.eqv] at e
/-- the pair of texts that a fact is -/
def factOf (f : PyData) : Str × Str := match pairOf f with
  | some (.str n, .str w) => (n, w)
  | _ => (Str.empty, Str.empty)
def factsOf (d : PyData) : List (Str × Str) := match rowOf d with
  | some fs => fs.map factOf
  | none => []
theorem go_cons {t : List (Str × List Str)} {seen : List Str} {f : PyData} {fs : List PyData} (h : goFacts t seen (f :: fs) = true) :
    ∃ n w ws, pairOf f = some (.str n, .str w) ∧ look n t = some ws ∧ w ∈ ws ∧ seen.contains n = false ∧ goFacts t (n :: seen) fs = true := by
  cases ep : pairOf f with
  | none =>
    rw [go_none ep] at h
    cases h
  | some ab =>
    obtain ⟨a, b⟩ := ab
    cases es : isStr a with
    | false =>
      rw [go_nostr ep es] at h
      cases h
    | true =>
      obtain ⟨n, rfl⟩ : ∃ n, a = .str n := by
        cases a <;> first | exact ⟨_, rfl⟩ | cases es
      cases el : look n t with
      | none =>
        rw [go_new ep el] at h
        cases h
      | some ws =>
        rw [go_old ep el, Bool.and_eq_true, Bool.and_eq_true] at h
        obtain ⟨h1, h2, h3⟩ := h
        obtain ⟨w, rfl, hw⟩ := stands_str h2
        exact ⟨n, w, ws, rfl, el, hw, by simpa using h1, h3⟩
theorem facts_good {K : PySem.W.Frag} {H : Hp} {t : List (Str × List Str)} : ∀ {ys : List V} {fs : List PyData} {seen : List Str}, DpAll K H ys fs → goFacts t seen fs = true →
    ∃ (ps : List Addr) (kvs : List (Key × V)), ys = ps.map V.ref ∧ FactR K H ps kvs (fs.map factOf) ∧ ((fs.map factOf).map (·.1)).Nodup ∧ (∀ e ∈ fs.map factOf, e.1 ∉ seen) ∧ (∀ e ∈ fs.map factOf, ∃ ws, look e.1 t = some ws ∧ e.2 ∈ ws)
  | _, _, _, .nil, _ => ⟨[], [], rfl, .nil, List.nodup_nil, fun e h => absurd h List.not_mem_nil, fun e h => absurd h List.not_mem_nil⟩
  | _, _, seen, .cons (v := v) (d := f) (ds := fs) h t', g => by
    obtain ⟨n, w, ws, e1, e2, e3, e4, e5⟩ := go_cons g
    obtain ⟨ps, kvs, rfl, i1, i2, i3, i4⟩ := facts_good t' e5
    obtain ⟨r, va, vb, rfl, hr, hva, hvb⟩ := pair_at h e1
    cases hva
    cases hvb
    have ef : factOf f = (n, w) := by
      unfold factOf
      rw [e1]
    have nin : n ∉ seen := fun z => by
      have : seen.contains n = true := by simpa using z
      rw [this] at e4
      cases e4
    refine ⟨r :: ps, (.inr n, .str w) :: kvs, rfl, ?_, ?_, ?_, ?_⟩
    · rw [List.map_cons, ef]
      exact .cons hr.symm i1
    · rw [List.map_cons, List.map_cons, ef, List.nodup_cons]
      refine ⟨fun z => ?_, i2⟩
      obtain ⟨e, he, hn⟩ := List.mem_map.mp z
      exact i3 e he (hn ▸ List.mem_cons_self)
    · rw [List.map_cons, ef]
      intro e he
      rcases List.mem_cons.mp he with rfl | he
      · exact nin
      · exact fun z => i3 e he (List.mem_cons_of_mem _ z)
    · rw [List.map_cons, ef]
      intro e he
      rcases List.mem_cons.mp he with rfl | he
      · exact ⟨ws, e2, e3⟩
      · exact i4 e he
theorem facts_go {t : List (Str × List Str)} {d : PyData} {fs : List PyData} (e : rowOf d = some fs) (h : areFacts t d = true) : fs.length ≤ t.length ∧ goFacts t [] fs = true := by
  unfold areFacts at h
  rw [e] at h
  have h2 : (decide (fs.length ≤ t.length) && goFacts t [] fs) = true := h
  rw [Bool.and_eq_true] at h2
  exact ⟨of_decide_eq_true h2.1, h2.2⟩
/-- fields that are such, as a table -/
def entryOf (f : PyData) : Str × List Str := match pairOf f with
  | some (a, b) => (strOf a, match rowOf b with
    | some ws => textsOf ws
    | none => [])
  | none => (Str.empty, [])
def tabOf (d : PyData) : List (Str × List Str) := match rowOf d with
  | some fs => fs.map entryOf
  | none => []
theorem az_small {c : Nat} (h : az c = true) : c < 0x110000 := by
  unfold az at h
  rw [Bool.and_eq_true] at h
  have h2 : ¬ (("z" : Str).cps.toList < [c]) := by simpa using h.2
  by_cases h3 : c < 0x110000
  · exact h3
  · exfalso
    refine h2 ?_
    show ([122] : List Nat) < [c]
    exact List.cons_lt_cons_iff.mpr (.inl (by omega))
theorem word_ok {s : Str} (h : word s = true) : PyData.strOk s = true := by
  unfold word at h
  rw [Bool.and_eq_true] at h
  unfold PyData.strOk
  rw [← Array.all_toList]
  refine List.all_eq_true.mpr fun c hc => decide_eq_true (az_small (List.all_eq_true.mp h.2 c hc))
theorem entry_first (f : PyData) : (entryOf f).1 = strOf (firstOf f) := by
  unfold entryOf firstOf
  cases pairOf f with
  | none => rfl
  | some ab => rfl
theorem word_str {d : PyData} (h : isWord d = true) : ∃ n, d = .str n ∧ word n = true := by
  cases d with
  | str n => exact ⟨n, rfl, h⟩
  | _ => cases h
theorem field_good {f : PyData} (h : fieldOk f = true) (hw : isWord (firstOf f) = true) : ∃ (n : Str) (b : PyData) (ws : List PyData), pairOf f = some (.str n, b) ∧ rowOf b = some ws ∧ ws.all isWord = true ∧ ws.length ≤ 5 ∧ word n = true ∧ entryOf f = (n, textsOf ws) := by
  cases e : pairOf f with
  | none =>
    unfold fieldOk at h
    rw [e] at h
    cases h
  | some ab =>
    obtain ⟨a, b⟩ := ab
    have h1 : areValues b = true := by
      unfold fieldOk at h
      rw [e] at h
      exact h
    have h2 : firstOf f = a := by
      unfold firstOf
      rw [e]
    rw [h2] at hw
    obtain ⟨n, rfl, hn⟩ := word_str hw
    unfold areValues at h1
    cases er : rowOf b with
    | none =>
      rw [er] at h1
      cases h1
    | some ws =>
      rw [er] at h1
      have h3 : (decide (1 ≤ ws.length) && (decide (ws.length ≤ 5) && unlike ws)) = true := h1
      rw [Bool.and_eq_true, Bool.and_eq_true] at h3
      have h4 := h3.2.2
      unfold unlike at h4
      rw [Bool.and_eq_true] at h4
      refine ⟨n, b, ws, rfl, er, h4.1, of_decide_eq_true h3.2.1, hn, ?_⟩
      unfold entryOf
      rw [e]
      show (n, _) = (n, _)
      rw [er]
theorem fields_good {d : PyData} (h : areFields d = true) : ∃ fs, rowOf d = some fs ∧ fs.length ≤ 6 ∧ tabOf d = fs.map entryOf ∧ ((tabOf d).map (·.1)).Nodup ∧ ∀ f ∈ fs, fieldOk f = true ∧ isWord (firstOf f) = true := by
  unfold areFields at h
  cases e : rowOf d with
  | none =>
    rw [e] at h
    cases h
  | some fs =>
    rw [e] at h
    have h3 : (decide (1 ≤ fs.length) && (decide (fs.length ≤ 6) && (fs.all fieldOk && unlike (fs.map firstOf)))) = true := h
    rw [Bool.and_eq_true, Bool.and_eq_true, Bool.and_eq_true] at h3
    have h4 := h3.2.2.2
    unfold unlike at h4
    rw [Bool.and_eq_true] at h4
    have ht : tabOf d = fs.map entryOf := by
      unfold tabOf
      rw [e]
    refine ⟨fs, rfl, of_decide_eq_true h3.2.1, ht, ?_, fun f hf => ⟨List.all_eq_true.mp h3.2.2.1 f hf, List.all_eq_true.mp h4.1 _ (List.mem_map.mpr ⟨f, hf, rfl⟩)⟩⟩
    have h5 := of_decide_eq_true h4.2
    have : (tabOf d).map (·.1) = textsOf (fs.map firstOf) := by
      rw [ht]
      unfold textsOf
      rw [List.map_map, List.map_map]
      exact List.map_congr_left fun f _ => entry_first f
    rw [this]
    exact h5
theorem texts_word {ws : List PyData} (h : ws.all isWord = true) : ∀ w ∈ textsOf ws, word w = true := fun w hw => by
  obtain ⟨d, hd, rfl⟩ := List.mem_map.mp hw
  obtain ⟨n, rfl, hn⟩ := word_str (List.all_eq_true.mp h d hd)
  exact hn
theorem texts_len {ws : List PyData} : (textsOf ws).length = ws.length := by
  unfold textsOf
  rw [List.length_map]
end Q
set_option Elab.async false
set_option linter.all false
set_option maxRecDepth 100000
set_option maxHeartbeats 4000000
/-! ### what stays when a list or an object is changed -/
namespace Q
open PySem L2 XD
theorem sqZ_off {H : Hp} {D q : Addr} {xs acc acc' : List V} (h : SqZ H q xs) (hD : H D = some (.lst acc)) : SqZ (upd H D (.lst acc')) q xs := by
  obtain ⟨o, e, d⟩ := h
  have n : q ≠ D := fun z => by
    rw [z, hD] at e
    cases e
  exact ⟨o, by rw [upd_ne n]; exact e, d⟩
theorem RuleAt.off {K : PySem.W.Frag} {H : Hp} {D p : Addr} {acc acc' : List V} {r : List (Str × Str)} (h : RuleAt K H p r) (hD : H D = some (.lst acc)) : RuleAt K (upd H D (.lst acc')) p r := by
  obtain ⟨qs, h1, h2⟩ := h
  exact ⟨qs, sqZ_off h1 hD, prd_off hD h2⟩
theorem rules_off {K : PySem.W.Frag} {H : Hp} {D : Addr} {acc acc' : List V} (hD : H D = some (.lst acc)) : ∀ {ps : List Addr} {rs : List (List (Str × Str))}, Paired (RuleAt K H) ps rs → Paired (RuleAt K (upd H D (.lst acc'))) ps rs
  | _, _, .nil => .nil
  | _, _, .cons a b => .cons (a.off hD) (rules_off hD b)
theorem TabR.off {K : PySem.W.Frag} {H : Hp} {D : Addr} {acc acc' : List V} (hD : H D = some (.lst acc)) : ∀ {ps : List Addr} {kvs : List (Key × V)} {t : List (Str × List Str)}, TabR K H ps kvs t → TabR K (upd H D (.lst acc')) ps kvs t
  | _, _, _, .nil => .nil
  | _, _, _, .cons a b o c => .cons (seqT_off a hD) (seqT_off b hD) o (TabR.off hD c)
theorem TabR.snoc {K : PySem.W.Frag} {H : Hp} {q v : Addr} {n : Str} {ws : List Str} (h1 : SqT K H q [.str n, .ref v]) (h2 : SqT K H v (ws.map V.str)) (h3 : ∀ w ∈ ws, PyData.strOk w = true) : ∀ {ps : List Addr} {kvs : List (Key × V)} {t : List (Str × List Str)}, TabR K H ps kvs t → TabR K H (ps ++ [q]) (kvs ++ [(.inr n, .ref v)]) (t ++ [(n, ws)])
  | _, _, _, .nil => .cons h1 h2 h3 .nil
  | _, _, _, .cons a b o c => .cons a b o (TabR.snoc h1 h2 h3 c)
/-- all but what stands of objects is kept -/
def Sd (H H' : Hp) : Prop := ∀ b o, (∀ C dx fs, o ≠ .ins C dx fs) → H b = some o → H' b = some o
theorem sdOf {H H' : Hp} (s : Same H H') : Sd H H' := fun b o _ e => s b o e
theorem Sd.trans {H H' H'' : Hp} (s : Sd H H') (t : Sd H' H'') : Sd H H'' := fun b o n e => t b o n (s b o n e)
theorem sd_ins {H : Hp} {x C dx : Addr} {fs fs' : List (Str × V)} {dx' : Addr} (h : H x = some (.ins C dx fs)) : Sd H (upd H x (.ins C dx' fs')) := fun b o n e => by
  have nb : b ≠ x := fun z => by
    rw [z, h] at e
    exact n _ _ _ (Option.some.inj e).symm
  rw [upd_ne nb]
  exact e
theorem seq_sd {K : PySem.W.Frag} {H H' : Hp} {a : Addr} {xs : List V} (s : Sd H H') (h : SqL K H a xs) : SqL K H' a xs := by
  rcases h with (h | ⟨o, h⟩) | h
  · exact .inl (.inl (s _ _ (by intro _ _ _ z; cases z) h))
  · exact .inl (.inr ⟨o, s _ _ (by intro _ _ _ z; cases z) h⟩)
  · exact .inr h
theorem seqT_sd {K : PySem.W.Frag} {H H' : Hp} {a : Addr} {xs : List V} (s : Sd H H') (h : SqT K H a xs) : SqT K H' a xs := by
  rcases h with (h | ⟨o, h⟩) | h
  · exact .inl (.inl (s _ _ (by intro _ _ _ z; cases z) h))
  · exact .inl (.inr ⟨o, s _ _ (by intro _ _ _ z; cases z) h⟩)
  · exact .inr h
theorem sqZ_sd {H H' : Hp} {a : Addr} {xs : List V} (s : Sd H H') (h : SqZ H a xs) : SqZ H' a xs := by
  obtain ⟨o, e, d⟩ := h
  exact ⟨o, s _ _ (by intro _ _ _ z; cases z) e, d⟩
mutual
theorem dp_sd {K : PySem.W.Frag} {H H' : Hp} (s : Sd H H') : ∀ {v : V} {d : PyData}, Dp K H v d → Dp K H' v d
  | _, _, .non => .non
  | _, _, .bl b => .bl b
  | _, _, .int i => .int i
  | _, _, .str x => .str x
  | _, _, .lst h a => .lst (seq_sd s h) (dps_sd s a)
  | _, _, .tup h a => .tup (seqT_sd s h) (dps_sd s a)
theorem dps_sd {K : PySem.W.Frag} {H H' : Hp} (s : Sd H H') : ∀ {vs : List V} {ds : List PyData}, DpAll K H vs ds → DpAll K H' vs ds
  | _, _, .nil => .nil
  | _, _, .cons h t => .cons (dp_sd s h) (dps_sd s t)
end
theorem tabR_sd {K : PySem.W.Frag} {H H' : Hp} (s : Sd H H') : ∀ {ps : List Addr} {kvs : List (Key × V)} {t : List (Str × List Str)}, TabR K H ps kvs t → TabR K H' ps kvs t
  | _, _, _, .nil => .nil
  | _, _, _, .cons a b o c => .cons (seqT_sd s a) (seqT_sd s b) o (tabR_sd s c)
theorem tab_sd {K : PySem.W.Frag} {H H' : Hp} {p : Addr} {t : List (Str × List Str)} (s : Sd H H') (h : TabAt K H p t) : TabAt K H' p t := by
  obtain ⟨ps, kvs, a, b, c⟩ := h
  exact ⟨ps, kvs, sqZ_sd s a, tabR_sd s b, c⟩
theorem prd_sd {K : PySem.W.Frag} {H H' : Hp} (s : Sd H H') : ∀ {qs : List Addr} {r : List (Str × Str)}, Paired (fun q (e : Str × Str) => SqT K H q [.str e.1, .str e.2]) qs r → Paired (fun q (e : Str × Str) => SqT K H' q [.str e.1, .str e.2]) qs r
  | _, _, .nil => .nil
  | _, _, .cons a b => .cons (seqT_sd s a) (prd_sd s b)
theorem rules_sd' {K : PySem.W.Frag} {H H' : Hp} (s : Sd H H') : ∀ {ps : List Addr} {rs : List (List (Str × Str))}, Paired (RuleAt K H) ps rs → Paired (RuleAt K H') ps rs
  | _, _, .nil => .nil
  | _, _, .cons a b => by
    obtain ⟨qs, h1, h2⟩ := a
    exact .cons ⟨qs, sqZ_sd s h1, prd_sd s h2⟩ (rules_sd' s b)
theorem rulesAt_sd {K : PySem.W.Frag} {H H' : Hp} {p : Addr} {rs : List (List (Str × Str))} (s : Sd H H') (h : RulesAt K H p rs) : RulesAt K H' p rs := by
  obtain ⟨ps, a, b⟩ := h
  exact ⟨ps, sqZ_sd s a, rules_sd' s b⟩
theorem factR_sd {K : PySem.W.Frag} {H H' : Hp} (s : Sd H H') : ∀ {ps : List Addr} {kvs : List (Key × V)} {r : List (Str × Str)}, FactR K H ps kvs r → FactR K H' ps kvs r
  | _, _, _, .nil => .nil
  | _, _, _, .cons a c => .cons (a.elim (fun q => .inl (seqT_sd s q)) (fun q => .inr (seq_sd s q))) (factR_sd s c)
/-- all texts of a table, of rules over it, can be compared -/
theorem look_mem {n : Str} {ws : List Str} : ∀ {t : List (Str × List Str)}, look n t = some ws → (n, ws) ∈ t
  | [], h => by cases h
  | (m, vs) :: t, h => by
    unfold look at h
    by_cases e : m = n
    · rw [if_pos e] at h
      cases h
      rw [e]
      exact List.mem_cons_self
    · rw [if_neg e] at h
      exact List.mem_cons_of_mem _ (look_mem h)
theorem pick_mem {n w : Str} : ∀ {r : List (Str × Str)}, pick n r = some w → (n, w) ∈ r
  | [], h => by cases h
  | (m, v) :: r, h => by
    unfold pick at h
    by_cases e : m = n
    · rw [if_pos e] at h
      cases h
      rw [e]
      exact List.mem_cons_self
    · rw [if_neg e] at h
      exact List.mem_cons_of_mem _ (pick_mem h)
theorem sorted_mem {t : List (Str × List Str)} {r : List (Str × Str)} {e : Str × Str} (h : e ∈ sorted t r) : e ∈ r := by
  unfold sorted at h
  obtain ⟨f, _, h2⟩ := List.mem_filterMap.mp h
  cases ep : pick f.1 r with
  | none =>
    rw [ep] at h2
    cases h2
  | some w =>
    rw [ep] at h2
    cases h2
    exact pick_mem ep
end Q
set_option Elab.async false
set_option linter.all false
set_option maxRecDepth 100000
set_option maxHeartbeats 4000000
/-! Several except clauses, each with a name of its own; what is caught has no context, so that defs may be called in the suites. -/
namespace XT
open PySem PySem.Spec PyProof.Rows L2 L2N
/-- one clause: the class, the name's slot, the suite's reading -/
structure Cl where
  c : Value
  i : Nat
  ts : Addr → Value → Option Addr → TS
/-- the ends of a suite: behind it the name is gone -/
def offEnds (D : Ends) (i : Nat) : Ends :=
  ⟨fun σ H => D.nx (σ.set i none) H, D.rt, fun σ H => D.bk (σ.set i none) H, fun σ H => D.ct (σ.set i none) H⟩
def wCls (K : PySem.W.Frag) (Wout : WX) (D : Ends) : List Cl → WX
  | [] => Wout
  | q :: r => fun cls d σ H => ∃ yes, PySem.W.exmOne K cls q.c = some yes ∧
      (yes = true → ∀ a, H a = none → q.ts a cls d (offEnds D q.i) (σ.set q.i (some (.ref a))) H) ∧
      (yes = false → wCls K Wout D r cls d σ H)
inductive ClsOk (X : Cx) : List ExceptHandler → List Cl → Prop
  | nil : ClsOk X [] []
  | cons {x n : Str} {q : Cl} {b1 : Stmt} {more : List Stmt} {p1 p2 : Pos} {hs : List ExceptHandler} {l : List Cl}
      (hc : Names X x q.c) (hi : X.N[q.i]? = some n) (hl : X.env.kindOf n = some .local)
      (hsu : ∀ (a : Addr) (oe : Obj) (cls : Value) (d : Option Addr) (pn : List (Addr × Obj)), Zn cls d oe →
        (∃ vs, oe.data = .fields vs) → PSs (X.suite a ((a, oe) :: pn)) (b1 :: more) (q.ts a cls d)) (r : ClsOk X hs l) :
      ClsOk X (.ExceptHandler (some (.Name x p1)) (some n) (b1 :: more) p2 :: hs) (q :: l)
section
variable {X : Cx} {body : List Stmt} {hd1 : ExceptHandler} {hs1 : List ExceptHandler} {l : List Cl} {pos : Pos} {tb : WX → TS} {Wout : WX}
/-- what flies on from a clause list that did not take it -/
theorem flies {A : Around} {B : Heap} {env : Env} {outer : List Env} {a L : Addr} {Z : Obj → Prop} {s : Shared} {Q : Flow → Shared → Prop} {E : Value → Shared → Prop} {M : Model}
    (hf : env.frame = some L) (fl : HandSPX.FlyingZ B (env :: outer) a Z s.heap)
    (q : ∀ h, HandSPX.HeldZ B (env :: outer) a Z L h → s.heap.UpToSlots h → E (.ref a) { s with heap := h }) :
    wpAny M A (handleBy (.ref a) env []) Q E s := by
  refine wpAny_handleBy_nil ?_
  obtain ⟨_, _, _, oe, vs, T, oT, ts, he, hz, hd, h1, _⟩ := id fl
  have step : wpAny M A (setFlight (.ref a) env.frame) (fun _ s4 => wpAny M A (throw (.ref a) : Sem Flow) Q E s4) E s := by
    rw [hf]
    exact HandSPX.setFlight_upZ fl fun h hh up => wpAny_throw (q h hh up)
  unfold PySem.passOn
  refine wpAny_bind (wpAny_field he hd h1 ?_)
  rw [if_neg (show ¬ ((Value.ref T == Value.none) = true) by simp)]
  first
    | exact wpAny_bind (wpAny_pure (wpAny_bind step))
    | exact wpAny_bind step
theorem not_frame {B : Heap} {l : List Env} {h : Heap} {a : Addr} {o : Obj} {vs : Array Value} (ff : h.FunFrames B l)
    (e : h.get? a = some o) (dd : o.data = .fields vs) : a ∉ frs l := fun hm => by
  obtain ⟨_, u, hu, nf⟩ := ff.mem hm
  rw [hu] at e
  cases e
  exact nf _ dd
theorem ps_try_cls (hst : X.stack = X.env :: X.outer) (hf : X.env.frame = some X.env.locals) (hN : X.N.Nodup) (tk : L2N.Takes X Wout)
    (hb : ∀ (W : WX) (pn : List (Addr × Obj)) (xe : Value → Shared → Prop), L2N.Takes (X.tr pn xe) W →
      PassesOwn (model X.prog X.w) X.A X.env xe → PSs (X.tr pn xe) body (tb W))
    (hh : ClsOk X (hd1 :: hs1) l) : PS X (.Try body (hd1 :: hs1) [] [] pos) (fun D σ H => tb (wCls X.K Wout D l) D σ H) := by
  constructor
  intro pins s σ H D I h
  have ok := I.ok
  have frm : X.A.frames = some (X.env :: X.outer) := by
    rw [ok.frames, hst]
  refine wpAny_Try_except ?_
  have run := (hb (wCls X.K Wout D l) (X.pn ++ pins)
    (fun e s1 => wpAny (model X.prog X.w) X.A (noteFrame e X.env)
      (fun _ s2 => wpAny (model X.prog X.w) X.A (setFlight e none)
        (fun _ s3 => wpAny (model X.prog X.w) X.A (handleBy e X.env (hd1 :: hs1)) (SP X pins D) X.xe s3) X.xe s2) X.xe s1)
    ?takes PassesOwn.looking).run [] s σ H D (I.toTry _) h
  case takes =>
    intro u s1 air
    obtain ⟨a, B, sI, pins', σ1, H1, cls, d, rfl, J0, nb, up, sky, na, os, ag, w⟩ := air
    have J : Inv X pins σ1 H1 sI := J0.ofTry ok
    have sky1 : Sky B (X.env :: X.outer) a (Zn cls d) X.env.locals s1.heap := by
      rw [← hst]
      exact sky
    show wpAny (model X.prog X.w) X.A (noteFrame (.ref a) X.env) _ _ _
    refine L2N.Sky.land Zn.steady frm hf sky1 fun h3 fl up3 => ?_
    have J3 : Inv X pins σ1 H1 { s1 with heap := h3 } := J.landed nb fl.1 (up.trans up3) os ag
    obtain ⟨o3, v3, e3, z3, d3⟩ := fl.there
    have nfr := not_frame fl.2.2.1 e3 d3
    have nL : a ≠ X.env.locals := fun z =>
      nfr (List.mem_filterMap.mpr ⟨X.env, List.mem_cons_self, by rw [hf, z]⟩)
    have nF : a ∉ X.fs := fun hm => by
      obtain ⟨e, he, q⟩ := List.mem_filterMap.mp hm
      exact nfr (List.mem_filterMap.mpr ⟨e, List.mem_cons_of_mem _ he, q⟩)
    have S3 := J3.suite e3 d3 na nL nF
    have go : ∀ {hs2 : List ExceptHandler} {l2 : List Cl}, ClsOk X hs2 l2 → wCls X.K Wout D l2 cls d σ1 H1 →
        wpAny (model X.prog X.w) X.A (handleBy (.ref a) X.env hs2) (SP X pins D) X.xe { s1 with heap := h3 } := by
      intro hs2 l2 hk
      induction hk with
      | nil =>
        intro w
        refine flies (s := { s1 with heap := h3 }) hf fl fun h4 hh4 up4 => tk _ _ ?_
        exact ⟨a, B, sI, pins, σ1, H1, cls, d, rfl, J, nb, (up.trans up3).trans up4, .inr (.inr (by rw [hst]; exact hh4)), na, os, ag, w⟩
      | @cons x n q b1 more p1 p2 hs l hc hi hl hsu r ih =>
        intro w
        obtain ⟨yes, hx, hyes, hno⟩ := w
        refine wpAny_handleBy_cons (codeAny_handlers_test ?_) (by intro z; cases z)
        have LT : PySem.W.Looks (model X.prog X.w) h3 (typeOf (.ref a)) cls :=
          fun A Q E s k q => wpAny_typeOf_ref (k _ _ e3) (by rw [z3.1]; exact q)
        have LM := PySem.W.exm_one (M := model X.prog X.w) (J3.kIn) LT hx
        have test : ∀ {Q : Value → Shared → Prop} {E : Value → Shared → Prop}, Q q.c { s1 with heap := h3 } →
            wpAny (model X.prog X.w) (X.A.mark (some (.ref a))) (eval (.Name x p1) X.env) Q E { s1 with heap := h3 } := by
          intro Q E z
          obtain ⟨hg, hdb, hm | ⟨hm, hv, hnn⟩⟩ := hc
          · exact ld_glob (X := X.suite a ((a, o3) :: (X.pn ++ pins))) S3 hg hm z hdb
          · exact ld_blt (X := X.suite a ((a, o3) :: (X.pn ++ pins))) S3 hg hm hv z hnn hdb
        refine test (LM.here ?_)
        cases yes with
        | false =>
          show wpAny _ X.A (handleBy (.ref a) X.env hs) _ _ _
          exact ih (hno rfl)
        | true =>
          refine codeAny_handlers_suite_as ?_
          refine HandSPX.lands_againZ fl fun h4 fl4 up4 => ?_
          have J4 : Inv X pins σ1 H1 { s1 with heap := h4 } :=
            J.landed nb fl4.1 ((up.trans up3).trans up4) os ag
          obtain ⟨o4, v4, e4, z4, d4⟩ := fl4.there
          have S4 := J4.suite e4 d4 na nL nF
          refine store_ok (X := X.suite a ((a, o4) :: (X.pn ++ pins))) (v := .ref a) S4 hN hi (.inl hl) rfl (fun s5 S5 => ?_) (.inr hl)
          have fin : ∀ {s6 : Shared} {σ6 : L2.St} {H6 : Hp} {Q : Shared → Prop}, Inv (X.suite a ((a, o4) :: (X.pn ++ pins))) [] σ6 H6 s6 →
              (∀ s7, Inv X pins (σ6.set q.i none) H6 s7 → Q s7) →
              wpAny (model X.prog X.w) X.A (do bindName X.env n .none; unbindBehindTheSuite X.env n p2) (fun _ s7 => Q s7) X.xe s6 :=
            fun S6 hq => gone_ok (S6.unsuite ok) hN hi hl hq
          refine wpAny_mono ((hsu a o4 cls d (X.pn ++ pins) z4 ⟨_, d4⟩).run [] s5 _ H1 _ S5 (hyes rfl a na)) (fun f s6 hsp => ?_) (fun _ _ z => False.elim z)
          cases f with
          | ret u =>
            obtain ⟨v6, σ6, H6, S6, r6, q6⟩ := hsp
            exact fin S6 fun s7 J7 => ⟨_, _, _, J7, r6, q6⟩
          | next =>
            obtain ⟨σ6, H6, S6, q6⟩ := hsp
            exact fin S6 fun s7 J7 => ⟨_, _, J7, q6⟩
          | brk =>
            obtain ⟨σ6, H6, S6, q6⟩ := hsp
            exact fin S6 fun s7 J7 => ⟨_, _, J7, q6⟩
          | cont =>
            obtain ⟨σ6, H6, S6, q6⟩ := hsp
            exact fin S6 fun s7 J7 => ⟨_, _, J7, q6⟩
    exact go hh w
  refine wpAny_mono run (fun f s1 hsp => ?_) (fun e s1 he => he)
  cases f with
  | ret u =>
    obtain ⟨v, σ1, H1, J1, rv, q⟩ := hsp
    exact ⟨v, σ1, H1, J1.ofTry ok, rv, q⟩
  | next =>
    obtain ⟨σ1, H1, J1, q⟩ := hsp
    exact wpAny_execs_nil ⟨σ1, H1, J1.ofTry ok, q⟩
  | brk =>
    obtain ⟨σ1, H1, J1, q⟩ := hsp
    exact ⟨σ1, H1, J1.ofTry ok, q⟩
  | cont =>
    obtain ⟨σ1, H1, J1, q⟩ := hsp
    exact ⟨σ1, H1, J1.ofTry ok, q⟩
end
end XT
set_option Elab.async false
set_option linter.all false
set_option maxRecDepth 100000
set_option maxHeartbeats 4000000
/-! Own error classes over Exception with «def __init__(self, f): self.f = f», f one of three names: made and raised. -/
namespace XM
open PySem PySem.W PySem.Calls PyProof.Rows PySem.HandSPX
abbrev exTail : List Value := [.type "Exception", .type "BaseException", .type "object"]
def eArgs (f : Str) (p1 p2 : Pos) : Arguments :=
  { posonlyargs := [], args := [⟨"self", none, p1⟩, ⟨f, none, p2⟩], vararg := none, kwonlyargs := [], kw_defaults := [], kwarg := none, defaults := [] }
def eBody (f : Str) (q1 q2 q3 q4 : Pos) : List Stmt := [.Assign [.Attribute (.Name "self" q1) f q2] (.Name f q3) q4]
def eScope (f : Str) : Scope := ⟨.function, [(PySem.Str.ofString "self", .local), (f, .local)], false, false, []⟩
def Fld (f : Str) : Prop := f = PySem.Str.ofString "at" ∨ f = PySem.Str.ofString "name" ∨ f = PySem.Str.ofString "word"
/-- what the written part says of the class at C, its __init__ at fI, its field f -/
structure XcT (K : Frag) (C fI : Addr) (f qual : Str) : Prop where
  fld : Fld f
  ini : excInitIn K C exTail "Exception.__new__" = true
  ovr : excOver K C exTail = true
  tkn : takerIn K C f = some none
  sa : findIn K (.ref C) "__setattr__" = some (some (.builtin "object.__setattr__"))
  ga : findIn K (.ref C) "__getattribute__" = some (some (.builtin "BaseException.__getattribute__"))
  gg : findIn K (.ref C) "__getattr__" = some none
  noN : findIn K (.ref C) f = some none
  iC : findIn K (.ref C) "__init__" = some (some (.ref fI))
  tC : typeIn K (.ref fI) = some (.type "function")
  kC : keepIn K (.ref C) = true
  exC : subIn K (.ref C) (.type "BaseException") = some true
  tyC : typeIn K (.ref C) = some (.type "type")
  hdC : hasDictIn K C = true
  fn : ∃ (oc : Value) (od : Option Addr) (doc pm : Value) (an : Option Addr) (cdv ct : Value) (osl : Array (Option Value)) (p1 p2 q1 q2 q3 q4 : Pos),
    K.lookup fI = some ⟨oc, od, .func (fnOf "__init__" qual (eArgs f p1 p2) (eBody f q1 q2 q3 q4) (eScope f) .none .none doc pm an cdv ct), osl⟩ ∧ codeIn K cdv qual = true
theorem len1 (v : Value) : [v].length ≤ sizeLine := by
  rw [sizeLine_eq]
  exact (by decide : 1 ≤ 16777216)
theorem loaded {M : Model} {s : Shared} {nm : Str} {sc : Scope} {L a : Addr} {cd : Value} {m : Str → Option Value} {x : Str} {pos : Pos} {v : Value}
    {Q : Value → Shared → Prop} {A : Around} {E : Value → Shared → Prop} (hn : s.heap.Ns L m) (hv : m x = some v) (h : Q v s)
    (hk : sc.kind = .function) (hl : (envOfC nm sc L a cd).kindOf x = some .local) (hd : (x == ("__debug__" : Str)) = false) :
    wpAny M A (eval (.Name x pos) (envOfC nm sc L a cd)) Q E s := wpAny_Name (wpAny_loadName_local hk hl hn hv h) hd
/-- behind __init__: the object has its dict at dx, which holds the field -/
structure Inited (h h' : Heap) (x C dx t1 : Addr) (f : Str) (v : Value) : Prop where
  keep : ∀ b o, b ≠ x → h.get? b = some o → h'.get? b = some o
  obj : h'.get? x = some { cls := .ref C, dict := some dx, data := .fields #[.ref t1, .none, .none, .none, .bool false, .none] }
  dbig : h.objs.size ≤ dx
  dne : dx ≠ x
  ns : h'.Ns1 dx (fun y => if y = f then some v else none)
structure Made (h h' : Heap) (e C d : Addr) (f : Str) (v : Value) : Prop where
  keep : ∀ b o, h.get? b = some o → h'.get? b = some o
  new : h.objs.size ≤ e
  obj : ∃ t, h'.get? e = some { cls := .ref C, dict := some d, data := .fields #[.ref t, .none, .none, .none, .bool false, .none] }
  dbig : h.objs.size ≤ d
  dne : d ≠ e
  ns : h'.Ns1 d (fun y => if y = f then some v else none)
section
open Builtin Builtin.ObjectAttr
variable {prog : Program} {w : World} {A : Around} {E : Value → Shared → Prop} {R : Result → Shared → Prop} {K : Frag} {C fI : Addr} {f qual : Str}
/-- the first field of such an error -/
theorem first_field {hp : Heap} {g : Array GenState} {dr : Drawn} {t : Nat} {os : OsState} {tk : Tok} {v : Value} {x : Addr} {fv : Array Value}
    (X : K.In hp) (hx : hp.get? x = some { cls := .ref C, data := .fields fv }) (hov : excOver K C exTail = true) (hh : hasDictIn K C = true) (ht : takerIn K C f = some none)
    (hq : ∀ h' tk' dx, (∀ b o, b ≠ x → hp.get? b = some o → h'.get? b = some o) → hp.objs.size ≤ dx → dx ≠ x →
      h'.get? x = some { cls := .ref C, dict := some dx, data := .fields fv } → h'.Ns1 dx (fun y => if y = f then some v else none) → R (.ok (.ret .none)) ⟨h', g, dr, tk', os⟩) :
    codeAny (model prog w) A (.call (.builtin "object.__setattr__") ⟨[.ref x, .str f tk, v], []⟩) R ⟨hp, g, dr, t, os⟩ := by
  have I : W.InstAt hp x { cls := .ref C, data := .fields fv } C none := ⟨hx, rfl, rfl, trivial⟩
  obtain ⟨cd, hcd, hd⟩ := any_some hh
  have hcls : W.Looks (model prog w) hp (classData C) cd := W.looks_clsIn X hcd
  have lt : x < hp.objs.size := Heap.lt_size hx
  have hxs : x ≠ hp.objs.size := Nat.ne_of_lt lt
  refine osa_openX (s := ⟨hp, g, dr, t, os⟩) F.store_Exception X I hov ht fun b => ?_
  show wpAny _ _ (storeInOwnDict (.ref x) (.ref C) (.str f tk) f v b) _ _ _
  obtain ⟨nm, bs, mro, ns, qn, hd0, sn, sb, ab, col, del⟩ := cd
  have hd1 : hd0 = true := hd
  subst hd1
  unfold storeInOwnDict ownDictForStores
  repeat (first | with_reducible refine store_in_new ?_ ?_ | with_reducible refine wpAny_loadPart_at hx ?_ | with_reducible refine hcls.at ?_ | wp_step)
  · exact ⟨_, #[], _, (Heap.get?_update_ne _ _ _ _ hxs.symm).trans (Heap.get?_push_at rfl rfl), rfl, (fun e he => absurd he (by simp)), fun _ => rfl⟩
  · intro h' tk' hn' same
    have hx1 : (hp.push { cls := .type "dict", data := .dict #[] }).get? x = some { cls := .ref C, data := .fields fv } :=
      Heap.get?_push_of_some _ hx
    refine hq h' tk' hp.objs.size (fun b o hb ho => ?_) (Nat.le_refl _) hxs.symm ?_ hn'
    · have nb : b ≠ hp.objs.size := Nat.ne_of_lt (Heap.lt_size ho)
      exact (same.2 b nb).trans ((Heap.get?_update_ne _ _ _ _ hb).trans (Heap.get?_push_of_some _ ho))
    · exact (same.2 x hxs).trans (Heap.get?_update_self _ hx1 rfl)
theorem xinit (T : XcT K C fI f qual) {s : Shared} {x t0 : Addr} {v : Value} (X : K.In s.heap) (hlim : s.heap.NoLimit)
    (hx : s.heap.get? x = some (excO C t0)) (hroom : A.depth < recursionLimit)
    (hq : ∀ h' tk dx, Inited s.heap h' x C dx t0 f v → R (.ok (.ret .none)) { s with heap := h', toks := tk }) :
    codeAny (model prog w) A (.call (.ref fI) ⟨[.ref x, v], []⟩) R s := by
  obtain ⟨oc, od, doc, pm, an, cdv, ct, osl, p1, p2, q1, q2, q3, q4, ho, hcd⟩ := T.fn
  have hsa := T.sa
  have hov := T.ovr
  have hdc := T.hdC
  have htk := T.tkn
  rcases T.fld with rfl | rfl | rfl <;>
  · refine Att.call_fn (binds := [("self", .ref x), (_, v)]) X hlim ho hcd hroom (BindsTo.of_eq (by first | rfl | with_unfolding_all rfl)) (by first | rfl | decide | with_unfolding_all rfl) (fun s1 IC => ?_) rfl rfl rfl
    obtain ⟨h1, tk1, rfl⟩ := IC.toInCall.same
    have k : ∀ b o, s.heap.get? b = some o → h1.get? b = some o := IC.toInCall.keep
    have hn := IC.toInCall.ns
    have X1 : K.In h1 := X.keeps k
    have hx1 := k _ _ hx
    have big : s.heap.objs.size < h1.objs.size := hn.lt
    show wpAny _ _ (execs _ _) _ _ _
    refine wpAny_execs_cons (plainObj_wpAny_Assign_Attribute ?_)
    refine loaded (v := v) hn (by first | rfl | with_unfolding_all rfl | kernel_rfl) (loaded (v := .ref x) hn (by first | rfl | with_unfolding_all rfl | kernel_rfl) ?_ rfl rfl (by decide)) rfl rfl (by decide)
    refine set_plain X1 (ox := excO C t0) (od := none) ⟨hx1, rfl, rfl, trivial⟩ hsa ?_
    refine first_field X1 hx1 hov hdc htk (fun h3 tk3 dx k3 dn dne hx3 hn3 => ?_)
    show wpAny _ _ (execs _ _) _ _ _
    exact wpAny_execs_nil (hq h3 tk3 dx ⟨fun b o hb e => k3 b o hb (k b o e), hx3, Nat.le_of_lt (Nat.lt_of_lt_of_le big dn), dne, hn3⟩)
theorem xmade (T : XcT K C fI f qual) {s : Shared} {v : Value} (X : K.In s.heap) (hlim : s.heap.NoLimit) (hroom : A.depth + 1 < recursionLimit)
    (hq : ∀ h' tk e d, Made s.heap h' e C d f v → R (.ok (.ret (.ref e))) { s with heap := h', toks := tk }) :
    codeAny (model prog w) A (.call (.ref C) ⟨[v], []⟩) R s := by
  obtain ⟨nm, N, qn, bs, bm, hdct, sn, sub, ab, col, dd, k0, k1, k2, k3, k5, hC, hbm⟩ := excInit_of X T.ini
  obtain ⟨hp, g, dr, tk, os⟩ := s
  have k : ∀ b o, hp.get? b = some o → ((hp.push (kdv_tup [v])).push (excO C hp.objs.size)).get? b = some o :=
    fun b o e => Heap.get?_push_of_some _ (Heap.get?_push_of_some _ e)
  have hget : ((hp.push (kdv_tup [v])).push (excO C hp.objs.size)).get? (hp.objs.size + 1) = some (excO C hp.objs.size) := by
    heap_get
  refine call_own F.excBase_Exception hbm hC (looks_findIn X T.iC) (fun self => bind_fn X self T.tC) (len1 v) ?_
  have room1 : (A.under (.builtin "type.__call__" ⟨.ref C :: [v], []⟩)).depth < recursionLimit := hroom
  refine xinit (s := ⟨(hp.push (kdv_tup [v])).push (excO C hp.objs.size), g, dr, tk, os⟩) T (X.keeps k) (hlim.keeps k) hget room1 fun h' tk' dx Z => ?_
  have old : ∀ b o, hp.get? b = some o → h'.get? b = some o := fun b o e =>
    Z.keep b o (Nat.ne_of_lt (Nat.lt_succ_of_lt (Heap.lt_size e))) (k b o e)
  have z : hp.objs.size + 1 + 1 ≤ dx := by
    have q := Z.dbig
    first
      | (simpa only [Heap.size_push] using q)
      | exact q
      | (rw [Heap.size_push, Heap.size_push] at q; exact q)
  exact ⟨rfl, hq h' tk' (hp.objs.size + 1) dx ⟨old, Nat.le_succ _, ⟨_, Z.obj⟩, Nat.le_trans (Nat.le_trans (Nat.le_succ _) (Nat.le_succ _)) z, Z.dne, Z.ns⟩⟩
end
end XM
namespace XM
open PySem PySem.Spec PyProof.Rows L2
theorem relOne {v : V} {u : Value} (r : RelV v u) (f g : Str) : RelO (List.lookup g [(f, v)]) (if g = f then some u else none) := by
  by_cases h : g = f
  · subst h
    rw [if_pos rfl]
    have e : List.lookup g [(g, v)] = some v := by simp [List.lookup]
    rw [e]
    exact r
  · rw [if_neg h]
    have q : (g == f) = false := by simpa using h
    have e : List.lookup g [(f, v)] = none := by simp [List.lookup, q]
    rw [e]
    trivial
/-- C(e): the error's own dict is new and holds the field -/
def tMk (C : Addr) (f : Str) (ta : TA) : L2.St → Hp → XK → Prop := fun σ H Q =>
  ta σ H fun vs H1 => ∃ v, vs = [v] ∧ ∀ d, H1 d = none → Q (.ref C) (some d) (upd H1 d (.xd [(f, v)]))
theorem pmk {X : Cx} {C fI : Addr} {f qual x : Str} {a : Expr} {ta : TA} {p pos : Pos} {k : Nat} (T : XcT X.K C fI f qual) (hm : X.mg x = some (.ref C)) (hr : Room k X.A) (ha : PA X [a] ta)
    (hg : Gl X x := by rfl) (hdb : (x == ("__debug__" : Str)) = false := by decide)
    (he : starEach (a :: []) X.env = (false, eval a X.env) :: starEach [] X.env := by rfl) (hpl : (backTo pos (starEach [] X.env)).any (·.1) = false := by rfl) :
    L2N.PMk X (.Call (.Name x p) [a] [] pos) (tMk C f ta) := by
  intro pins s σ H Q I h
  refine wpAny_Call_Name_kw (ld_glob I hg hm ?_ hdb)
  refine PySem.W.callWith_K (h₀ := X.base) I.ok.mod.kin T.kC (thn (ha.run pos pins s σ H _ I h) fun us s1 hh => ?_) he hpl
  obtain ⟨vs, H1, I1, r1, v, rfl, q1⟩ := hh
  refine ⟨I1.kIn, ?_⟩
  cases r1 with
  | cons rv rn =>
    rename_i u us1
    cases rn
    have hlim := I1.nolimit
    show wpAny _ _ (call (.ref C) [u]) _ _ _
    obtain ⟨hp, g, dr, tk, os⟩ := s1
    have room : X.A.depth + 1 < recursionLimit := by
      have := hr.dp
      omega
    refine wpAny_call (xmade T I1.kIn hlim room fun h' tk' e d M => ?_)
    show L2N.MkP X pins σ Q (.ref e) ⟨h', g, dr, tk', os⟩
    obtain ⟨t, hoe⟩ := M.obj
    have hns := M.ns
    obtain ⟨G, g1, g2⟩ := restrict h' fun b => decide (b ≠ e)
    have gk : ∀ b, b ≠ e → G.get? b = h'.get? b := fun b hb => g1 b (decide_eq_true hb)
    have ge : G.get? e = none := g2 e (by simp)
    have old : ∀ b o, hp.get? b = some o → G.get? b = some o := fun b o q =>
      (gk b (Nat.ne_of_lt (Nat.lt_of_lt_of_le (Heap.lt_size q) M.new))).trans (M.keep b o q)
    have ob : ObjOk X.prog X.w (upd H1 d (.xd [(f, v)])) G d (.xd [(f, v)]) :=
      ⟨_, hns.at (fun o q => (gk d M.dne).trans q), fun y => relOne rv f y⟩
    have J : Inv X pins σ (upd H1 d (.xd [(f, v)])) ⟨G, g, dr, tk', os⟩ := I1.laid (t' := tk') old M.dbig ob
    refine ⟨e, _, _, ⟨G, g, dr, tk', os⟩, _, .ref C, some d, rfl, J, fun b o q => ?_, ge, hoe, ⟨rfl, rfl, fun ws ew => by cases ew; rfl⟩, rfl, rfl, ?_, rfl, I1.bare, raises_own T.exC T.tyC, q1 d (I1.hok.fresh M.dbig)⟩
    · by_cases hb : b = e
      · have q2 : G.get? b = some o := q
        rw [hb, ge] at q2
        cases q2
      · exact (gk b hb).symm.trans q
    · rw [upd_ne (Ne.symm M.dne)]
      exact I1.hok.fresh M.new
end XM
set_option Elab.async false
set_option linter.all false
set_option maxRecDepth 100000
set_option maxHeartbeats 8000000
/-! ### Form -/
namespace Q
open PySem L2 XD
/-- a def that may let errors out, their own dict with them -/
theorem Fun_okN {P : Program} {w : World} {K : PySem.W.Frag} {mg : Str → Option Value} {base : Heap} {x qual : Str} {st : Stmt} {f : Addr} {fd : FuncData} {N ps : List Str} {k : Nat} {sp : Sp} (F : Fun K x qual st f fd) (S : FnScope N ps (defScope st)) (len : ∀ vs H Q E, sp vs H Q E → vs.length = ps.length)
    (hbody : ∀ (cdv : Value) (A : Around) (outer : List Env) (s : Shared) (H : Hp) (vs : List V) (Q : VK) (E : XK), Room k (A.deeper (PyProof.Rows.envOfC qual (defScope st) s.heap.objs.size f cdv)) → sp vs H Q E →
      ∃ t, PSs (cxOf (L2N.CX P w) P w K mg base N qual (defScope st) f cdv A outer s H E) (defBody st) t ∧ t { nx := fun _ H' => Q .non H', rt := Q } (L2.start N vs) H) : FnOk P w K mg base (L2N.CX P w) (k + 1) f fd ps sp := by
  obtain ⟨oc, od, kV, doc, pm, an, cdv, ct, osl, rfl, lk, hcd⟩ := F.ex
  exact fn_of lk hcd S len fun A outer s H vs Q E hr hsp => hbody cdv A outer s H vs Q E hr hsp
theorem call_tupK {X : Cx} (K : PySem.W.Frag) (h : X.K = K) : CallR X (.type "tuple") (rTupZ K) := by
  subst h
  exact call_tupZ
structure Er (K : PySem.W.Frag) (mg : Str → Option Value) (CV CM : Addr) : Prop where
  v : ∃ fI qual, XM.XcT K CV fI "at" qual
  m : ∃ fI qual, XM.XcT K CM fI "word" qual
  gv : mg "BadValue" = some (.ref CV)
  gm : mg "TooMany" = some (.ref CM)
/-- rules whose pairs may be handed to dict: each a list, or a tuple known to have no dict -/
def RZ (K : PySem.W.Frag) (H : Hp) (v : V) (d : PyData) : Prop := ∃ (q : Addr) (ws : List V) (rds : List PyData), v = .ref q ∧ rowOf d = some rds ∧ (SqL K H q ws ∨ SqT K H q ws) ∧ ws.length = rds.length ∧
  ∀ (i : Nat) (y : V) (rd : PyData), ws[i]? = some y → rds[i]? = some rd → ∃ (q2 : Addr) (zs : List V) (gs : List PyData), y = .ref q2 ∧ (SqL K H q2 zs ∨ SqZ H q2 zs) ∧ rowOf rd = some gs ∧ DpAll K H zs gs
theorem RZ.same {K : PySem.W.Frag} {H H' : Hp} {v : V} {d : PyData} (s : Same H H') (h : RZ K H v d) : RZ K H' v d := by
  obtain ⟨q, ws, rds, e1, e2, e3, e4, e5⟩ := h
  refine ⟨q, ws, rds, e1, e2, sq_same s e3, e4, fun i y rd h1 h2 => ?_⟩
  obtain ⟨q2, zs, gs, f1, f2, f3, f4⟩ := e5 i y rd h1 h2
  exact ⟨q2, zs, gs, f1, f2.elim (fun z => .inl (s.seq z)) (fun z => .inr (z.same s)), f3, dps_same s f4⟩
def rulesOf (d : PyData) : List (List (Str × Str)) := match rowOf d with
  | some rs => rs.map factsOf
  | none => []
/-- what a form is made to -/
inductive Made
  | bad (i : Int)
  | many
  | form (t : List (Str × List Str)) (rs : List (List (Str × Str)))
def made (dF dR : PyData) : Made :=
  if areFields dF = true then
    if areRules (tabOf dF) dR = true then
      if 1000 < waysFrom 1 (tabOf dF) then .many else .form (tabOf dF) (once ((rulesOf dR).map (sorted (tabOf dF))))
    else .bad 1
  else .bad 0
def FormAt (C : Addr) (H : Hp) (x pf pr : Addr) : Prop := ∃ dx, H x = some (.ins C dx [("_fields", .ref pf), ("_rules", .ref pr)])
/-- the end of the making -/
def mEnd (K : PySem.W.Frag) (C CV CM x : Addr) (H : Hp) (Q : VK) (E : XK) : Made → Prop
  | .bad i => ∀ d H', Same H H' → H' d = none → E (.ref CV) (some d) (upd H' d (.xd [("at", .int i)]))
  | .many => ∀ d H', Same H H' → H' d = none → E (.ref CM) (some d) (upd H' d (.xd [("word", .str "fillings")]))
  | .form t rs => ∀ pf pr H', (∀ b o, b ≠ x → H b = some o → H' b = some o) → FormAt C H' x pf pr → TabAt K H' pf t → RulesAt K H' pr rs → Q .non H'
def spInit (K : PySem.W.Frag) (C CV CM : Addr) : Sp := fun vs H Q E => ∃ (x dx : Addr) (vF vR : V) (dF dR : PyData), vs = [.ref x, vF, vR] ∧ H x = some (.ins C dx []) ∧ Dp K H vF dF ∧ Dp K H vR dR ∧ FShort dF ∧ ROk dR ∧ (∀ t rs, made dF dR = .form t rs → RZ K H vR dR) ∧ mEnd K C CV CM x H Q E (made dF dR)
theorem nxt {D : Ends} {σ : L2.St} {H : Hp} (h : D.nx σ H) : tNext D σ H := h
theorem asg_tup {K : PySem.W.Frag} {te : TE} {u : TS} {D : Ends} {σ : L2.St} {H : Hp} {i : Nat} (h : te σ H fun v H1 => rTupZ K [v] H1 fun v2 H2 => u D (σ.set i (some v2)) H2) : tSeq (tAsg (tCB (rTupZ K) (tCons te tNil)) (gName i)) u D σ H := h
theorem fr_ : ¬ (("_fields" : Str) = "_rules") := by decide +kernel
theorem pf2 (l z : Addr) : putF "_rules" (.ref z) (putF "_fields" (.ref l) []) = ([("_fields", V.ref l), ("_rules", V.ref z)] : List (Str × V)) := by
  show (if ("_fields" : Str) = "_rules" then [(("_rules" : Str), V.ref z)] else (("_fields" : Str), V.ref l) :: putF "_rules" (V.ref z) []) = ([("_fields", V.ref l), ("_rules", V.ref z)] : List (Str × V))
  rw [if_neg fr_]
  all_goals rfl
theorem fld_each {K : PySem.W.Frag} {te t0 : TE} {f : Str} {D : Ends} {σ : L2.St} {H : Hp} (h : te σ H fun v H1 => spEach K [v] H1 (fun y H2 => t0 σ H2 fun x H3 => ∃ a C dx fs, x = .ref a ∧ H3 a = some (.ins C dx fs) ∧ Cls K C ∧ NoAttr K C f ∧ fs.length < 1000 ∧ D.nx σ (upd H3 a (.ins C dx (putF f y fs)))) E0) : sFld K t0 (tCall (spEach K) [] E0 (tCons te tNil)) f D σ H := h
theorem rules_good {t : List (Str × List Str)} {d : PyData} (h : areRules t d = true) : ∃ rs, rowOf d = some rs ∧ rs.length ≤ 20 ∧ rulesOf d = rs.map factsOf ∧ ∀ r ∈ rs, areFacts t r = true := by
  unfold areRules at h
  cases e : rowOf d with
  | none =>
    rw [e] at h
    cases h
  | some rs =>
    rw [e] at h
    have h2 : (decide (rs.length ≤ 20) && rs.all (ruleOk t)) = true := h
    rw [Bool.and_eq_true] at h2
    refine ⟨rs, rfl, of_decide_eq_true h2.1, ?_, fun r hr => ?_⟩
    · unfold rulesOf
      rw [e]
    · have h3 := List.all_eq_true.mp h2.2 r hr
      cases ef : areFacts t r with
      | true => rfl
      | false =>
        rw [ruleOk_no ef] at h3
        cases h3
section
variable {P : Program} {w : World} {K : PySem.W.Frag} {mg : Str → Option Value} {base : Heap}
theorem scInit : FnScope ["self", "fields", "rules", "kept", "name", "values", "rule"] ["self", "fields", "rules"] (defScope sInit) := ⟨rfl, rfl, rfl, by decide +kernel, rfl, by decide +kernel, by decide +kernel⟩
theorem scFieldsM : FnScope ["self"] ["self"] (defScope sFieldsM) := ⟨rfl, rfl, rfl, by decide +kernel, rfl, by decide +kernel, by decide +kernel⟩
theorem scRulesM : FnScope ["self"] ["self"] (defScope sRulesM) := ⟨rfl, rfl, rfl, by decide +kernel, rfl, by decide +kernel, by decide +kernel⟩
theorem scEqM : FnScope ["self", "other"] ["self", "other"] (defScope sEqM) := ⟨rfl, rfl, rfl, by decide +kernel, rfl, by decide +kernel, by decide +kernel⟩
theorem ok_init {f C CV CM : Addr} {fd : FuncData} (F : Fun K "__init__" "Form.__init__" sInit f fd) (T : Bb mg) (Cc : Fm mg) (R : Er K mg CV CM) (cl : Cls K C) (nF : NoAttr K C "_fields") (nR : NoAttr K C "_rules")
    (KA : Kn P w K mg base 5 "_are_fields" ["fields"] (spAreFields K)) (KR : Kn P w K mg base 4 "_are_rules" ["fields", "rules"] (spAreRules K)) (KW : Kn P w K mg base 1 "_ways_to_fill" ["fields"] (spWays K)) (KE : Kn P w K mg base 1 "_each_once" ["rules"] (spEach K)) (KS : Kn P w K mg base 1 "in_sequence" ["fields", "facts"] (spInSeq K)) :
    FnOk P w K mg base (L2N.CX P w) 6 f fd ["self", "fields", "rules"] (spInit K C CV CM) := by
  obtain ⟨fA, fdA, GA, kA, bA, mA⟩ := KA.ex
  obtain ⟨fR, fdR, GR, kR, bR, mR⟩ := KR.ex
  obtain ⟨fW, fdW, GW, kW, bW, mW⟩ := KW.ex
  obtain ⟨fE, fdE, GE, kE, bE, mE⟩ := KE.ex
  obtain ⟨fS, fdS, GS, kS, bS, mS⟩ := KS.ex
  obtain ⟨fIv, qv, XV⟩ := R.v
  obtain ⟨fIm, qm, XN⟩ := R.m
  obtain ⟨tF, hF⟩ := Cc.mfi
  refine Fun_okN F scInit (fun vs H Q E h => ?_) (fun cdv A outer s H vs Q E hr h => ?_)
  · obtain ⟨x, dx, vF, vR, dF, dR, rfl, _⟩ := h
    rfl
  have vt_ : PySem.bootBuiltins "tuple" = some (.type "tuple") := by decide +kernel
  refine ⟨_, pss_cons (ps_if (pt_not (pt_val (pe_call GA hr rfl mA kA bA .nil pass0 (pa_cons (pv 1) pa_nil)))) (pss_one (L2N.ps_raise rfl (L2N.takes_of rfl rfl rfl rfl) (XM.pmk XV R.gv hr (pa_cons pe_int pa_nil)))) pss_nil)
    (pss_cons (ps_set (i := 3) scInit.nd rfl (.inr rfl) (pe_callTy (call_tupK K rfl) rfl T.tup vt_ (pa_cons (pe_lc (own := [("name", 4), ("values", 5)]) (g := gRow K 2 (gCons (gName 4) (gCons (gName 5) gNil))) (tt := tYes) (by rfl) scInit.nd (pi_row (pv 1)) (blkOk_by (N := ["self", "fields", "rules", "kept", "name", "values", "rule"]) (sc := defScope sInit) (by decide +kernel))
      (fun _ _ _ _ _ => pg_row rfl (pgs_cons (pg_name (i := 4) scInit.nd rfl (.inl rfl)) (pgs_cons (pg_name (i := 5) scInit.nd rfl (.inl rfl)) pgs_nil)))
      (fun _ _ _ _ _ => pts_nil)
      (fun _ _ _ _ _ => pe_tupZ (pa_cons (pv 4) (pa_cons (pe_callTy (call_tupK K rfl) rfl T.tup vt_ (pa_cons (pv 5) pa_nil)) pa_nil)))) pa_nil)))
    (pss_cons (ps_if (pt_not (pt_val (pe_call GR (hr.mono (by decide)) rfl mR kR bR .nil pass0 (pa_cons (pv 3) (pa_cons (pv 2) pa_nil))))) (pss_one (L2N.ps_raise rfl (L2N.takes_of rfl rfl rfl rfl) (XM.pmk XV R.gv hr (pa_cons pe_int pa_nil)))) pss_nil)
    (pss_cons (ps_if (pt_cmpR op_gt (pe_call GW (hr.mono (by decide)) rfl mW kW bW .nil pass0 (pa_cons (pv 3) pa_nil)) (pe_glob (v := .int 1000) (by rfl) hF ⟨_, rfl⟩) (nomark _)) (pss_one (L2N.ps_raise rfl (L2N.takes_of rfl rfl rfl rfl) (XM.pmk XN R.gm hr (pa_cons pe_str pa_nil)))) pss_nil)
    (pss_cons (ps_fld (pv 0) (pv 3) rfl)
    (pss_one (ps_fld (pv 0) (pe_call GE (hr.mono (by decide)) rfl mE kE bE .nil pass0 (pa_cons (pe_lc (own := [("rule", 6)]) (g := gName 6) (tt := tYes) (by rfl) scInit.nd (pi_row (pv 2)) (blkOk_by (N := ["self", "fields", "rules", "kept", "name", "values", "rule"]) (sc := defScope sInit) (by decide +kernel))
      (fun _ _ _ _ _ => pg_name (i := 6) scInit.nd rfl (.inl rfl)) (fun _ _ _ _ _ => pts_nil)
      (fun _ _ _ _ _ => pe_call GS (hr.mono (by decide)) rfl mS kS bS .nil pass0 (pa_cons (pv 3) (pa_cons (pv 6) pa_nil)))) pa_nil)) rfl)))))), ?_⟩
  obtain ⟨x, dx, vF, vR, dF, dR, rfl, hx, hF, hR, hs, ho, hz, k⟩ := h
  refine ⟨_, rfl, vF, dF, rfl, hF, hs, fun H1 s1 => ⟨_, rfl, ?_⟩⟩
  cases eF : areFields dF with
  | false =>
    refine iteT ⟨.int 0, rfl, fun d hd => ?_⟩
    have em : made dF dR = .bad 0 := by
      unfold made
      rw [eF]
      rfl
    rw [em] at k
    exact k d H1 s1 hd
  | true =>
    obtain ⟨fs, er, hl6, et, hnd, hgood⟩ := fields_good eF
    obtain ⟨p, ys, rfl, hq, ha⟩ := row_len (dp_same s1 hF) er
    have hlen := dps_len ha
    have hwords : ∀ e ∈ tabOf dF, word e.1 = true ∧ e.2.length ≤ 5 ∧ ∀ w ∈ e.2, word w = true := fun e he => by
      rw [et] at he
      obtain ⟨f, hf, rfl⟩ := List.mem_map.mp he
      obtain ⟨n, b, ws, _, _, g3, g4, g5, g6⟩ := field_good (hgood f hf).1 (hgood f hf).2
      rw [g6]
      exact ⟨g5, by show (textsOf ws).length ≤ 5; rw [texts_len]; exact g4, texts_word g3⟩
    have htl : (tabOf dF).length = fs.length := by rw [et, List.length_map]
    refine iteF (nxt ?_)
    dsimp only
    refine asg_tup ?_
    refine lc_row (ys := ys) (fun D i H' => ∃ (ps : List Addr) (kvs : List (Key × V)), H' D = some (.lst (ps.map V.ref)) ∧ TabR K H' ps kvs ((tabOf dF).take i) ∧ Same H1 H') (fun Q' z => ⟨_, rfl, z⟩) hq (fun D hD => ⟨[], [], upd_same, .nil, new_same hD _⟩) (fun D i H' hD hP => by obtain ⟨_, _, _, _, z⟩ := hP; exact z) (fun D i y H' hD hi hP hy => ?_) (fun D H2 hD hP => ?_)
    · obtain ⟨ps, kvs, g1, g2, g3⟩ := hP
      obtain ⟨f, hf1, hdf⟩ := dps_get ha hy
      have hfm : f ∈ fs := List.mem_of_getElem? hf1
      obtain ⟨n, b, ws, e1, e2, e3, e4, e5, e6⟩ := field_good (hgood f hfm).1 (hgood f hfm).2
      have et1 : (tabOf dF)[i]? = some (n, textsOf ws) := by
        rw [et, List.getElem?_map, hf1, ← e6]
        rfl
      obtain ⟨r, va, vb, rfl, hr2, hva, hvb⟩ := pair_at (dp_same g3 hdf) e1
      cases hva
      obtain ⟨u, zs, rfl, hzs, hzd⟩ := row_len hvb e2
      have ezs := words_vals hzd e3
      subst ezs
      have hok : ∀ w ∈ textsOf ws, PyData.strOk w = true := fun w hw => word_ok (texts_word e3 w hw)
      have hpl : ps.length ≤ 6 := by
        rw [g2.len.1, List.length_take]
        omega
      -- behind the pair, whatever the values' tuple is
      have fin : ∀ (H3 : Hp) (l : Addr), Same H' H3 → SqT K H3 l ((textsOf ws).map V.str) → ∀ z o, H3 z = none → o.dict = none → ∃ acc, (upd H3 z (.frz o (.tup [.str n, .ref l]))) D = some (.lst acc) ∧ acc.length < sizeLine ∧
          (∃ (ps : List Addr) (kvs : List (Key × V)), upd (upd H3 z (.frz o (.tup [.str n, .ref l]))) D (.lst (acc ++ [.ref z])) D = some (.lst (ps.map V.ref)) ∧ TabR K (upd (upd H3 z (.frz o (.tup [.str n, .ref l]))) D (.lst (acc ++ [.ref z]))) ps kvs ((tabOf dF).take (i + 1)) ∧ Same H1 (upd (upd H3 z (.frz o (.tup [.str n, .ref l]))) D (.lst (acc ++ [.ref z])))) := fun H3 l s3 hl z o hz0 hod => by
        have sz : Same H3 (upd H3 z (.frz o (.tup [.str n, .ref l]))) := new_same hz0 _
        have hD4 := sz _ _ (s3 _ _ g1)
        refine ⟨ps.map V.ref, hD4, small1000 (by rw [List.length_map]; omega), ps ++ [z], kvs ++ [((.inr n : Key), V.ref l)], ?_, ?_, fun b' o' y' => ?_⟩
        · rw [upd_same, List.map_append] <;> rfl
        · rw [take_one et1]
          exact TabR.off hD4 (TabR.snoc (.inl (.inr ⟨o, upd_same⟩)) (seqT_same sz hl) hok (TabR.same (s3.trans sz) g2))
        · rw [upd_ne (ne_of_none y' hD)]
          exact sz _ _ (s3 _ _ (g3 _ _ y'))
      have asg : ∀ (σ : L2.St) (Q' : L2.St → Hp → Prop), Q' ((σ.set 4 (some (.str n))).set 5 (some (.ref u))) H' → gRow K 2 (gCons (gName 4) (gCons (gName 5) gNil)) (.ref r) σ H' Q' := fun σ Q' z => by
        rcases hr2 with hr2 | hr2
        · exact .inr ⟨r, _, rfl, hr2, rfl, .str n, [.ref u], rfl, .ref u, [], rfl, rfl, z⟩
        · exact .inl ⟨r, _, rfl, hr2, rfl, .str n, [.ref u], rfl, .ref u, [], rfl, rfl, z⟩
      refine asg _ _ ⟨rfl, ?_⟩
      unfold tYes
      refine iteT ⟨_, rfl, _, rfl, u, (textsOf ws).map V.str, rfl, ?_⟩
      rcases hzs with hzs | hzs
      · exact .inl ⟨hzs, fun l o hl hod => ⟨by show 2 ≤ sizeLine; decide, fun z o' hz0 hod' => fin _ l (new_same hl _) (.inl (.inr ⟨o, upd_same⟩)) z o' hz0 hod'⟩⟩
      · exact .inr ⟨hzs, by show 2 ≤ sizeLine; decide, fun z o' hz0 hod' => fin _ u (Same.refl _) hzs z o' hz0 hod'⟩
    · obtain ⟨ps, kvs, g1, g2, g3⟩ := hP
      rw [List.take_of_length_le (by omega)] at g2
      refine ⟨D, _, rfl, .inl ⟨SqL.of g1, fun l o hl hod => ?_⟩⟩
      have sl : Same H2 (upd H2 l (.frz o (.tup (ps.map V.ref)))) := new_same hl _
      have s3 : Same H (upd H2 l (.frz o (.tup (ps.map V.ref)))) := (s1.trans g3).trans sl
      have tab3 : TabAt K (upd H2 l (.frz o (.tup (ps.map V.ref)))) l (tabOf dF) := ⟨ps, kvs, ⟨o, upd_same, hod⟩, TabR.same sl g2, hnd, by omega⟩
      refine ⟨_, rfl, _, rfl, l, tabOf dF, vR, dR, rfl, tab3, dp_same s3 hR, ho, fun H4 s4 => ⟨_, rfl, ?_⟩⟩
      cases eR : areRules (tabOf dF) dR with
      | false =>
        refine iteT ⟨.int 1, rfl, fun d hd => ?_⟩
        have em : made dF dR = .bad 1 := by
          unfold made
          rw [eF, eR]
          rfl
        rw [em] at k
        exact k d H4 (s3.trans s4) hd
      | true =>
        obtain ⟨rs, er2, hl20, eru, hrf⟩ := rules_good eR
        refine iteF (nxt ?_)
        dsimp only
        refine ⟨_, rfl, l, tabOf dF, rfl, TabAt.same s4 tab3, by omega, fun e he => (hwords e he).2.1, fun H5 s5 => ⟨_, _, rfl, rfl, _, rfl, ?_⟩⟩
        have s35 := s4.trans s5
        have s05 : Same H H5 := s3.trans s35
        by_cases hw : 1000 < waysFrom 1 (tabOf dF)
        · refine iteDT (by omega) ⟨.str "fillings", rfl, fun d hd => ?_⟩
          have em : made dF dR = .many := by
            unfold made
            rw [eF, eR, if_pos rfl, if_pos rfl, if_pos hw]
          rw [em] at k
          exact k d H5 s05 hd
        · have em : made dF dR = .form (tabOf dF) (once ((rulesOf dR).map (sorted (tabOf dF)))) := by
            unfold made
            rw [eF, eR, if_pos rfl, if_pos rfl, if_neg hw]
          have hz := hz _ _ em
          rw [em] at k
          refine iteDF (by omega) (nxt ?_)
          dsimp only
          have hx5 := s05 _ _ hx
          refine ⟨_, rfl, _, rfl, x, C, dx, [], rfl, hx5, cl, nF, by show 0 < 1000; decide, ?_⟩
          have d6 : Sd H5 (upd H5 x (.ins C dx (putF "_fields" (.ref l) []))) := sd_ins hx5
          have d06 : Sd H (upd H5 x (.ins C dx (putF "_fields" (.ref l) []))) := Sd.trans (sdOf s05) d6
          have tab6 := tab_sd (Sd.trans (sdOf s35) d6) tab3
          obtain ⟨q, ws, rds, rfl, er3, hq0, hwl, hz⟩ := hz
          rw [er2] at er3
          cases er3
          have hq6 : SqL K (upd H5 x (.ins C dx (putF "_fields" (.ref l) []))) q ws ∨ SqT K (upd H5 x (.ins C dx (putF "_fields" (.ref l) []))) q ws := hq0.elim (fun z => .inl (seq_sd d06 z)) (fun z => .inr (seqT_sd d06 z))
          -- one rule
          have one : ∀ {j : Nat} {y : V}, ws[j]? = some y → ∃ (rd : PyData) (q2 : Addr) (ps2 : List Addr) (kvs2 : List (Key × V)), rs[j]? = some rd ∧ y = .ref q2 ∧ (SqL K H q2 (ps2.map V.ref) ∨ SqZ H q2 (ps2.map V.ref)) ∧ FactR K H ps2 kvs2 (factsOf rd) ∧ ((factsOf rd).map (·.1)).Nodup ∧ RStr (factsOf rd) := fun {j y} hy => by
            have hjl : j < rs.length := by
              have := (List.getElem?_eq_some_iff.mp hy).1
              omega
            obtain ⟨rd, e1⟩ : ∃ rd, rs[j]? = some rd := ⟨_, List.getElem?_eq_getElem hjl⟩
            have hrm : rd ∈ rs := List.mem_of_getElem? e1
            obtain ⟨q2, zs, gs, rfl, hz2, eg, hzs⟩ := hz j y rd hy e1
            obtain ⟨ps2, kvs2, rfl, i1, i2, _, i4⟩ := facts_good hzs (facts_go eg (hrf rd hrm)).2
            have efo : factsOf rd = gs.map factOf := by
              unfold factsOf
              rw [eg]
            refine ⟨rd, q2, ps2, kvs2, e1, rfl, hz2, by rw [efo]; exact i1, by rw [efo]; exact i2, ?_⟩
            rw [efo]
            intro e he
            obtain ⟨vs, h1, h2⟩ := i4 e he
            have h3 := hwords _ (look_mem h1)
            exact ⟨word_ok h3.1, word_ok (h3.2.2 _ h2)⟩
          dsimp only
          refine fld_each ?_
          refine lc_row (ys := ws) (fun D j H' => ∃ zs : List Addr, H' D = some (.lst (zs.map V.ref)) ∧ Paired (RuleAt K H') zs ((rs.take j).map fun rd => sorted (tabOf dF) (factsOf rd)) ∧ Same (upd H5 x (.ins C dx (putF "_fields" (.ref l) []))) H') (fun Q' z => ⟨_, rfl, z⟩) hq6 (fun D hD => ⟨[], upd_same, .nil, new_same hD _⟩) (fun D i H' hD hP => by obtain ⟨_, _, _, z⟩ := hP; exact z) (fun D j y H' hD hj hP hy => ?_) (fun D H7 hD hP => ?_)
          · obtain ⟨zs, g1, g2, g3⟩ := hP
            obtain ⟨rd, q2, ps2, kvs2, e1, rfl, e3, e4, e5, e6⟩ := one hy
            have d7 : Sd H H' := Sd.trans d06 (sdOf g3)
            refine ⟨rfl, ?_⟩
            unfold tYes
            refine iteT ⟨_, rfl, _, rfl, l, q2, tabOf dF, ps2, kvs2, factsOf rd, rfl, TabAt.same g3 tab6, e3.elim (fun z => .inl (seq_sd d7 z)) (fun z => .inr (sqZ_sd d7 z)), factR_sd d7 e4, e5, fun z H8 s8 hru => ?_⟩
            have hD8 := s8 _ _ g1
            have hzl : zs.length ≤ 20 := by
              rw [prd_len g2, List.length_map, List.length_take]
              omega
            refine ⟨zs.map V.ref, hD8, small1000 (by rw [List.length_map]; omega), zs ++ [z], ?_, ?_, fun b o' y' => ?_⟩
            · rw [upd_same, List.map_append] <;> rfl
            · rw [take_one e1, List.map_append]
              exact rules_off hD8 (prd_snoc (rules_same s8 g2) hru)
            · rw [upd_ne (ne_of_none y' hD)]
              exact s8 _ _ (g3 _ _ y')
          · obtain ⟨zs, g1, g2, g3⟩ := hP
            rw [List.take_of_length_le (by omega)] at g2
            refine ⟨D, zs, _, rfl, SqL.of g1, g2, fun r hr => ?_, by rw [List.length_map]; omega, fun z H8 s8 hru => ?_⟩
            · obtain ⟨rd, hrd, rfl⟩ := List.mem_map.mp hr
              obtain ⟨j, hj, ej⟩ := List.mem_iff_getElem.mp hrd
              have hjw : j < ws.length := by omega
              obtain ⟨rd', _, _, _, e1, _, _, _, _, e6⟩ := one (List.getElem?_eq_getElem hjw)
              have e7 : rs[j]? = some rd := by rw [List.getElem?_eq_getElem hj, ej]
              rw [e7] at e1
              cases e1
              exact fun e he => e6 e (sorted_mem he)
            · have s68 := g3.trans s8
              have hx8 : H8 x = some (.ins C dx (putF "_fields" (.ref l) [])) := s68 _ _ upd_same
              refine ⟨_, rfl, x, C, dx, _, rfl, hx8, cl, nR, by show 1 < 1000; decide, ?_⟩
              have d9 : Sd H8 (upd H8 x (.ins C dx (putF "_rules" (.ref z) (putF "_fields" (.ref l) [])))) := sd_ins hx8
              refine k l z _ (fun b o' nb e => ?_) ⟨dx, by rw [upd_same, pf2]⟩ (tab_sd (Sd.trans (sdOf s68) d9) tab6) ?_
              · rw [upd_ne nb]
                refine s68 _ _ ?_
                rw [upd_ne nb]
                exact s05 _ _ e
              · rw [eru, List.map_map]
                exact rulesAt_sd d9 hru
end
end Q
set_option Elab.async false
set_option linter.all false
set_option maxRecDepth 100000
set_option maxHeartbeats 4000000
/-! ### fields, rules, __eq__ -/
namespace Q
open PySem L2 XD
/-- fields as data -/
def entryD (e : Str × List Str) : PyData := .tuple [.str e.1, .tuple (e.2.map PyData.str)]
def tabD (t : List (Str × List Str)) : PyData := .tuple (t.map entryD)
def rulesD (rs : List (List (Str × Str))) : PyData := .tuple (rs.map ruleD)
theorem eqvAll_strs : ∀ a b : List Str, PyData.eqvAll (a.map PyData.str) (b.map PyData.str) = decide (a = b)
  | [], [] => by simp [PyData.eqvAll]
  | [], _ :: _ => by simp [PyData.eqvAll]
  | _ :: _, [] => by simp [PyData.eqvAll]
  | x :: a, y :: b => by
    rw [List.map_cons, List.map_cons, PyData.eqvAll, eqvAll_strs a b, PyData.eqv]
    by_cases h1 : x = y
    · by_cases h2 : a = b
      · simp [h1, h2]
      · simp [h1, h2]
    · simp [h1]
theorem eqvAll_tab : ∀ a b : List (Str × List Str), PyData.eqvAll (a.map entryD) (b.map entryD) = decide (a = b)
  | [], [] => by simp [PyData.eqvAll]
  | [], _ :: _ => by simp [PyData.eqvAll]
  | _ :: _, [] => by simp [PyData.eqvAll]
  | (n, w) :: a, (m, v) :: b => by
    rw [List.map_cons, List.map_cons, PyData.eqvAll, eqvAll_tab a b]
    unfold entryD
    rw [PyData.eqv, PyData.eqvAll, PyData.eqvAll, PyData.eqvAll, PyData.eqv, PyData.eqv, eqvAll_strs]
    by_cases h1 : n = m
    · by_cases h2 : w = v
      · by_cases h3 : a = b
        · simp [h1, h2, h3]
        · simp [h1, h2, h3]
      · simp [h1, h2]
    · simp [h1]
theorem eqvAll_rules : ∀ a b : List (List (Str × Str)), PyData.eqvAll (a.map ruleD) (b.map ruleD) = decide (a = b)
  | [], [] => by simp [PyData.eqvAll]
  | [], _ :: _ => by simp [PyData.eqvAll]
  | _ :: _, [] => by simp [PyData.eqvAll]
  | x :: a, y :: b => by
    rw [List.map_cons, List.map_cons, PyData.eqvAll, eqvAll_rules a b, eqv_rule]
    by_cases h1 : x = y
    · by_cases h2 : a = b
      · simp [h1, h2]
      · simp [h1, h2]
    · simp [h1]
def TStr (t : List (Str × List Str)) : Prop := ∀ e ∈ t, PyData.strOk e.1 = true ∧ ∀ w ∈ e.2, PyData.strOk w = true
theorem strs_depth : ∀ ws : List Str, PyData.depthAll (ws.map PyData.str) = 0
  | [] => by simp [PyData.depthAll]
  | w :: ws => by simp [PyData.depthAll, PyData.depth, strs_depth ws]
theorem tab_lay : ∀ t : List (Str × List Str), TStr t → PyData.canLayAll0 (t.map entryD) = true
  | [], _ => by simp [PyData.canLayAll0]
  | e :: t, h => by
    have h1 := h e List.mem_cons_self
    rw [List.map_cons, PyData.canLayAll0, tab_lay t fun x hx => h x (List.mem_cons_of_mem _ hx), Bool.and_true]
    unfold entryD
    simp [PyData.canLay0, PyData.canLayAll0, h1.1, lay_strs e.2 h1.2]
theorem tab_depth : ∀ t : List (Str × List Str), PyData.depthAll (t.map entryD) ≤ 2
  | [] => by simp [PyData.depthAll]
  | e :: t => by
    have h1 := tab_depth t
    rw [List.map_cons, PyData.depthAll]
    have h2 : (entryD e).depth ≤ 2 := by
      unfold entryD
      simp [PyData.depth, PyData.depthAll, strs_depth]
    omega
theorem tab_shaped {t : List (Str × List Str)} (h : TStr t) : SeqAt.shaped (tabD t) = true := by
  unfold SeqAt.shaped tabD
  have h2 := tab_depth t
  rw [PyData.canLay0, tab_lay t h, Bool.true_and]
  refine decide_eq_true ?_
  rw [PyData.depth]
  omega
theorem rulesD_shaped {rs : List (List (Str × Str))} (h : ∀ r ∈ rs, RStr r) : SeqAt.shaped (rulesD rs) = true := by
  unfold SeqAt.shaped rulesD
  have h2 := rules_depth rs
  rw [PyData.canLay0, rules_lay rs h, Bool.true_and]
  refine decide_eq_true ?_
  rw [PyData.depth]
  omega
theorem tabR_dps {K : PySem.W.Frag} {H : Hp} : ∀ {ps : List Addr} {kvs : List (Key × V)} {t : List (Str × List Str)}, TabR K H ps kvs t → DpAll K H (ps.map V.ref) (t.map entryD)
  | _, _, _, .nil => .nil
  | _, _, _, .cons a b o c => .cons (.tup a (.cons (.str _) (.cons (.tup b (dps_strs _)) .nil))) (tabR_dps c)
theorem tab_dp {K : PySem.W.Frag} {H : Hp} {p : Addr} {t : List (Str × List Str)} (h : TabAt K H p t) : Dp K H (.ref p) (tabD t) := by
  obtain ⟨ps, kvs, a, b, _⟩ := h
  exact .tup a.sqT (tabR_dps b)
theorem rules_dp {K : PySem.W.Frag} {H : Hp} {p : Addr} {rs : List (List (Str × Str))} (h : RulesAt K H p rs) : Dp K H (.ref p) (rulesD rs) := by
  obtain ⟨ps, a, b⟩ := h
  exact .tup a.sqT (rules_dps b)
/-- a form stands at x -/
structure Stands (K : PySem.W.Frag) (C : Addr) (H : Hp) (x : Addr) (t : List (Str × List Str)) (rs : List (List (Str × Str))) : Prop where
  at_ : ∃ pf pr, FormAt C H x pf pr ∧ TabAt K H pf t ∧ RulesAt K H pr rs
  ts : TStr t
  rs : ∀ r ∈ rs, RStr r
def spGet (K : PySem.W.Frag) (C : Addr) (r : Bool) : Sp := fun vs H Q _ => ∃ x pf pr, vs = [.ref x] ∧ FormAt C H x pf pr ∧ Q (.ref (if r = true then pr else pf)) H
def spEq (K : PySem.W.Frag) (C : Addr) : Sp := fun vs H Q _ => ∃ x t rs v, vs = [.ref x, v] ∧ Stands K C H x t rs ∧
  ((∃ d, Dp K H v d ∧ Q (.bl false) H) ∨ ∃ y t' rs', v = .ref y ∧ Stands K C H y t' rs' ∧ Q (.bl (decide (t = t') && decide (rs = rs'))) H)
/-- what the written part says of the class -/
structure Fc (K : PySem.W.Frag) (mg : Str → Option Value) (C : Addr) : Prop where
  cl : Cls K C
  nF : NoAttr K C "_fields"
  nR : NoAttr K C "_rules"
  gF : mg "Form" = some (.ref C)
  isi : mg "isinstance" = none
  ty : ∀ {H : Hp} {x dx : Addr} {fs : List (Str × V)}, H x = some (.ins C dx fs) → TyOf K H (.ref x) (.ref C)
  self : PySem.W.kitOne K (.ref C) (.ref C) = some true
  no : ∀ d : PyData, (∀ kvs, d ≠ .dict kvs) → PySem.W.kitOne K (.type (tyName d)) (.ref C) = some false
theorem lkF {l z : Addr} : List.lookup ("_fields" : Str) [(("_fields" : Str), V.ref l), (("_rules" : Str), V.ref z)] = some (.ref l) := by
  have e : (("_fields" : Str) == "_fields") = true := by decide +kernel
  rw [List.lookup, e]
theorem lkR {l z : Addr} : List.lookup ("_rules" : Str) [(("_fields" : Str), V.ref l), (("_rules" : Str), V.ref z)] = some (.ref z) := by
  have e : (("_rules" : Str) == "_fields") = false := by decide +kernel
  have e2 : (("_rules" : Str) == "_rules") = true := by decide +kernel
  rw [List.lookup, e]
  show List.lookup ("_rules" : Str) [(("_rules" : Str), V.ref z)] = _
  rw [List.lookup, e2]
section
variable {P : Program} {w : World} {K : PySem.W.Frag} {mg : Str → Option Value} {base : Heap}
theorem ok_fieldsM {f C : Addr} {fd : FuncData} (F : Fun K "fields" "Form.fields" sFieldsM f fd) (T : Fc K mg C) : FnOk P w K mg base CX0 1 f fd ["self"] (spGet K C false) := by
  refine F.ok scFieldsM (fun vs H Q E h => ?_) (fun cdv A outer s H vs Q E hr h => ?_)
  · obtain ⟨x, pf, pr, rfl, _⟩ := h
    rfl
  obtain ⟨x, pf, pr, rfl, ⟨dx, hx⟩, k⟩ := h
  refine ⟨_, pss_one (ps_ret (pe_fld (pv 0) rfl)), ?_⟩
  exact ⟨_, rfl, x, C, dx, _, _, rfl, hx, T.cl, T.nF, lkF, k⟩
theorem ok_rulesM {f C : Addr} {fd : FuncData} (F : Fun K "rules" "Form.rules" sRulesM f fd) (T : Fc K mg C) : FnOk P w K mg base CX0 1 f fd ["self"] (spGet K C true) := by
  refine F.ok scRulesM (fun vs H Q E h => ?_) (fun cdv A outer s H vs Q E hr h => ?_)
  · obtain ⟨x, pf, pr, rfl, _⟩ := h
    rfl
  obtain ⟨x, pf, pr, rfl, ⟨dx, hx⟩, k⟩ := h
  refine ⟨_, pss_one (ps_ret (pe_fld (pv 0) rfl)), ?_⟩
  exact ⟨_, rfl, x, C, dx, _, _, rfl, hx, T.cl, T.nR, lkR, k⟩
theorem ok_eqM {f C : Addr} {fd : FuncData} (F : Fun K "__eq__" "Form.__eq__" sEqM f fd) (T : Fc K mg C) : FnOk P w K mg base CX0 1 f fd ["self", "other"] (spEq K C) := by
  refine F.ok scEqM (fun vs H Q E h => ?_) (fun cdv A outer s H vs Q E hr h => ?_)
  · obtain ⟨x, t, rs, v, rfl, _⟩ := h
    rfl
  obtain ⟨x, t, rs, v, rfl, ⟨⟨pf, pr, ⟨dx, hx⟩, h2, h3⟩, hts, hrs⟩, k⟩ := h
  have hu := hr.units
  refine ⟨_, pss_one (ps_ret (pe_and (pe_callB call_isi rfl T.isi (by decide +kernel) (pa_cons (pv 1) (pa_cons (pe_glob (v := .ref C) (by rfl) T.gF rfl) pa_nil)))
    (pe_and (pe_cmpR (op_eqD hu) (pe_fld (pv 0) rfl) (pe_fld (pv 1) rfl) (nomark _)) (pe_one (pe_cmpR (op_eqD hu) (pe_fld (pv 0) rfl) (pe_fld (pv 1) rfl) (nomark _)))))), ?_⟩
  rcases k with ⟨d, hd, k⟩ | ⟨y, t', rs', rfl, ⟨⟨pf', pr', ⟨dx', hx'⟩, h2', h3'⟩, hts', hrs'⟩, k⟩
  · exact ⟨_, rfl, _, _, _, _, _, rfl, .own C, tyD hd, T.no d (dp_no_dict hd), _, rfl, iteF k⟩
  · refine ⟨_, rfl, _, _, _, _, _, rfl, .own C, .base (T.ty hx'), T.self, _, rfl, iteT ?_⟩
    refine ⟨_, rfl, x, C, dx, _, _, rfl, hx, T.cl, T.nF, lkF, _, rfl, y, C, dx', _, _, rfl, hx', T.cl, T.nF, lkF, tabD t, tabD t', tab_dp h2, tab_dp h2', tab_shaped hts, tab_shaped hts', _, rfl, ?_⟩
    have e1 : PyData.eqv (tabD t) (tabD t') = decide (t = t') := by
      unfold tabD
      rw [PyData.eqv]
      exact eqvAll_tab t t'
    have e2 : PyData.eqv (rulesD rs) (rulesD rs') = decide (rs = rs') := by
      unfold rulesD
      rw [PyData.eqv]
      exact eqvAll_rules rs rs'
    rw [e1]
    by_cases g : t = t'
    · rw [decide_eq_true g, Bool.true_and] at k
      refine iteDT g ⟨_, rfl, x, C, dx, _, _, rfl, hx, T.cl, T.nR, lkR, _, rfl, y, C, dx', _, _, rfl, hx', T.cl, T.nR, lkR, rulesD rs, rulesD rs', rules_dp h3, rules_dp h3', rulesD_shaped hrs, rulesD_shaped hrs', ?_⟩
      rw [e2]
      exact k
    · rw [decide_eq_false g, Bool.false_and] at k
      exact iteDF g k
end
end Q
set_option Elab.async false
set_option linter.all false
set_option maxRecDepth 100000
set_option maxHeartbeats 4000000
namespace Q
open PySem L2
end Q
/-! ### the flow: a list of the script's copy and five ints -/
namespace Q
open PySem L2
def fl (b : Addr) (p s c m w : Int) : List V := [.ref b, .int p, .int s, .int c, .int m, .int w]
/-- a flow at a: its copy of the script at b -/
structure Fx (H : Hp) (a b : Addr) (ns : List Int) (p s c m w : Int) : Prop where
  at_ : H a = some (.lst (fl b p s c m w))
  ls : H b = some (.lst (ns.map V.int))
  pos : 0 ≤ p
/-- .. whose copy of the script is b -/
def Flw (b : Addr) (H : Hp) (a : Addr) : Prop := ∃ (ns : List Int) (p s c m w : Int), Fx H a b ns p s c m w
/-- all but a stands -/
def Kept (a : Addr) (H H' : Hp) : Prop := ∀ x o, x ≠ a → H x = some o → H' x = some o
theorem Kept.refl {a : Addr} {H : Hp} : Kept a H H := fun _ _ _ e => e
theorem Kept.trans {a : Addr} {H H1 H2 : Hp} (k : Kept a H H1) (l : Kept a H1 H2) : Kept a H H2 := fun x o n e => l x o n (k x o n e)
theorem Kept.upd {a : Addr} {H : Hp} {o : HO} : Kept a H (upd H a o) := fun x u n e => by
  rw [upd_ne n]
  exact e
theorem Fx.ne {H : Hp} {a b : Addr} {ns : List Int} {p s c m w : Int} (F : Fx H a b ns p s c m w) : b ≠ a := fun e => by
  have h := F.ls
  rw [e, F.at_] at h
  have q : (fl b p s c m w) = ns.map V.int := HO.lst.inj (Option.some.inj h)
  cases ns with
  | nil => cases q
  | cons x r =>
    have z := (List.cons.inj q).1
    cases z
theorem Fx.put {H : Hp} {a b : Addr} {ns : List Int} {p s c m w p' s' c' m' w' : Int} (F : Fx H a b ns p s c m w) (h : 0 ≤ p') : Fx (upd H a (.lst (fl b p' s' c' m' w'))) a b ns p' s' c' m' w' :=
  ⟨upd_same, by rw [upd_ne F.ne]; exact F.ls, h⟩
theorem Fx.kept {H H' : Hp} {a b : Addr} {ns : List Int} {p s c m w : Int} (F : Fx H a b ns p s c m w) (k : Same H H') : Fx H' a b ns p s c m w :=
  ⟨k _ _ F.at_, k _ _ F.ls, F.pos⟩
theorem Flw.same {H H' : Hp} {a b : Addr} (F : Flw b H a) (k : Same H H') : Flw b H' a := by
  obtain ⟨ns, p, s, c, m, w, F⟩ := F
  exact ⟨ns, p, s, c, m, w, F.kept k⟩
theorem Kept.of_same {a : Addr} {H H' : Hp} (k : Same H H') : Kept a H H' := fun x o _ e => k x o e
theorem fl0 {b : Addr} {p s c m w : Int} : atI (fl b p s c m w) 0 = some (.ref b) := rfl
theorem fl1 {b : Addr} {p s c m w : Int} : atI (fl b p s c m w) 1 = some (.int p) := rfl
theorem fl2 {b : Addr} {p s c m w : Int} : atI (fl b p s c m w) 2 = some (.int s) := rfl
theorem fl3 {b : Addr} {p s c m w : Int} : atI (fl b p s c m w) 3 = some (.int c) := rfl
theorem fl4 {b : Addr} {p s c m w : Int} : atI (fl b p s c m w) 4 = some (.int m) := rfl
theorem fl5 {b : Addr} {p s c m w : Int} : atI (fl b p s c m w) 5 = some (.int w) := rfl
/-! ### promises -/
def spFlow (K : PySem.W.Frag) : Sp := fun vs H Q _ => ∃ (a : Addr) (ns : List Int), vs = [.ref a] ∧ SqL K H a (ns.map V.int) ∧
  ∀ (f b : Addr) (H' : Hp), Same H H' → Flw b H' f → H f = none → H b = none → Q (.ref f) H'
def spLoad : Sp := fun vs H Q _ => ∃ a b, vs = [.ref a] ∧ Flw b H a ∧ ∀ H', Flw b H' a → Kept a H H' → Q .non H'
def spDraw : Sp := fun vs H Q _ => ∃ (a b : Addr) (n : Int), vs = [.ref a, .int n] ∧ Flw b H a ∧ n.natAbs < 2 ^ 200 ∧
  ∀ (r : Int) (H' : Hp), 0 ≤ r → r < (if n > 1 then n else 1) → Flw b H' a → Kept a H H' → Q (.int r) H'
def spPick : Sp := fun vs H Q _ => ∃ (a b t : Addr) (xs : List V), vs = [.ref a, .ref t] ∧ Flw b H a ∧ H t = some (.lst xs) ∧ t ≠ a ∧ 0 < xs.length ∧ xs.length ≤ 1000 ∧
  ∀ (x : V) (H' : Hp), x ∈ xs → Flw b H' a → Kept a H H' → Q x H'
structure Bt (mg : Str → Option Value) : Prop where
  int : mg "int" = none
  list : mg "list" = none
  len : mg "len" = none
  abs : mg "abs" = none
  max : mg "max" = none
end Q
set_option Elab.async false
set_option linter.all false
set_option maxRecDepth 100000
set_option maxHeartbeats 4000000
/-! ### _law_letter, _law_name -/
namespace Q
open PySem L2 XD
theorem Flw.off {H : Hp} {a b D : Addr} {o : HO} (F : Flw b H a) (h1 : D ≠ a) (h2 : D ≠ b) : Flw b (upd H D o) a := by
  obtain ⟨ns, p, s, c, m, w, Fl⟩ := F
  exact ⟨ns, p, s, c, m, w, by rw [upd_ne h1.symm]; exact Fl.at_, by rw [upd_ne h2.symm]; exact Fl.ls, Fl.pos⟩
theorem Flw.ne {H : Hp} {a b D : Addr} (F : Flw b H a) (h : H D = none) : D ≠ a ∧ D ≠ b := by
  obtain ⟨ns, p, s, c, m, w, Fl⟩ := F
  refine ⟨fun z => ?_, fun z => ?_⟩
  · rw [z, Fl.at_] at h
    cases h
  · rw [z, Fl.ls] at h
    cases h
def spLetter : Sp := fun vs H Q _ => ∃ a b, vs = [.ref a] ∧ Flw b H a ∧ ∀ (c : Nat) H', az c = true → Flw b H' a → Kept a H H' → Q (.str ⟨#[c]⟩) H'
theorem abc_at : ∀ n, n < 26 → atI ("abcdefghijklmnopqrstuvwxyz" : Str).cps.toList (n : Nat) = some (97 + n) ∧ az (97 + n) = true := by
  decide +kernel
end Q
set_option Elab.async false
set_option linter.all false
set_option maxRecDepth 100000
set_option maxHeartbeats 4000000
/-! ### _law_same: of two times the same data it says True -/
namespace Q
open PySem L2 XD
/-- data to a depth, no row longer than 1000 -/
def Ds : Nat → PyData → Prop
  | 0, _ => False
  | n + 1, d => ∀ xs, rowOf d = some xs → xs.length ≤ 1000 ∧ ∀ x ∈ xs, Ds n x
def spSame (K : PySem.W.Frag) (n : Nat) : Sp := fun vs H Q _ => ∃ (v u : V) (d : PyData), vs = [v, u] ∧ Dp K H v d ∧ Dp K H u d ∧ Ds n d ∧ ∀ H', Same H H' → Q (.bl true) H'
structure Bs (mg : Str → Option Value) : Prop where
  isi : mg "isinstance" = none
  tup : mg "tuple" = none
  list : mg "list" = none
  len : mg "len" = none
  all : mg "all" = none
  range : mg "range" = none
  str : mg "str" = none
  bool : mg "bool" = none
  int : mg "int" = none
theorem all_true (n : Nat) : (List.replicate n true).all id = true := by
  induction n with
  | zero => rfl
  | succ n ih => rw [List.replicate_succ, List.all_cons, ih] <;> rfl
theorem iteNS {c : Bool} {A B : Prop} (h : c = false) (b : B) : if c = true then A else B := by
  rw [h]
  exact iteF b
theorem dps_get2 {K : PySem.W.Frag} {H : Hp} {vs us : List V} {ds : List PyData} {i : Nat} (h1 : DpAll K H vs ds) (h2 : DpAll K H us ds) (hi : i < ds.length) : ∃ v u d, vs[i]? = some v ∧ us[i]? = some u ∧ ds[i]? = some d ∧ Dp K H v d ∧ Dp K H u d := by
  have l1 := dps_len h1
  have l2 := dps_len h2
  have e1 : vs[i]? = some vs[i] := List.getElem?_eq_getElem (by omega)
  have e2 : us[i]? = some us[i] := List.getElem?_eq_getElem (by omega)
  obtain ⟨d, g1, g2⟩ := dps_get h1 e1
  obtain ⟨d', g3, g4⟩ := dps_get h2 e2
  rw [g1] at g3
  cases g3
  exact ⟨_, _, d, e1, e2, g1, g2, g4⟩
end Q
set_option Elab.async false
set_option linter.all false
set_option maxRecDepth 100000
set_option maxHeartbeats 4000000
/-! ### _law_sorted -/
namespace Q
open PySem L2 XD
/-- the pairs in the sequence of the table, as the law finds them -/
def bySeq (t : List (Str × List Str)) (r : List (Str × Str)) : List (Str × Str) := t.flatMap fun e => r.filter fun f => decide (f.1 = e.1)
theorem bySeq_next {t : List (Str × List Str)} {r : List (Str × Str)} {i : Nat} {e : Str × List Str} (h : t[i]? = some e) : bySeq (t.take (i + 1)) r = bySeq (t.take i) r ++ r.filter fun f => decide (f.1 = e.1) := by
  unfold bySeq
  rw [take_one h, List.flatMap_append]
  simp
theorem prd_app {α β : Type} {R : α → β → Prop} : ∀ {xs xs2 : List α} {ys ys2 : List β}, Paired R xs ys → Paired R xs2 ys2 → Paired R (xs ++ xs2) (ys ++ ys2)
  | _, _, _, _, .nil, h => h
  | _, _, _, _, .cons a b, h => .cons a (prd_app b h)
def spSorted (K : PySem.W.Frag) : Sp := fun vs H Q _ => ∃ (p q : Addr) (ps : List Addr) (kvs : List (Key × V)) (t : List (Str × List Str)) (qs : List Addr) (r : List (Str × Str)), vs = [.ref p, .ref q] ∧ (SqL K H p (ps.map V.ref) ∨ SqT K H p (ps.map V.ref)) ∧ TabR K H ps kvs t ∧
  (SqL K H q (qs.map V.ref) ∨ SqT K H q (qs.map V.ref)) ∧ Paired (fun q (e : Str × Str) => SqT K H q [.str e.1, .str e.2]) qs r ∧ t.length ≤ 6 ∧ r.length ≤ 10 ∧ ∀ z H', Same H H' → RuleAt K H' z (bySeq t r) → Q (.ref z) H'
end Q
set_option Elab.async false
set_option linter.all false
/-! ### the program's sequence and the law's are one -/
namespace Q
open PySem L2 XD
theorem filter_none {n : Str} : ∀ {r : List (Str × Str)}, (∀ e ∈ r, e.1 ≠ n) → r.filter (fun f => decide (f.1 = n)) = []
  | [], _ => rfl
  | e :: r, h => by
    rw [List.filter_cons_of_neg (by simpa using h e List.mem_cons_self)]
    exact filter_none fun f hf => h f (List.mem_cons_of_mem _ hf)
theorem pick_filter {n : Str} : ∀ {r : List (Str × Str)}, (r.map (·.1)).Nodup → ((pick n r).map fun w => (n, w)).toList = r.filter fun f => decide (f.1 = n)
  | [], _ => rfl
  | (m, w) :: r, h => by
    rw [List.map_cons, List.nodup_cons] at h
    unfold pick
    by_cases e : m = n
    · subst e
      rw [if_pos rfl, List.filter_cons_of_pos (by simp), filter_none fun f hf z => h.1 (List.mem_map.mpr ⟨f, hf, z⟩)]
      rfl
    · rw [if_neg e, List.filter_cons_of_neg (by simpa using e)]
      exact pick_filter h.2
theorem sorted_bySeq {r : List (Str × Str)} (h : (r.map (·.1)).Nodup) : ∀ t : List (Str × List Str), sorted t r = bySeq t r
  | [] => rfl
  | e :: t => by
    have ih := sorted_bySeq h t
    unfold sorted bySeq at ih ⊢
    rw [List.flatMap_cons, ← ih, ← pick_filter (n := e.1) h]
    cases ep : pick e.1 r with
    | none => simp [ep]
    | some w => simp [ep]
end Q
set_option Elab.async false
set_option linter.all false
set_option maxRecDepth 100000
set_option maxHeartbeats 4000000
/-! ### texts as lists of code points; _law_near -/
namespace Q
open PySem L2 XD
def tlx (s : Str) : List Nat := s.cps.toList
theorem tlx_len (s : Str) : (tlx s).length = s.length := Array.length_toList
theorem tlx_app (a b : Str) : tlx (a ++ b) = tlx a ++ tlx b := TL.tl_append a b
theorem tlx_inj {a b : Str} (h : tlx a = tlx b) : a = b := by
  obtain ⟨⟨x⟩⟩ := a
  obtain ⟨⟨y⟩⟩ := b
  have h' : x = y := h
  rw [h']
theorem tlx_one (c : Nat) : tlx ⟨#[c]⟩ = [c] := rfl
theorem tlx_to (z : Str) (k : Nat) : tlx (cutS z none (some (k : Int))) = (tlx z).take k := by
  show ((z.cps.toList.drop 0).take (HT.sIx z.length z.length (some (k : Int)) - 0)) = z.cps.toList.take k
  rw [HT.sIx_nat, List.drop_zero, Nat.sub_zero]
  have e : z.cps.toList.length = z.length := Array.length_toList
  rw [← e, ← List.take_eq_take_min]
theorem tlx_from (z : Str) (k : Nat) : tlx (cutS z (some (k : Int)) none) = (tlx z).drop k := by
  show ((z.cps.toList.drop (HT.sIx z.length 0 (some (k : Int)))).take (z.length - HT.sIx z.length 0 (some (k : Int)))) = z.cps.toList.drop k
  have e : z.cps.toList.length = z.length := Array.length_toList
  rw [HT.sIx_nat, ← e]
  by_cases h : k ≤ z.cps.toList.length
  · rw [Nat.min_eq_left h, List.take_of_length_le (by rw [List.length_drop]; exact Nat.le_refl _)]
  · rw [Nat.min_eq_right (by omega), List.drop_length, List.drop_eq_nil_of_le (by omega), List.take_nil]
theorem word_iff {s : Str} : word s = true ↔ 1 ≤ (tlx s).length ∧ (tlx s).length ≤ 8 ∧ (tlx s).all az = true := by
  unfold word
  rw [Bool.and_eq_true, Bool.and_eq_true, decide_eq_true_eq, decide_eq_true_eq, tlx_len]
  exact ⟨fun ⟨⟨a, b⟩, c⟩ => ⟨a, b, c⟩, fun ⟨a, b, c⟩ => ⟨⟨a, b⟩, c⟩⟩
theorem word_len {s : Str} (h : word s = true) : s.length ≤ 8 := by
  have := (word_iff.mp h).2.1
  rwa [tlx_len] at this
theorem all_take {p : Nat → Bool} {l : List Nat} (h : l.all p = true) (k : Nat) : (l.take k).all p = true :=
  List.all_eq_true.mpr fun x hx => List.all_eq_true.mp h x (List.mem_of_mem_take hx)
theorem all_drop {p : Nat → Bool} {l : List Nat} (h : l.all p = true) (k : Nat) : (l.drop k).all p = true :=
  List.all_eq_true.mpr fun x hx => List.all_eq_true.mp h x (List.mem_of_mem_drop hx)
theorem word_of {s : Str} {l : List Nat} (e : tlx s = l) (h1 : 1 ≤ l.length) (h8 : l.length ≤ 8) (ha : l.all az = true) : word s = true :=
  word_iff.mpr ⟨by rw [e]; exact h1, by rw [e]; exact h8, by rw [e]; exact ha⟩
theorem cutS_short (z : Str) (lo hi : Option Int) : (cutS z lo hi).length ≤ z.length := by
  rw [← tlx_len, ← tlx_len]
  show ((z.cps.toList.drop _).take _).length ≤ z.cps.toList.length
  rw [List.length_take, List.length_drop]
  omega
theorem le_line {n : Nat} (h : n ≤ 1000) : n ≤ sizeLine := Nat.le_of_lt (small1000 h)
theorem one_len (c : Nat) : Str.length ⟨#[c]⟩ = 1 := rfl
theorem seq_cut {t u : TS} {D : Ends} {σ : L2.St} {H : Hp} (M : L2.St → Hp → Prop) (h2 : ∀ σ' H', M σ' H' → u D σ' H') (h1 : (∀ σ' H', M σ' H' → u D σ' H') → t { D with nx := u D } σ H) : tSeq t u D σ H := h1 h2
def spNear : Sp := fun vs H Q _ => ∃ a b x, vs = [.ref a, .str x] ∧ Flw b H a ∧ word x = true ∧ ∀ (y : Str) H', word y = true → Flw b H' a → Kept a H H' → Q (.str y) H'
end Q
set_option Elab.async false
set_option linter.all false
set_option maxRecDepth 100000
set_option maxHeartbeats 4000000
/-! ### _law_pick of a list or a tuple; _law_words -/
namespace Q
open PySem L2 XD
theorem sqL_kept {K : PySem.W.Frag} {H H' : Hp} {a p : Addr} {xs : List V} (k : Kept a H H') (n : p ≠ a) (h : SqL K H p xs) : SqL K H' p xs := by
  rcases h with (h | ⟨o, h⟩) | h
  · exact .inl (.inl (k _ _ n h))
  · exact .inl (.inr ⟨o, k _ _ n h⟩)
  · exact .inr h
theorem sqT_kept {K : PySem.W.Frag} {H H' : Hp} {a p : Addr} {xs : List V} (k : Kept a H H') (n : p ≠ a) (h : SqT K H p xs) : SqT K H' p xs := by
  rcases h with (h | ⟨o, h⟩) | h
  · exact .inl (.inl (k _ _ n h))
  · exact .inl (.inr ⟨o, k _ _ n h⟩)
  · exact .inr h
theorem sq_kept {K : PySem.W.Frag} {H H' : Hp} {a p : Addr} {xs : List V} (k : Kept a H H') (n : p ≠ a) (h : SqL K H p xs ∨ SqT K H p xs) : SqL K H' p xs ∨ SqT K H' p xs :=
  h.elim (fun q => .inl (sqL_kept k n q)) (fun q => .inr (sqT_kept k n q))
theorem Flw.lst {H : Hp} {a b : Addr} (F : Flw b H a) : ∃ xs, H a = some (.lst xs) := by
  obtain ⟨ns, p, s, c, m, w, F⟩ := F
  exact ⟨_, F.at_⟩
theorem seqT_flw {K : PySem.W.Frag} {H H' : Hp} {a b q : Addr} {xs : List V} (F : Flw b H a) (k : Kept a H H') (h : SqT K H q xs) : SqT K H' q xs := by
  obtain ⟨ys, e⟩ := F.lst
  have n1 : ∀ {o : HO}, H q = some o → (∀ l, o ≠ .lst l) → q ≠ a := fun e1 e2 z => by
    subst z
    rw [e] at e1
    exact e2 _ (Option.some.inj e1).symm
  rcases h with (h | ⟨o, h⟩) | h
  · exact .inl (.inl (k _ _ (n1 h (by intro l z; cases z)) h))
  · exact .inl (.inr ⟨o, k _ _ (n1 h (by intro l z; cases z)) h⟩)
  · exact .inr h
def spPickB (K : PySem.W.Frag) : Sp := fun vs H Q _ => ∃ (a b t : Addr) (xs : List V), vs = [.ref a, .ref t] ∧ Flw b H a ∧ ((SqL K H t xs ∧ t ≠ a) ∨ SqT K H t xs) ∧ 0 < xs.length ∧ xs.length ≤ 1000 ∧
  ∀ (i : Nat) (x : V) (H' : Hp), xs[i]? = some x → Flw b H' a → Kept a H H' → Q x H'
/-! ### words not told yet -/
def lastOf (s : Str) : Option Nat := (tlx s).getLast?
def nine : List Nat := ("abcdefghi" : Str).cps.toList
theorem nine_nodup : nine.Nodup := by decide +kernel
theorem nine_len : nine.length = 9 := by decide +kernel
theorem nine_az : ∀ c ∈ nine, az c = true := by decide +kernel
theorem in_words {w : Str} : ∀ {ws : List Str}, inV (.str w) (ws.map V.str) = decide (w ∈ ws)
  | [] => rfl
  | x :: ws => by
    have ih := in_words (w := w) (ws := ws)
    unfold inV at ih ⊢
    rw [List.map_cons, List.any_cons, ih]
    show ((x == w) || _) = _
    by_cases e : x = w
    · subst e
      simp
    · have e2 : ¬ w = x := fun z => e z.symm
      have e1 : (x == w) = false := beq_eq_false_iff_ne.mpr e
      rw [e1, Bool.false_or]
      simp [e2]
theorem flat_words : ∀ ws : List Str, (ws.map V.str).all flatV = true
  | [] => rfl
  | x :: ws => by
    rw [List.map_cons, List.all_cons, flat_words ws]
    rfl
/-- the word after j letters: new, or each one tried stands among the words -/
def Tried (ws : List Str) (j : Nat) (x : Str) : Prop := x ∉ ws ∨ j = 0 ∨ ∃ l : List Str, (l ++ [x]).map lastOf = (nine.take j).map some ∧ ∀ y ∈ l, y ∈ ws
theorem tried_next {ws : List Str} {j : Nat} {x y : Str} {c : Nat} (h : Tried ws j x) (hin : x ∈ ws) (hc : nine[j]? = some c) (hy : lastOf y = some c) : Tried ws (j + 1) y := by
  rcases h with h | h | ⟨l, h1, h2⟩
  · exact absurd hin h
  · subst h
    refine .inr (.inr ⟨[], ?_, fun y h => absurd h List.not_mem_nil⟩)
    rw [take_one hc, List.map_append]
    show [lastOf y] = [some c]
    rw [hy]
  · refine .inr (.inr ⟨l ++ [x], ?_, fun z hz => ?_⟩)
    · have e2 : ((l ++ [x]) ++ [y]).map lastOf = (l ++ [x]).map lastOf ++ [lastOf y] := List.map_append
      rw [take_one hc, e2, h1, hy, List.map_append]
      rfl
    · rcases List.mem_append.mp hz with hz | hz
      · exact h2 z hz
      · rw [List.mem_singleton.mp hz]
        exact hin
theorem tried_done {ws : List Str} {x : Str} (h : Tried ws 9 x) (hl : ws.length < 8) : x ∉ ws := by
  rcases h with h | h | ⟨l, h1, h2⟩
  · exact h
  · cases h
  · exfalso
    have e9 : nine.take 9 = nine := List.take_of_length_le (by rw [nine_len]; exact Nat.le_refl _)
    rw [e9] at h1
    have hn : ((l ++ [x]).map lastOf).Nodup := by
      rw [h1]
      exact List.pairwise_map.mpr (List.Pairwise.imp (fun h z => h (Option.some.inj z)) nine_nodup)
    have hl8 : l.length = 8 := by
      have := congrArg List.length h1
      rw [List.length_map, List.length_map, nine_len, List.length_append, List.length_singleton] at this
      omega
    have hd : l.Nodup := by
      have h3 : (l ++ [x]).Nodup := List.Pairwise.imp (fun h z => h (by rw [z])) (List.pairwise_map.mp hn)
      exact (List.nodup_append.mp h3).1
    have := List.Nodup.length_le_of_subset hd (fun y hy => h2 y hy)
    omega
theorem tried_put {x : Str} {c : Nat} (hw : word x = true) (hc : az c = true) : word (cutS x none (some (7 : Int)) ++ ⟨#[c]⟩) = true ∧ lastOf (cutS x none (some (7 : Int)) ++ ⟨#[c]⟩) = some c := by
  obtain ⟨w1, w8, wa⟩ := word_iff.mp hw
  have e : tlx (cutS x none (some (7 : Int)) ++ ⟨#[c]⟩) = (tlx x).take 7 ++ [c] := by
    rw [tlx_app, tlx_one]
    exact congrArg (· ++ [c]) (tlx_to x 7)
  refine ⟨word_of e ?_ ?_ ?_, ?_⟩
  · simp only [List.length_append, List.length_singleton]
    omega
  · simp only [List.length_append, List.length_singleton, List.length_take]
    omega
  · rw [List.all_append, all_take wa]
    simp [hc]
  · unfold lastOf
    rw [e]
    simp
end Q
set_option Elab.async false
set_option linter.all false
set_option maxRecDepth 100000
set_option maxHeartbeats 4000000
/-! ### _law_words -/
namespace Q
open PySem L2 XD
def Wds (ws : List Str) : Prop := ws.Nodup ∧ ∀ x ∈ ws, word x = true
def spWords (K : PySem.W.Frag) : Sp := fun vs H Q _ => ∃ (a b p : Addr) (m : Nat) (ws : List Str), vs = [.ref a, .int m, .ref p] ∧ Flw b H a ∧ m ≤ 7 ∧ SqL K H p (ws.map V.str) ∧ p ≠ a ∧ ws.length ≤ 1000 ∧ (∀ x ∈ ws, word x = true) ∧
  ∀ (D : Addr) (us : List Str) (H' : Hp), H D = none → H' D = some (.lst (us.map V.str)) → us.length = m → Wds us → Flw b H' a → Kept a H H' → Q (.ref D) H'
theorem Kept.new {a D : Addr} {H H' : Hp} {o : HO} (k : Kept a H H') (hD : H D = none) : Kept a H (L2.upd H' D o) := fun x u n e => by
  rw [upd_ne (ne_of_none e hD)]
  exact k x u n e
end Q
set_option Elab.async false
set_option linter.all false
set_option maxRecDepth 100000
set_option maxHeartbeats 4000000
/-! ### _law_table, _law_ban -/
namespace Q
open PySem L2 XD
theorem sqZ_flw {H H' : Hp} {a b q : Addr} {xs : List V} (F : Flw b H a) (k : Kept a H H') (h : SqZ H q xs) : SqZ H' q xs := by
  obtain ⟨ys, e⟩ := F.lst
  obtain ⟨o, h, d⟩ := h
  refine ⟨o, k _ _ (fun z => ?_) h, d⟩
  rw [z, e] at h
  cases h
theorem TabR.flw {K : PySem.W.Frag} {H H' : Hp} {a b : Addr} (F : Flw b H a) (s : Kept a H H') : ∀ {ps : List Addr} {kvs : List (Key × V)} {t : List (Str × List Str)}, TabR K H ps kvs t → TabR K H' ps kvs t
  | _, _, _, .nil => .nil
  | _, _, _, .cons a b o c => .cons (seqT_flw F s a) (seqT_flw F s b) o (TabR.flw F s c)
theorem prd_flw {K : PySem.W.Frag} {H H' : Hp} {a b : Addr} (F : Flw b H a) (s : Kept a H H') : ∀ {qs : List Addr} {r : List (Str × Str)}, Paired (fun q (e : Str × Str) => SqT K H q [.str e.1, .str e.2]) qs r → Paired (fun q (e : Str × Str) => SqT K H' q [.str e.1, .str e.2]) qs r
  | _, _, .nil => .nil
  | _, _, .cons a b => .cons (seqT_flw F s a) (prd_flw F s b)
theorem RuleAt.flw {K : PySem.W.Frag} {H H' : Hp} {a b p : Addr} {r : List (Str × Str)} (F : Flw b H a) (s : Kept a H H') (h : RuleAt K H p r) : RuleAt K H' p r := by
  obtain ⟨qs, h1, h2⟩ := h
  exact ⟨qs, sqZ_flw F s h1, prd_flw F s h2⟩
/-- a good table whose fields have so many values -/
structure Tb (t : List (Str × List Str)) (ms : List Nat) : Prop where
  sz : t.map (fun e => e.2.length) = ms
  nm : Wds (t.map (·.1))
  vs : ∀ e ∈ t, Wds e.2
def spTable (K : PySem.W.Frag) : Sp := fun vs H Q _ => ∃ (a b p : Addr) (ms : List Nat), vs = [.ref a, .ref p] ∧ Flw b H a ∧ H p = some (.lst (ms.map fun (m : Nat) => V.int m)) ∧ p ≠ a ∧ ms.length ≤ 7 ∧ (∀ m ∈ ms, m ≤ 7) ∧
  ∀ (D : Addr) (ps : List Addr) (kvs : List (Key × V)) (t : List (Str × List Str)) (H' : Hp), H D = none → H' D = some (.lst (ps.map V.ref)) → TabR K H' ps kvs t → Tb t ms → Flw b H' a → Kept a H H' → Q (.ref D) H'
end Q
set_option Elab.async false
set_option linter.all false
set_option maxRecDepth 100000
set_option maxHeartbeats 4000000
/-! ### _law_ban -/
namespace Q
open PySem L2 XD
/-- a rule over the table -/
structure Ban (t : List (Str × List Str)) (m : Nat) (r : List (Str × Str)) : Prop where
  lo : 1 ≤ r.length
  hi : r.length ≤ m
  nd : (r.map (·.1)).Nodup
  of : ∀ e ∈ r, ∃ ws, (e.1, ws) ∈ t ∧ e.2 ∈ ws
theorem TabR.flen {K : PySem.W.Frag} {H : Hp} {ps : List Addr} {kvs : List (Key × V)} {t : List (Str × List Str)} (h : TabR K H ps kvs t) : ps.length = t.length := h.len.1
theorem TabR.get {K : PySem.W.Frag} {H : Hp} {ps : List Addr} {kvs : List (Key × V)} {t : List (Str × List Str)} {i : Nat} {e : Str × List Str} (h : TabR K H ps kvs t) (he : t[i]? = some e) :
    ∃ q v, (ps.map V.ref)[i]? = some (.ref q) ∧ SqT K H q [.str e.1, .ref v] ∧ SqT K H v (e.2.map V.str) := by
  have hi : i < t.length := (List.getElem?_eq_some_iff.mp he).1
  have hi2 : i < (ps.map V.ref).length := by rw [List.length_map, h.flen]; exact hi
  obtain ⟨q, v, n, ws, h1, h2, h3, h4⟩ := h.at (List.getElem?_eq_getElem hi2)
  rw [he] at h2
  cases h2
  exact ⟨q, v, by rw [← h1]; exact List.getElem?_eq_getElem hi2, h3, h4⟩
theorem nodup_take {U L : List Nat} {k y : Nat} (h : (U ++ L).Nodup) (hy : L[k]? = some y) : ((U ++ [y]) ++ L.eraseIdx k).Nodup := by
  obtain ⟨hk, e⟩ := List.getElem?_eq_some_iff.mp hy
  have e1 : L = L.take k ++ y :: L.drop (k + 1) := by
    rw [← e, ← List.drop_eq_getElem_cons hk, List.take_append_drop]
  rw [List.eraseIdx_eq_take_drop_succ]
  have p : (U ++ L).Perm ((U ++ [y]) ++ (L.take k ++ L.drop (k + 1))) := by
    conv => lhs; rw [e1]
    rw [List.append_assoc]
    exact (List.Perm.append_left U List.perm_middle)
  exact p.nodup_iff.mp h
theorem map_erase {α β : Type} (f : α → β) : ∀ (l : List α) (k : Nat), (l.map f).eraseIdx k = (l.eraseIdx k).map f
  | [], _ => rfl
  | _ :: _, 0 => rfl
  | x :: l, k + 1 => by
    show f x :: (l.map f).eraseIdx k = f x :: (l.eraseIdx k).map f
    rw [map_erase f l k]
def spBan (K : PySem.W.Frag) : Sp := fun vs H Q _ => ∃ (a b p : Addr) (ps : List Addr) (kvs : List (Key × V)) (t : List (Str × List Str)) (m : Nat), vs = [.ref a, .ref p, .int m] ∧ Flw b H a ∧ (SqL K H p (ps.map V.ref) ∨ SqT K H p (ps.map V.ref)) ∧ p ≠ a ∧ TabR K H ps kvs t ∧
  1 ≤ t.length ∧ t.length ≤ 7 ∧ (t.map (·.1)).Nodup ∧ (∀ e ∈ t, 1 ≤ e.2.length ∧ e.2.length ≤ 7) ∧ 1 ≤ m ∧ m ≤ 7 ∧
  ∀ (z : Addr) (r : List (Str × Str)) (H' : Hp), RuleAt K H' z r → Ban t m r → Flw b H' a → Kept a H H' → Q (.ref z) H'
end Q
set_option Elab.async false
set_option linter.all false
set_option maxRecDepth 100000
set_option maxHeartbeats 4000000
/-! A tuple turned by [::-1], kept as it is made. -/
namespace XR
open PySem PySem.Spec PyProof.Rows HT L2 XD
section
variable {prog : Program} {w : World} {A : Around} {E : Value → Shared → Prop} {s : Shared}
theorem back_places (n : Nat) : Builtin.Slice.slicePlaces ((n : Int) - 1) (-1) (-1) = n := by
  unfold Builtin.Slice.slicePlaces
  have h1 : ¬ ((-1 : Int) > 0) := by decide
  simp only [h1, if_false]
  by_cases h : (n : Int) - 1 > -1
  · have e : ((n : Int) - 1 - -1 - 1) / (- -1) = (n : Int) - 1 := by
      rw [show (- -1 : Int) = 1 by decide, Int.ediv_one]
      omega
    simp only [h, if_true, e]
    omega
  · have e : n = 0 := by omega
    subst e
    simp
theorem back_adjust (n : Nat) : Builtin.Slice.sliceAdjust none none (-1) (n : Int) = ((n : Int) - 1, -1) := by
  unfold Builtin.Slice.sliceAdjust
  have h1 : ((-1 : Int) < 0) := by decide
  simp only [h1, if_true]
theorem back_pick (xs : Array Value) : ((List.range xs.size).filterMap fun (k : Nat) => xs[((xs.size : Int) - 1 + (k : Int) * (-1)).toNat]?).toArray = xs.toList.reverse.toArray := by
  have e : (fun (k : Nat) => xs[((xs.size : Int) - 1 + (k : Int) * (-1)).toNat]?) = fun k => xs[xs.size - 1 - k]? := by
    funext k
    by_cases h : k < xs.size
    · have : ((xs.size : Int) - 1 + (k : Int) * (-1)).toNat = xs.size - 1 - k := by omega
      rw [this]
    · have : ((xs.size : Int) - 1 + (k : Int) * (-1)).toNat = xs.size - 1 - k := by omega
      rw [this]
  rw [e]
  have e2 : (fun (k : Nat) => xs[xs.size - 1 - k]?) = (fun x => xs[x]?) ∘ (fun k => xs.size - 1 - k) := rfl
  rw [e2, ← List.filterMap_map, PySem.W.krv_range, List.filterMap_reverse, PySem.W.krv_all]
theorem sliceApplied_back {sl : Addr} {vk : Value} {n : Nat} {Q : Int × Int × Nat → Shared → Prop} (hs : s.heap.IsSliceOf sl .none .none vk) (pk : IsPart vk (some (-1)))
    (h : Q ((n : Int) - 1, -1, n) s) : wpAny (model prog w) A (Builtin.Slice.sliceApplied (.ref sl) (pure (n : Int))) Q E s := by
  obtain ⟨os, hos, hcs, hds⟩ := id hs
  unfold Builtin.Slice.sliceApplied Builtin.Slice.sliceFields
  refine wpAny_bind (wpAny_bind (wpAny_field hos hds (x := .none) rfl (wpAny_bind (wpAny_field hos hds (x := .none) rfl (wpAny_bind (wpAny_field hos hds (x := vk) rfl (wpAny_pure ?_)))))))
  refine wpAny_bind (slicePart_ pk ?_)
  show wpAny _ _ (if ((-1 : Int) == 0) = true then _ else _) _ _ s
  rw [if_neg (by decide)]
  refine wpAny_bind (slicePart_ .none (wpAny_bind (slicePart_ .none (wpAny_bind (wpAny_pure ?_)))))
  show wpAny _ _ (match Builtin.Slice.sliceAdjust none none (-1) (n : Int) with | (lo, hi) => pure (lo, (-1 : Int), Builtin.Slice.slicePlaces lo hi (-1))) _ _ s
  rw [back_adjust n]
  show wpAny _ _ (pure ((n : Int) - 1, (-1 : Int), Builtin.Slice.slicePlaces ((n : Int) - 1) (-1) (-1))) _ _ s
  rw [back_places]
  exact wpAny_pure h
theorem getItem_tuple_back {t sl : Addr} {items : Array Value} {vk : Value} {Q : Value → Shared → Prop} (ht : IsTup s.heap t items) (hs : s.heap.IsSliceOf sl .none .none vk) (pk : IsPart vk (some (-1)))
    (h : Q (.ref s.heap.objs.size) { s with heap := s.heap.push { cls := .type "tuple", data := .seq items.toList.reverse.toArray } })
    (hsz : items.size ≤ sizeLine) : wpAny (model prog w) A (getItem (.ref t) (.ref sl)) Q E s := by
  have htake : sizeOk (.seq items.toList.reverse.toArray) := by
    show items.toList.reverse.toArray.size ≤ sizeLine
    rw [List.size_toArray, List.length_reverse, Array.length_toList]
    exact hsz
  obtain ⟨os, hos, hcs, hds⟩ := id hs
  have hTs : s.TypeIs (.ref sl) "slice" := ⟨os, hos, hcs⟩
  unfold getItem
  try with_reducible refine wpAny_holding ?_
  first | refine wpAny_bind (wpAny_pure ?_) | skip
  refine wpAny_bind (wpAny_sequenceKey ht.typeIs (by decide) ?_)
  refine wpAny_bind (wpAny_callSpecial?_slot (name := Str.ofString "__getitem__") ht.typeIs PyProof.Rows.slot_tuple_getitem
    (wpAny_call_entry PyProof.Rows.slot_tuple_getitem ht.typeIs entry_tuple_getitem ?_ (args_tuple_getitem _ _)))
  show wpAny _ _ (Builtin.Tuple.tupleItemsOf (.ref t) >>= _) _ _ s
  refine wpAny_bind (tupleItemsOf_ ht ?_)
  refine wpAny_bind (wpAny_typeOf hTs ?_)
  rw [if_pos (by decide)]
  refine wpAny_bind (sliceApplied_back hs pk ?_)
  have hno : ¬ ((((items.size : Int) - 1 : Int) == 0 && (-1 : Int) == 1 && items.size == items.size) = true) := by
    intro q
    rw [Bool.and_eq_true, Bool.and_eq_true] at q
    exact absurd q.1.2 (by decide)
  show wpAny _ _ (if (((items.size : Int) - 1 : Int) == 0 && (-1 : Int) == 1 && items.size == items.size) = true then _ else _) _ _ s
  rw [if_neg hno, back_pick]
  first
    | exact wpAny_bind (m := Builtin.Tuple.tupleExact _) (wpAny_newObj_type (wpAny_pure ⟨_, rfl, wpAny_pure h⟩) htake)
    | exact wpAny_bind (m := Builtin.Tuple.tupleExact _) (wpAny_newObj_type (wpAny_bind (wpAny_pure (wpAny_pure ⟨_, rfl, wpAny_pure h⟩))) htake)
    | exact wpAny_bind (wpAny_bind (m := Builtin.Tuple.tupleExact _) (wpAny_newObj_type (wpAny_pure (wpAny_pure ⟨_, rfl, wpAny_pure h⟩)) htake))
    | exact wpAny_bind (wpAny_bind (m := Builtin.Tuple.tupleExact _) (wpAny_newObj_type (wpAny_pure ⟨_, rfl, wpAny_pure h⟩) htake))
end
section
variable {X : Cx}
/-- t[::-1] -/
def tRevT (K : PySem.W.Frag) (te : TE) : TE := fun σ H Q => te σ H fun x H1 => ∃ a xs, x = .ref a ∧ SqT K H1 a xs ∧ ∀ p o, H1 p = none → o.dict = none → Q (.ref p) (upd H1 p (.frz o (.tup xs.reverse)))
theorem pe_revT {e : Expr} {te : TE} {k : Nat} {p1 p2 p3 pos : Pos} (he : PE X e te) : PE X (.Subscript e (.Slice none none (some (.UnaryOp .USub (.Constant (.int 1) k p1) p2)) p3) pos) (tRevT X.K te) := by
  refine ⟨fun pins s σ H Q I h => ?_⟩
  refine Subscript_ (thn (he.run pins s σ H _ I h) fun v s1 ⟨x, H1, I1, r1, q1⟩ => ?_)
  obtain ⟨a, xs, ex, hx, q⟩ := q1
  subst ex
  cases r1
  have hst : PO X (some (.UnaryOp .USub (.Constant (.int 1) k p1) p2)) (tPart (tUn (rU fun i => .int (-i)) (tC (.int 1)))) := po_some (pe_un un_neg pe_int)
  refine wpAny_Slice (thn (po_none.run pins s1 σ H1 (fun o H2 => o = none ∧ H2 = H1) I1 ⟨rfl, rfl⟩) fun vl s2 ⟨l, H2, I2, pl, el, e2⟩ => ?_)
  subst el e2
  refine thn (po_none.run pins s2 σ H2 (fun o H3 => o = none ∧ H3 = H2) I2 ⟨rfl, rfl⟩) fun vu s3 ⟨u, H3, I3, pu, eu, e3⟩ => ?_
  subst eu e3
  refine thn (hst.run pins s3 σ H3 (fun o H4 => o = some (-1) ∧ H4 = H3) I3 ⟨1, rfl, -1, rfl, rfl, rfl⟩) fun vs s4 ⟨o, H4, I4, ps, eo, e4⟩ => ?_
  subst eo e4
  cases pl
  cases pu
  have I5 : Inv X pins σ H4 { s4 with heap := s4.heap.push { cls := .type "slice", data := .fields #[.none, .none, vs] } } := I4.kept (t' := s4.toks) fun b ob q => Heap.get?_push_of_some _ q
  obtain ⟨its, r, ht, hz⟩ := I5.tuple hx
  have hlen := r.length
  show wpAny (model X.prog X.w) X.A (subscriptTail e (.Slice none none (some (.UnaryOp .USub (.Constant (.int 1) k p1) p2)) p3) (.ref a) (.ref s4.heap.objs.size)) (EP X pins σ Q) X.xe { s4 with heap := s4.heap.push { cls := .type "slice", data := .fields #[.none, .none, vs] } }
  refine tail_any (ops := [.ref a, .ref s4.heap.objs.size]) ht.typeIs (PyProof.Rows.slot_tuple_getitem.lookup) ?_ (by with_unfolding_all rfl)
  refine getItem_tuple_back ht (Heap.IsSliceOf.new _ .none .none vs) ps ?_ (by rw [List.size_toArray]; omega)
  refine ⟨.ref _, _, I5.laid (t' := s4.toks) (o := .frz { cls := .type "tuple", data := .seq its.reverse.toArray } (.tup xs.reverse)) (fun b ob q => Heap.get?_push_of_some _ q) (Nat.le_refl _) ?_, rfl, q _ _ (I5.hok.fresh (Nat.le_refl _)) rfl⟩
  exact ⟨Heap.get?_push_size _ rfl, by rw [List.length_reverse]; exact hz, _, r.reverse, IsTup.new _ _⟩
theorem pe_revTK {e : Expr} {te : TE} {k : Nat} {p1 p2 p3 pos : Pos} (K : PySem.W.Frag) (h : X.K = K) (he : PE X e te) : PE X (.Subscript e (.Slice none none (some (.UnaryOp .USub (.Constant (.int 1) k p1) p2)) p3) pos) (tRevT K te) := by
  subst h
  exact pe_revT he
end
end XR
set_option Elab.async false
set_option linter.all false
set_option maxRecDepth 100000
set_option maxHeartbeats 4000000
/-! ### what good data come to -/
namespace Q
open PySem L2 XD
theorem prd_mem {α β : Type} {R : α → β → Prop} : ∀ {xs : List α} {ys : List β}, Paired R xs ys → ∀ x ∈ xs, ∃ y ∈ ys, R x y
  | _, _, .nil, x, h => absurd h List.not_mem_nil
  | _, _, .cons a b, x, h => by
    rcases List.mem_cons.mp h with rfl | h
    · exact ⟨_, List.mem_cons_self, a⟩
    · obtain ⟨y, h1, h2⟩ := prd_mem b x h
      exact ⟨y, List.mem_cons_of_mem _ h1, h2⟩
theorem prd_map {α β γ : Type} {R : α → β → Prop} {f : α → γ} {g : β → γ} (h : ∀ x y, R x y → f x = g y) : ∀ {xs : List α} {ys : List β}, Paired R xs ys → xs.map f = ys.map g
  | _, _, .nil => rfl
  | _, _, .cons a b => by rw [List.map_cons, List.map_cons, h _ _ a, prd_map h b]
/-- data that tell the table -/
def FTab (t : List (Str × List Str)) (d : PyData) : Prop := ∃ fs, rowOf d = some fs ∧ Paired (fun f (e : Str × List Str) => ∃ b, pairOf f = some (.str e.1, b) ∧ rowOf b = some (e.2.map PyData.str)) fs t
def FRule (r : List (Str × Str)) (d : PyData) : Prop := ∃ gs, rowOf d = some gs ∧ Paired (fun g (e : Str × Str) => pairOf g = some (.str e.1, .str e.2)) gs r
def FRules (rs : List (List (Str × Str))) (d : PyData) : Prop := ∃ fs, rowOf d = some fs ∧ Paired (fun f r => FRule r f) fs rs
structure TabOk (t : List (Str × List Str)) : Prop where
  lo : 1 ≤ t.length
  hi : t.length ≤ 6
  nm : Wds (t.map (·.1))
  vs : ∀ e ∈ t, Wds e.2 ∧ 1 ≤ e.2.length ∧ e.2.length ≤ 5
theorem texts_str (ws : List Str) : textsOf (ws.map PyData.str) = ws := by
  unfold textsOf
  rw [List.map_map]
  exact List.map_id _
theorem all_strs {ws : List Str} (h : ∀ x ∈ ws, word x = true) : (ws.map PyData.str).all isWord = true :=
  List.all_eq_true.mpr fun d hd => by
    obtain ⟨x, hx, rfl⟩ := List.mem_map.mp hd
    exact h x hx
theorem unlike_strs {ws : List Str} (h : Wds ws) : unlike (ws.map PyData.str) = true := by
  unfold unlike
  rw [all_strs h.2, texts_str, decide_eq_true h.1]
  rfl
theorem values_strs {b : PyData} {ws : List Str} (e : rowOf b = some (ws.map PyData.str)) (h : Wds ws) (h1 : 1 ≤ ws.length) (h5 : ws.length ≤ 5) : areValues b = true := by
  unfold areValues
  rw [e]
  show (decide (1 ≤ (ws.map PyData.str).length) && (decide ((ws.map PyData.str).length ≤ 5) && unlike (ws.map PyData.str))) = true
  rw [List.length_map, decide_eq_true h1, decide_eq_true h5, unlike_strs h]
  rfl
theorem short_word {x : Str} (h : word x = true) : Short (.str x) := by
  show x.length ≤ 1000000
  have := word_len h
  omega
theorem tab_fields {t : List (Str × List Str)} {d : PyData} (h : FTab t d) (T : TabOk t) : areFields d = true ∧ tabOf d = t ∧ FShort d := by
  obtain ⟨fs, e, hp⟩ := h
  have hl : fs.length = t.length := prd_len hp
  have e1 : fs.map firstOf = (t.map (·.1)).map PyData.str := by
    rw [List.map_map]
    refine prd_map (fun f e h => ?_) hp
    obtain ⟨b, h1, _⟩ := h
    unfold firstOf
    rw [h1]
    rfl
  have e2 : fs.map entryOf = t := by
    conv => rhs; rw [← List.map_id t]
    refine prd_map (fun f e h => ?_) hp
    obtain ⟨b, h1, h2⟩ := h
    unfold entryOf
    rw [h1]
    show (strOf (.str e.1), match rowOf b with | some ws => textsOf ws | none => []) = e
    rw [h2]
    show (e.1, textsOf (e.2.map PyData.str)) = e
    rw [texts_str]
  have e3 : fs.all fieldOk = true := List.all_eq_true.mpr fun f hf => by
    obtain ⟨e, he, b, h1, h2⟩ := prd_mem hp f hf
    obtain ⟨h3, h4, h5⟩ := T.vs e he
    unfold fieldOk
    rw [h1]
    exact values_strs h2 h3 h4 h5
  refine ⟨?_, ?_, fun fs' ef f hf a b ep => ?_⟩
  · unfold areFields
    rw [e]
    show (decide (1 ≤ fs.length) && (decide (fs.length ≤ 6) && (fs.all fieldOk && unlike (fs.map firstOf)))) = true
    have l1 := T.lo
    have l6 := T.hi
    rw [e1, e3, unlike_strs T.nm, decide_eq_true (by omega : 1 ≤ fs.length), decide_eq_true (by omega : fs.length ≤ 6)]
    rfl
  · unfold tabOf
    rw [e]
    exact e2
  · rw [e] at ef
    cases ef
    obtain ⟨e, he, b', h1, h2⟩ := prd_mem hp f hf
    rw [ep] at h1
    cases h1
    refine ⟨short_word (T.nm.2 _ (List.mem_map.mpr ⟨e, he, rfl⟩)), fun ws ew w hw => ?_⟩
    rw [h2] at ew
    cases ew
    obtain ⟨x, hx, rfl⟩ := List.mem_map.mp hw
    exact short_word ((T.vs e he).1.2 x hx)
theorem look_of {n : Str} {ws : List Str} : ∀ {t : List (Str × List Str)}, (t.map (·.1)).Nodup → (n, ws) ∈ t → look n t = some ws
  | (m, us) :: t, hn, h => by
    rw [List.map_cons, List.nodup_cons] at hn
    unfold look
    by_cases e : m = n
    · rw [if_pos e]
      subst e
      rcases List.mem_cons.mp h with h | h
      · cases h
        rfl
      · exact absurd (List.mem_map.mpr ⟨_, h, rfl⟩) hn.1
    · rw [if_neg e]
      rcases List.mem_cons.mp h with h | h
      · cases h
        exact absurd rfl e
      · exact look_of hn.2 h
theorem stands_of {ws : List Str} {x : Str} (h : x ∈ ws) : stands ws (.str x) = true := by
  unfold stands
  refine List.any_eq_true.mpr ⟨.str x, List.mem_map.mpr ⟨x, h, rfl⟩, ?_⟩
  rw [PyData.eqv]
  simp
theorem go_of {t : List (Str × List Str)} (hn : (t.map (·.1)).Nodup) : ∀ {gs : List PyData} {r : List (Str × Str)} {seen : List Str}, Paired (fun g (e : Str × Str) => pairOf g = some (.str e.1, .str e.2)) gs r →
    (r.map (·.1)).Nodup → (∀ e ∈ r, e.1 ∉ seen) → (∀ e ∈ r, ∃ ws, (e.1, ws) ∈ t ∧ e.2 ∈ ws) → goFacts t seen gs = true
  | _, _, _, .nil, _, _, _ => rfl
  | _, e :: r, seen, .cons a b, h1, h2, h3 => by
    obtain ⟨ws, h4, h5⟩ := h3 e List.mem_cons_self
    rw [List.map_cons, List.nodup_cons] at h1
    have hc : seen.contains e.1 = false := by
      cases q : seen.contains e.1 with
      | false => rfl
      | true => exact absurd (by simpa using q) (h2 e List.mem_cons_self)
    rw [go_old a (look_of hn h4), hc, stands_of h5]
    refine go_of hn b h1.2 (fun f hf z => ?_) (fun f hf => h3 f (List.mem_cons_of_mem _ hf))
    rcases List.mem_cons.mp z with z | z
    · exact h1.1 (List.mem_map.mpr ⟨f, hf, z⟩)
    · exact h2 f (List.mem_cons_of_mem _ hf) z
theorem str_shaped {x : Str} (h : PyData.strOk x = true) : SeqAt.shaped (.str x) = true := by
  unfold SeqAt.shaped
  rw [Bool.and_eq_true]
  refine ⟨?_, ?_⟩
  · simpa [PyData.canLay0] using h
  · simp [PyData.depth]
theorem ban_facts {t : List (Str × List Str)} {r : List (Str × Str)} {m : Nat} {d : PyData} (hn : (t.map (·.1)).Nodup) (B : Ban t m r) (h : FRule r d) : areFacts t d = true ∧ ∃ gs, rowOf d = some gs ∧ gs.length = r.length ∧ factsOf d = r := by
  obtain ⟨gs, e, hp⟩ := h
  have hl : gs.length = r.length := prd_len hp
  have hle : r.length ≤ t.length := by
    have h1 : r.map (·.1) ⊆ t.map (·.1) := fun x hx => by
      obtain ⟨e, he, rfl⟩ := List.mem_map.mp hx
      obtain ⟨ws, h2, _⟩ := B.of e he
      exact List.mem_map.mpr ⟨_, h2, rfl⟩
    have := List.Nodup.length_le_of_subset B.nd h1
    rwa [List.length_map, List.length_map] at this
  refine ⟨?_, gs, e, hl, ?_⟩
  · unfold areFacts
    rw [e]
    show (decide (gs.length ≤ t.length) && goFacts t [] gs) = true
    rw [decide_eq_true (by omega : gs.length ≤ t.length), go_of hn hp B.nd (fun _ _ z => by cases z) B.of]
    rfl
  · unfold factsOf
    rw [e]
    show gs.map factOf = r
    conv => rhs; rw [← List.map_id r]
    refine prd_map (fun g e h => ?_) hp
    unfold factOf
    rw [h]
    rfl
theorem ban_ok {t : List (Str × List Str)} {r : List (Str × Str)} {d : PyData} (hn : (t.map (·.1)).Nodup) (B : Ban t 4 r) (h : FRule r d) : ruleOk t d = true := by
  obtain ⟨h1, gs, e, hl, _⟩ := ban_facts hn B h
  rw [ruleOk_yes e h1, decide_eq_true (by have := B.lo; omega : 1 ≤ gs.length), decide_eq_true (by have := B.hi; omega : gs.length ≤ 4)]
  rfl
theorem rule_fok {t : List (Str × List Str)} {m : Nat} {r : List (Str × Str)} {d : PyData} (T : TabOk t) (B : Ban t m r) (h : FRule r d) : FOk d := by
  obtain ⟨gs, e, hp⟩ := h
  intro fs ef f hf a b ep
  rw [e] at ef
  cases ef
  obtain ⟨e, he, h1⟩ := prd_mem hp f hf
  rw [ep] at h1
  cases h1
  obtain ⟨ws, h2, h3⟩ := B.of e he
  exact str_shaped (word_ok ((T.vs _ h2).1.2 _ h3))
theorem rules_rules {t : List (Str × List Str)} {rs : List (List (Str × Str))} {d : PyData} (h : FRules rs d) (T : TabOk t) (hb : ∀ r ∈ rs, Ban t 4 r) (hl : rs.length ≤ 20) : areRules t d = true ∧ rulesOf d = rs ∧ ROk d := by
  obtain ⟨fs, e, hp⟩ := h
  have hlen : fs.length = rs.length := prd_len hp
  refine ⟨?_, ?_, fun fs' ef f hf => ?_⟩
  · unfold areRules
    rw [e]
    show (decide (fs.length ≤ 20) && fs.all (ruleOk t)) = true
    rw [decide_eq_true (by omega : fs.length ≤ 20), Bool.true_and]
    refine List.all_eq_true.mpr fun f hf => ?_
    obtain ⟨r, hr, h1⟩ := prd_mem hp f hf
    exact ban_ok T.nm.1 (hb r hr) h1
  · unfold rulesOf
    rw [e]
    show fs.map factsOf = rs
    have : ∀ {fs : List PyData} {rs : List (List (Str × Str))}, Paired (fun f r => FRule r f) fs rs → (∀ r ∈ rs, Ban t 4 r) → fs.map factsOf = rs := by
      intro fs rs hp
      induction hp with
      | nil => intro _; rfl
      | cons a b ih =>
        intro hb
        rw [List.map_cons, ih (fun r hr => hb r (List.mem_cons_of_mem _ hr))]
        obtain ⟨_, _, _, _, h3⟩ := ban_facts T.nm.1 (hb _ List.mem_cons_self) a
        rw [h3]
    exact this hp hb
  · rw [e] at ef
    cases ef
    obtain ⟨r, hr, h1⟩ := prd_mem hp f hf
    exact rule_fok T (hb r hr) h1
theorem made_good {t : List (Str × List Str)} {rs : List (List (Str × Str))} {dF dR : PyData} (hF : FTab t dF) (hR : FRules rs dR) (T : TabOk t) (hb : ∀ r ∈ rs, Ban t 4 r) (hl : rs.length ≤ 20) :
    made dF dR = if 1000 < waysFrom 1 t then .many else .form t (once (rs.map (bySeq t))) := by
  obtain ⟨h1, h2, _⟩ := tab_fields hF T
  obtain ⟨h3, h4, _⟩ := rules_rules hR T hb hl
  unfold made
  rw [h2, if_pos h1, if_pos h3, h4]
  have : rs.map (sorted t) = rs.map (bySeq t) := List.map_congr_left fun r hr => sorted_bySeq (hb r hr).nd t
  rw [this]
/-- what a wrong table, a wrong rule comes to -/
theorem made_bad0 {dF dR : PyData} (h : areFields dF = false) : made dF dR = .bad 0 := by
  unfold made
  rw [if_neg (by rw [h]; exact fun z => by cases z)]
theorem made_bad1 {t : List (Str × List Str)} {dF dR : PyData} (hF : FTab t dF) (T : TabOk t) (h : areRules t dR = false) : made dF dR = .bad 1 := by
  obtain ⟨h1, h2, _⟩ := tab_fields hF T
  unfold made
  rw [if_pos h1, h2, if_neg (by rw [h]; exact fun z => by cases z)]
end Q
set_option Elab.async false
set_option linter.all false
set_option maxRecDepth 100000
set_option maxHeartbeats 4000000
/-! ### a form is made of good data -/
namespace Q
open PySem L2 XD
theorem passF {P : Program} {w : World} {X : Cx} : Passes (L2N.CX P w) X E0 := fun _ _ _ _ _ _ _ x => by
  obtain ⟨_, _, _, _, _, _, _, _, _, _, _, _, z⟩ := x
  exact z.elim
def kwG {α : Type} : List α → List α → List α
  | [x], [r, t] => [x, t, r]
  | _, _ => []
theorem kbn_init {K : PySem.W.Frag} {f : Addr} {fd : FuncData} (F : Fun K "__init__" "Form.__init__" sInit f fd) : KBn K fd ["self", "fields", "rules"] 1 ["rules", "fields"] kwG kwG := by
  obtain ⟨oc, od, kV, doc, pm, an, cdv, ct, osl, rfl, lk, hcd⟩ := F.ex
  refine ⟨fun s us ws X l1 l2 => ?_, fun {vs us zs ws} r1 r2 => ?_⟩
  · match us, ws, l1, l2 with
    | [x], [r, t], _, _ => exact BindsTo.of_eq rfl
  · cases r1 with
    | nil => exact .nil
    | cons a b =>
      cases b with
      | cons _ _ => exact .nil
      | nil =>
        cases r2 with
        | nil => exact .nil
        | cons c d =>
          cases d with
          | nil => exact .nil
          | cons e f =>
            cases f with
            | nil => exact .cons a (.cons e (.cons c .nil))
            | cons _ _ => exact .nil
/-- what a table and bans are handed in as -/
structure Hand (K : PySem.W.Frag) (H : Hp) (t : List (Str × List Str)) (rs : List (List (Str × Str))) (vF vR : V) (dF dR : PyData) : Prop where
  dpF : Dp K H vF dF
  dpR : Dp K H vR dR
  ft : FTab t dF
  fr : FRules rs dR
  rz : RZ K H vR dR
structure Good (t : List (Str × List Str)) (rs : List (List (Str × Str))) : Prop where
  tb : TabOk t
  bs : ∀ r ∈ rs, Ban t 4 r
  ln : rs.length ≤ 20
  ws : waysFrom 1 t ≤ 1000
theorem Hand.same {K : PySem.W.Frag} {H H' : Hp} {t : List (Str × List Str)} {rs : List (List (Str × Str))} {vF vR : V} {dF dR : PyData} (s : Same H H') (h : Hand K H t rs vF vR dF dR) : Hand K H' t rs vF vR dF dR :=
  ⟨dp_same s h.dpF, dp_same s h.dpR, h.ft, h.fr, h.rz.same s⟩
theorem init_good {K : PySem.W.Frag} {H : Hp} {C CV CM : Addr} {t : List (Str × List Str)} {rs : List (List (Str × Str))} {vF vR : V} {dF dR : PyData} {Q0 : VK} {E : XK} (G : Good t rs) (h : Hand K H t rs vF vR dF dR)
    {x dx : Addr} (hx : H x = none) (hdx : H dx = none) (hne : dx ≠ x) (k : ∀ pf pr H', Same H H' → FormAt C H' x pf pr → TabAt K H' pf t → RulesAt K H' pr (once (rs.map (bySeq t))) → Q0 .non H') :
    spInit K C CV CM [.ref x, vF, vR] (L2.upd (L2.upd H dx (.own x)) x (.ins C dx [])) Q0 E := by
  have s0 : Same H (L2.upd (L2.upd H dx (.own x)) x (.ins C dx [])) := fun b o e => by
    rw [upd_ne (ne_of_none e hx), upd_ne (ne_of_none e hdx)]
    exact e
  obtain ⟨h1, h2, h3⟩ := tab_fields h.ft G.tb
  obtain ⟨h4, h5, h6⟩ := rules_rules h.fr G.tb G.bs G.ln
  have em : made dF dR = .form t (once (rs.map (bySeq t))) := by
    rw [made_good h.ft h.fr G.tb G.bs G.ln, if_neg (by have := G.ws; omega)]
  refine ⟨x, dx, vF, vR, dF, dR, rfl, upd_same, dp_same s0 h.dpF, dp_same s0 h.dpR, h3, h6, fun _ _ _ => h.rz.same s0, ?_⟩
  rw [em]
  intro pf pr H' hk f1 f2 f3
  exact k pf pr H' (fun b o e => hk b o (ne_of_none e hx) (s0 _ _ e)) f1 f2 f3
/-- as tuples in a list or a tuple -/
structure TabIn (K : PySem.W.Frag) (H : Hp) (p : Addr) (ps : List Addr) (kvs : List (Key × V)) (t : List (Str × List Str)) : Prop where
  at_ : SqL K H p (ps.map V.ref) ∨ SqT K H p (ps.map V.ref)
  rw_ : TabR K H ps kvs t
structure BansIn (K : PySem.W.Frag) (H : Hp) (q : Addr) (qs : List Addr) (rs : List (List (Str × Str))) : Prop where
  at_ : SqL K H q (qs.map V.ref) ∨ SqT K H q (qs.map V.ref)
  rw_ : Paired (RuleAt K H) qs rs
theorem TabIn.same {K : PySem.W.Frag} {H H' : Hp} {p : Addr} {ps : List Addr} {kvs : List (Key × V)} {t : List (Str × List Str)} (s : Same H H') (h : TabIn K H p ps kvs t) : TabIn K H' p ps kvs t := ⟨sq_same s h.at_, h.rw_.same s⟩
theorem BansIn.same {K : PySem.W.Frag} {H H' : Hp} {q : Addr} {qs : List Addr} {rs : List (List (Str × Str))} (s : Same H H') (h : BansIn K H q qs rs) : BansIn K H' q qs rs := ⟨sq_same s h.at_, rules_same s h.rw_⟩
theorem tab_pair : ∀ t : List (Str × List Str), Paired (fun f (e : Str × List Str) => ∃ b, pairOf f = some (.str e.1, b) ∧ rowOf b = some (e.2.map PyData.str)) (t.map entryD) t
  | [] => .nil
  | e :: t => .cons ⟨_, rfl, rfl⟩ (tab_pair t)
theorem rule_pair : ∀ r : List (Str × Str), Paired (fun g (e : Str × Str) => pairOf g = some (.str e.1, .str e.2)) (r.map fun e => .tuple [.str e.1, .str e.2]) r
  | [] => .nil
  | e :: r => .cons rfl (rule_pair r)
theorem rules_pair : ∀ rs : List (List (Str × Str)), Paired (fun f r => FRule r f) (rs.map ruleD) rs
  | [] => .nil
  | r :: rs => .cons ⟨_, rfl, rule_pair r⟩ (rules_pair rs)
/-- what the table, the bans are as data -/
def isTab (t : List (Str × List Str)) (d : PyData) : Prop := d = .list (t.map entryD) ∨ d = .tuple (t.map entryD)
def isBans (rs : List (List (Str × Str))) (d : PyData) : Prop := d = .list (rs.map ruleD) ∨ d = .tuple (rs.map ruleD)
theorem TabIn.dp {K : PySem.W.Frag} {H : Hp} {p : Addr} {ps : List Addr} {kvs : List (Key × V)} {t : List (Str × List Str)} (h : TabIn K H p ps kvs t) : ∃ d, isTab t d ∧ Dp K H (.ref p) d := by
  rcases h.at_ with z | z
  · exact ⟨_, .inl rfl, .lst z (tabR_dps h.rw_)⟩
  · exact ⟨_, .inr rfl, .tup z (tabR_dps h.rw_)⟩
theorem BansIn.dp {K : PySem.W.Frag} {H : Hp} {q : Addr} {qs : List Addr} {rs : List (List (Str × Str))} (h : BansIn K H q qs rs) : ∃ d, isBans rs d ∧ Dp K H (.ref q) d := by
  rcases h.at_ with z | z
  · exact ⟨_, .inl rfl, .lst z (rules_dps h.rw_)⟩
  · exact ⟨_, .inr rfl, .tup z (rules_dps h.rw_)⟩
theorem isTab.ft {t : List (Str × List Str)} {d : PyData} (h : isTab t d) : FTab t d := by
  rcases h with rfl | rfl
  · exact ⟨_, rfl, tab_pair t⟩
  · exact ⟨_, rfl, tab_pair t⟩
theorem isBans.fr {rs : List (List (Str × Str))} {d : PyData} (h : isBans rs d) : FRules rs d := by
  rcases h with rfl | rfl
  · exact ⟨_, rfl, rules_pair rs⟩
  · exact ⟨_, rfl, rules_pair rs⟩
theorem isBans.row {rs : List (List (Str × Str))} {d : PyData} (h : isBans rs d) : rowOf d = some (rs.map ruleD) := by
  rcases h with rfl | rfl <;> rfl
theorem isTab.row {t : List (Str × List Str)} {d : PyData} (h : isTab t d) : rowOf d = some (t.map entryD) := by
  rcases h with rfl | rfl <;> rfl
theorem BansIn.rz {K : PySem.W.Frag} {H : Hp} {q : Addr} {qs : List Addr} {rs : List (List (Str × Str))} {d : PyData} (h : BansIn K H q qs rs) (hd : isBans rs d) : RZ K H (.ref q) d := by
  refine ⟨q, _, _, rfl, hd.row, h.at_, by rw [List.length_map, List.length_map, prd_len h.rw_], fun i y rd h1 h2 => ?_⟩
  rw [List.getElem?_map] at h1 h2
  obtain ⟨z, hz, rfl⟩ := Option.map_eq_some_iff.mp h1
  obtain ⟨r, hr, rfl⟩ := Option.map_eq_some_iff.mp h2
  obtain ⟨r', hr', ms, m1, m2⟩ := prd_at h.rw_ hz
  rw [hr] at hr'
  cases hr'
  exact ⟨z, _, _, rfl, .inr m1, rfl, prd_dps m2⟩
theorem hand_of {K : PySem.W.Frag} {H : Hp} {p q : Addr} {ps qs : List Addr} {kvs : List (Key × V)} {t : List (Str × List Str)} {rs : List (List (Str × Str))} (hp : TabIn K H p ps kvs t) (hq : BansIn K H q qs rs) : ∃ dF dR, isTab t dF ∧ isBans rs dR ∧ Hand K H t rs (.ref p) (.ref q) dF dR := by
  obtain ⟨dF, h1, h2⟩ := hp.dp
  obtain ⟨dR, h3, h4⟩ := hq.dp
  exact ⟨dF, dR, h1, h3, h2, h4, h1.ft, h3.fr, hq.rz h3⟩
end Q
set_option Elab.async false
set_option linter.all false
set_option maxRecDepth 100000
set_option maxHeartbeats 4000000
/-! ### data beside what changes -/
namespace Q
open PySem L2 XD
theorem cutV_to (xs : List V) (k : Nat) : cutV xs none (some (k : Int)) = xs.take k := by
  unfold cutV
  show ((xs.drop 0).take (HT.sIx xs.length xs.length (some (k : Int)) - 0)) = xs.take k
  rw [HT.sIx_nat, List.drop_zero, Nat.sub_zero, ← List.take_eq_take_min]
theorem cutV_from (xs : List V) (k : Nat) : cutV xs (some (k : Int)) none = xs.drop k := by
  unfold cutV
  show (xs.drop (HT.sIx xs.length 0 (some (k : Int)))).take (xs.length - HT.sIx xs.length 0 (some (k : Int))) = xs.drop k
  rw [HT.sIx_nat]
  by_cases h : k ≤ xs.length
  · rw [Nat.min_eq_left h, List.take_of_length_le (by rw [List.length_drop]; exact Nat.le_refl _)]
  · rw [Nat.min_eq_right (by omega), List.drop_length, List.drop_eq_nil_of_le (by omega), List.take_nil]
theorem cutV_last (xs : List V) : cutV xs none (some (-1)) = xs.dropLast := by
  unfold cutV
  show (xs.drop 0).take ((if (-1 : Int) < 0 then (-1 + (xs.length : Int)).toNat else min (-1 : Int).toNat xs.length) - 0) = xs.dropLast
  rw [if_pos (by decide), List.drop_zero, Nat.sub_zero, List.dropLast_eq_take]
  congr 1
  omega
/-- the heap without some addresses -/
def rmL (S : List Addr) (H : Hp) : Hp := fun b => if b ∈ S then none else H b
def Alive (S : List Addr) (H : Hp) : Prop := ∀ b ∈ S, H b ≠ none
theorem rm_at {S : List Addr} {H : Hp} {b : Addr} (h : b ∉ S) : rmL S H b = H b := if_neg h
theorem rm_of {S : List Addr} {H : Hp} {b : Addr} {o : HO} (h : rmL S H b = some o) : b ∉ S ∧ H b = some o := by
  unfold rmL at h
  by_cases e : b ∈ S
  · rw [if_pos e] at h
    cases h
  · rw [if_neg e] at h
    exact ⟨e, h⟩
theorem rm_le {S : List Addr} {H : Hp} : Same (rmL S H) H := fun b o e => (rm_of e).2
theorem rm_same {S : List Addr} {H H' : Hp} (s : Same H H') : Same (rmL S H) (rmL S H') := fun b o e => by
  rw [rm_at (rm_of e).1]
  exact s b o (rm_of e).2
theorem rm_kept {S : List Addr} {a : Addr} {H H' : Hp} (ha : a ∈ S) (s : Kept a H H') : Same (rmL S H) (rmL S H') := fun b o e => by
  rw [rm_at (rm_of e).1]
  exact s b o (fun z => (rm_of e).1 (z ▸ ha)) (rm_of e).2
theorem rm_sub {S S' : List Addr} {H : Hp} (h : ∀ b ∈ S, b ∈ S') : Same (rmL S' H) (rmL S H) := fun b o e => by
  rw [rm_at (fun z => (rm_of e).1 (h b z))]
  exact (rm_of e).2
theorem rm_put {S : List Addr} {D : Addr} {H : Hp} {o : HO} (hD : D ∈ S) : rmL S (upd H D o) = rmL S H := by
  funext b
  unfold rmL
  by_cases e : b ∈ S
  · rw [if_pos e, if_pos e]
  · have nb : b ≠ D := fun z => e (by rw [z]; exact hD)
    rw [if_neg e, if_neg e, upd_ne nb]
theorem rm_new {S : List Addr} {p : Addr} {H : Hp} {o : HO} (h : Alive S H) (hp : H p = none) : rmL S (upd H p o) p = some o := by
  rw [rm_at (fun z => h p z hp), upd_same]
theorem Alive.same {S : List Addr} {H H' : Hp} (h : Alive S H) (s : Same H H') : Alive S H' := fun b hb z => by
  cases e : H b with
  | none => exact h b hb e
  | some o =>
    rw [s b o e] at z
    cases z
theorem Alive.put {S : List Addr} {D : Addr} {H : Hp} {o : HO} (h : Alive S H) : Alive S (upd H D o) := fun b hb z => by
  by_cases e : b = D
  · rw [e, upd_same] at z
    cases z
  · rw [upd_ne e] at z
    exact h b hb z
/-- from a heap in which S stood not yet -/
theorem same_rm {S : List Addr} {H H' : Hp} (s : Same H H') (h : ∀ b ∈ S, H b = none) : Same H (rmL S H') := fun b o e => by
  rw [rm_at (fun z => by rw [h b z] at e; cases e)]
  exact s b o e
/-- v is a tuple of such data -/
def TD (K : PySem.W.Frag) (R : Hp) (v : V) (ds : List PyData) : Prop := ∃ (p : Addr) (xs : List V), v = .ref p ∧ SqT K R p xs ∧ DpAll K R xs ds
theorem TD.dp {K : PySem.W.Frag} {R : Hp} {v : V} {ds : List PyData} (h : TD K R v ds) : Dp K R v (.tuple ds) := by
  obtain ⟨p, xs, rfl, h1, h2⟩ := h
  exact .tup h1 h2
theorem TD.same {K : PySem.W.Frag} {R R' : Hp} {v : V} {ds : List PyData} (s : Same R R') (h : TD K R v ds) : TD K R' v ds := by
  obtain ⟨p, xs, e, h1, h2⟩ := h
  exact ⟨p, xs, e, seqT_same s h1, dps_same s h2⟩
theorem TD.of {K : PySem.W.Frag} {R : Hp} {v : V} {ds : List PyData} (h : Dp K R v (.tuple ds)) : TD K R v ds := by
  cases h with
  | tup a b => exact ⟨_, _, rfl, a, b⟩
theorem dps_app {K : PySem.W.Frag} {H : Hp} : ∀ {xs ys : List V} {ds es : List PyData}, DpAll K H xs ds → DpAll K H ys es → DpAll K H (xs ++ ys) (ds ++ es)
  | _, _, _, _, .nil, h => h
  | _, _, _, _, .cons a b, h => .cons a (dps_app b h)
theorem dps_take {K : PySem.W.Frag} {H : Hp} : ∀ {xs : List V} {ds : List PyData} (k : Nat), DpAll K H xs ds → DpAll K H (xs.take k) (ds.take k)
  | _, _, 0, _ => .nil
  | _, _, k + 1, .nil => .nil
  | _, _, k + 1, .cons a b => .cons a (dps_take k b)
theorem dps_drop {K : PySem.W.Frag} {H : Hp} : ∀ {xs : List V} {ds : List PyData} (k : Nat), DpAll K H xs ds → DpAll K H (xs.drop k) (ds.drop k)
  | _, _, 0, h => h
  | _, _, k + 1, .nil => .nil
  | _, _, k + 1, .cons a b => dps_drop k b
/-- t[:k], t[k:] -/
theorem to_td {K : PySem.W.Frag} {S : List Addr} {H : Hp} {v : V} {ds : List PyData} {k : Nat} {Q : VK} (A : Alive S H) (h : TD K (rmL S H) v ds) (kk : ∀ u H', Same H H' → TD K (rmL S H') u (ds.take k) → Q u H') : rSlA K v none (some (k : Int)) H Q := by
  obtain ⟨p, xs, rfl, h1, h2⟩ := h
  have hl := dps_len h2
  refine ⟨p, xs, rfl, seqT_same rm_le h1, fun hw => ?_, fun _ q hq => ?_⟩
  · refine kk _ H (Same.refl H) ⟨p, xs, rfl, h1, ?_⟩
    have : ds.take k = ds := List.take_of_length_le (by
      have h3 := hw.2
      rw [HT.sIx_nat] at h3
      omega)
    rw [this]
    exact h2
  · have s := new_same hq (.tup (cutV xs none (some (k : Int))))
    refine kk _ _ s ⟨q, xs.take k, rfl, .inl (.inl ?_), dps_same (rm_same s) (dps_take k h2)⟩
    rw [rm_new A hq, cutV_to]
theorem from_td {K : PySem.W.Frag} {S : List Addr} {H : Hp} {v : V} {ds : List PyData} {k : Nat} {Q : VK} (A : Alive S H) (h : TD K (rmL S H) v ds) (kk : ∀ u H', Same H H' → TD K (rmL S H') u (ds.drop k) → Q u H') : rSlA K v (some (k : Int)) none H Q := by
  obtain ⟨p, xs, rfl, h1, h2⟩ := h
  have hl := dps_len h2
  refine ⟨p, xs, rfl, seqT_same rm_le h1, fun hw => ?_, fun _ q hq => ?_⟩
  · refine kk _ H (Same.refl H) ⟨p, xs, rfl, h1, ?_⟩
    have h3 := hw.1
    rw [HT.sIx_nat] at h3
    by_cases z : k = 0
    · rw [z]
      exact h2
    · have : xs.length = 0 := by omega
      have e1 : xs = [] := List.eq_nil_of_length_eq_zero this
      have e2 : ds = [] := List.eq_nil_of_length_eq_zero (by omega)
      rw [e1, e2, List.drop_nil]
      exact .nil
  · have s := new_same hq (.tup (cutV xs (some (k : Int)) none))
    refine kk _ _ s ⟨q, xs.drop k, rfl, .inl (.inl ?_), dps_same (rm_same s) (dps_drop k h2)⟩
    rw [rm_new A hq, cutV_from]
/-- t + u -/
theorem cat_td {K : PySem.W.Frag} {S : List Addr} {H : Hp} {v u : V} {ds es : List PyData} {Q : VK} (A : Alive S H) (h : TD K (rmL S H) v ds) (h' : TD K (rmL S H) u es) (hl : ds.length + es.length ≤ 1000) (kk : ∀ u H', Same H H' → TD K (rmL S H') u (ds ++ es) → Q u H') : rCatA K v u H Q := by
  obtain ⟨p, xs, rfl, h1, h2⟩ := h
  obtain ⟨q, ys, rfl, h3, h4⟩ := h'
  have l1 := dps_len h2
  have l2 := dps_len h4
  refine ⟨p, q, xs, ys, rfl, rfl, seqT_same rm_le h1, seqT_same rm_le h3, le_line (by omega), fun e => ?_, fun e1 e2 => ?_, fun e1 e2 z hz => ?_⟩
  · refine kk _ H (Same.refl H) ⟨q, ys, rfl, h3, ?_⟩
    have : ds = [] := List.eq_nil_of_length_eq_zero (by rw [← l1, e] <;> rfl)
    rw [this]
    exact h4
  · refine kk _ H (Same.refl H) ⟨p, xs, rfl, h1, ?_⟩
    have : es = [] := List.eq_nil_of_length_eq_zero (by rw [← l2, e2] <;> rfl)
    rw [this, List.append_nil]
    exact h2
  · have s := new_same hz (.tup (xs ++ ys))
    exact kk _ _ s ⟨z, _, rfl, .inl (.inl (rm_new A hz)), dps_same (rm_same s) (dps_app h2 h4)⟩
/-- a written tuple -/
theorem tup_td {K : PySem.W.Frag} {S : List Addr} {H : Hp} {p : Addr} {o : Obj} {xs : List V} {ds : List PyData} (A : Alive S H) (hp : H p = none) (h : DpAll K (rmL S H) xs ds) : TD K (rmL S (upd H p (.frz o (.tup xs)))) (.ref p) ds :=
  ⟨p, xs, rfl, .inl (.inr ⟨o, rm_new A hp⟩), dps_same (rm_same (new_same hp _)) h⟩
theorem lst_dp {K : PySem.W.Frag} {S : List Addr} {H : Hp} {p : Addr} {xs : List V} {ds : List PyData} (A : Alive S H) (hp : H p = none) (h : DpAll K (rmL S H) xs ds) : Dp K (rmL S (upd H p (.lst xs))) (.ref p) (.list ds) :=
  .lst (SqL.of (rm_new A hp)) (dps_same (rm_same (new_same hp _)) h)
/-- a list of data with a property, beside S -/
structure PL (K : PySem.W.Frag) (S : List Addr) (P : PyData → Prop) (n : Nat) (D : Addr) (H : Hp) : Prop where
  ex : ∃ vs, H D = some (.lst vs) ∧ vs.length ≤ n ∧ ∀ v ∈ vs, ∃ d, Dp K (rmL S H) v d ∧ P d
theorem PL.same {K : PySem.W.Frag} {S : List Addr} {P : PyData → Prop} {n : Nat} {D : Addr} {H H' : Hp} (s : Same H H') (h : PL K S P n D H) : PL K S P n D H' := by
  obtain ⟨vs, h1, h2, h3⟩ := h.ex
  exact ⟨vs, s _ _ h1, h2, fun v hv => by obtain ⟨d, a, b⟩ := h3 v hv; exact ⟨d, dp_same (rm_same s) a, b⟩⟩
theorem PL.kept {K : PySem.W.Frag} {S : List Addr} {P : PyData → Prop} {n : Nat} {D a : Addr} {H H' : Hp} (ha : a ∈ S) (hD : D ≠ a) (s : Kept a H H') (h : PL K S P n D H) : PL K S P n D H' := by
  obtain ⟨vs, h1, h2, h3⟩ := h.ex
  exact ⟨vs, s _ _ hD h1, h2, fun v hv => by obtain ⟨d, x, b⟩ := h3 v hv; exact ⟨d, dp_same (rm_kept ha s) x, b⟩⟩
theorem PL.sub {K : PySem.W.Frag} {S S' : List Addr} {P : PyData → Prop} {n : Nat} {D : Addr} {H : Hp} (hs : ∀ b ∈ S, b ∈ S') (h : PL K S' P n D H) : PL K S P n D H := by
  obtain ⟨vs, h1, h2, h3⟩ := h.ex
  exact ⟨vs, h1, h2, fun v hv => by obtain ⟨d, a, b⟩ := h3 v hv; exact ⟨d, dp_same (rm_sub hs) a, b⟩⟩
theorem PL.imp {K : PySem.W.Frag} {S : List Addr} {P P' : PyData → Prop} {n m : Nat} {D : Addr} {H : Hp} (h : PL K S P n D H) (hp : ∀ d, P d → P' d) (hn : n ≤ m) : PL K S P' m D H := by
  obtain ⟨vs, h1, h2, h3⟩ := h.ex
  exact ⟨vs, h1, Nat.le_trans h2 hn, fun v hv => by obtain ⟨d, a, b⟩ := h3 v hv; exact ⟨d, a, hp d b⟩⟩
/-- a written list -/
theorem PL.new {K : PySem.W.Frag} {S : List Addr} {P : PyData → Prop} {D : Addr} {H : Hp} {vs : List V} {ds : List PyData} (hD : H D = none) (h : DpAll K (rmL S H) vs ds) (hp : ∀ d ∈ ds, P d) : PL K S P vs.length D (upd H D (.lst vs)) := by
  refine ⟨vs, upd_same, Nat.le_refl _, fun v hv => ?_⟩
  obtain ⟨i, hi, rfl⟩ := List.mem_iff_getElem.mp hv
  obtain ⟨d, h1, h2⟩ := dps_get h (List.getElem?_eq_getElem hi)
  exact ⟨d, dp_same (rm_same (new_same hD _)) h2, hp d (List.mem_of_getElem? h1)⟩
/-- the sum of two lists -/
theorem PL.cat {K : PySem.W.Frag} {S : List Addr} {P : PyData → Prop} {n m : Nat} {D E : Addr} {H : Hp} {Q : VK} (h : PL K S P n D H) (g : PL K S P m E H) (hl : n + m ≤ 1000) (k : ∀ z H', Same H H' → H z = none → PL K S P (n + m) z H' → Q (.ref z) H') : rCat (.ref D) (.ref E) H Q := by
  obtain ⟨vs, h1, h2, h3⟩ := h.ex
  obtain ⟨us, g1, g2, g3⟩ := g.ex
  refine ⟨D, E, vs, us, rfl, rfl, h1, g1, le_line (by omega), fun z hz => k z _ (new_same hz _) hz ⟨vs ++ us, upd_same, by rw [List.length_append]; omega, fun v hv => ?_⟩⟩
  have s := new_same hz (.lst (vs ++ us))
  rcases List.mem_append.mp hv with hv | hv
  · obtain ⟨d, a, b⟩ := h3 v hv
    exact ⟨d, dp_same (rm_same s) a, b⟩
  · obtain ⟨d, a, b⟩ := g3 v hv
    exact ⟨d, dp_same (rm_same s) a, b⟩
/-- .. which holds something -/
def NE (D : Addr) (H : Hp) : Prop := ∃ us : List V, H D = some (.lst us) ∧ 0 < us.length
theorem PL.catN {K : PySem.W.Frag} {S : List Addr} {P : PyData → Prop} {n m : Nat} {D E : Addr} {H : Hp} {us : List V} {Q : VK} (h : PL K S P n D H) (g : PL K S P m E H) (ge : H E = some (.lst us)) (gn : 0 < us.length) (hl : n + m ≤ 1000)
    (k : ∀ z H', Same H H' → H z = none → PL K S P (n + m) z H' → NE z H' → Q (.ref z) H') : rCat (.ref D) (.ref E) H Q := by
  obtain ⟨vs, h1, h2, h3⟩ := h.ex
  obtain ⟨us', g1, g2, g3⟩ := g.ex
  rw [ge] at g1
  cases g1
  refine ⟨D, E, vs, us, rfl, rfl, h1, ge, le_line (by omega), fun z hz => k z _ (new_same hz _) hz ⟨vs ++ us, upd_same, by rw [List.length_append]; omega, fun v hv => ?_⟩ ⟨_, upd_same, by rw [List.length_append]; omega⟩⟩
  have s := new_same hz (.lst (vs ++ us))
  rcases List.mem_append.mp hv with hv | hv
  · obtain ⟨d, a, b⟩ := h3 v hv
    exact ⟨d, dp_same (rm_same s) a, b⟩
  · obtain ⟨d, a, b⟩ := g3 v hv
    exact ⟨d, dp_same (rm_same s) a, b⟩
/-- one more, at the end of a list that is itself in S -/
theorem PL.put {K : PySem.W.Frag} {S : List Addr} {P : PyData → Prop} {n : Nat} {D : Addr} {H : Hp} {vs : List V} {v : V} {d : PyData} (hD : D ∈ S) (h : PL K S P n D H) (e : H D = some (.lst vs)) (hv : Dp K (rmL S H) v d) (hp : P d) : PL K S P (n + 1) D (upd H D (.lst (vs ++ [v]))) := by
  obtain ⟨us, h1, h2, h3⟩ := h.ex
  rw [e] at h1
  cases h1
  refine ⟨vs ++ [v], upd_same, by rw [List.length_append, List.length_singleton]; omega, fun u hu => ?_⟩
  rw [rm_put hD]
  rcases List.mem_append.mp hu with hu | hu
  · exact h3 u hu
  · rw [List.mem_singleton.mp hu]
    exact ⟨d, hv, hp⟩
/-! words turned to what is none -/
theorem az_iff {c : Nat} (h : az c = true) : 97 ≤ c ∧ c ≤ 122 := by
  unfold az at h
  rw [Bool.and_eq_true] at h
  have h1 : ¬ ([c] : List Nat) < ("a" : Str).cps.toList := by simpa using h.1
  have h2 : ¬ (("z" : Str).cps.toList < [c]) := by simpa using h.2
  refine ⟨Nat.le_of_not_lt fun z => h1 ?_, Nat.le_of_not_lt fun z => h2 ?_⟩
  · show ([c] : List Nat) < [97]
    exact List.cons_lt_cons_iff.mpr (.inl z)
  · show ([122] : List Nat) < [c]
    exact List.cons_lt_cons_iff.mpr (.inl z)
theorem not_word_of {s : Str} {c : Nat} (h : c ∈ tlx s) (hc : az c = false) : word s = false := by
  cases e : word s with
  | false => rfl
  | true =>
    have := List.all_eq_true.mp (word_iff.mp e).2.2 c h
    rw [hc] at this
    cases this
theorem not_word_long {s : Str} (h : 8 < s.length) : word s = false := by
  cases e : word s with
  | false => rfl
  | true =>
    have := word_len e
    omega
theorem upper_not {s : Str} (h : word s = true) : word (Txt.upper s) = false ∧ (Txt.upper s).length ≤ 24 := by
  obtain ⟨h1, h8, ha⟩ := word_iff.mp h
  refine ⟨?_, ?_⟩
  · obtain ⟨c, r, er⟩ : ∃ c r, tlx s = c :: r := by
      cases e : tlx s with
      | nil =>
        rw [e] at h1
        cases h1
      | cons c r => exact ⟨c, r, rfl⟩
    have hc : az c = true := List.all_eq_true.mp ha c (by rw [er]; exact List.mem_cons_self)
    obtain ⟨c1, c2⟩ := az_iff hc
    have es : s = (⟨#[c]⟩ : Str) ++ ⟨r.toArray⟩ := tlx_inj (by rw [tlx_app, er]; rfl)
    rw [es, PySem.W.KOpn.upper_app, PySem.W.KOpn.upper_one (by omega)]
    refine not_word_of (c := if 97 ≤ c ∧ c ≤ 122 then c - 32 else c) ?_ ?_
    · rw [tlx_app, tlx_one]
      exact List.mem_append_left _ (List.mem_singleton.mpr rfl)
    · rw [if_pos ⟨c1, c2⟩]
      cases e : az (c - 32) with
      | false => rfl
      | true =>
        have := az_iff e
        omega
  · have := PyProof.Rows.len_upper s
    have := word_len h
    omega
end Q
set_option Elab.async false
set_option linter.all false
set_option maxRecDepth 100000
set_option maxHeartbeats 4000000
/-! ### comprehensions that make lists of data; what wrong fields are -/
namespace Q
open PySem L2 XD
theorem same_in {S : List Addr} {D : Addr} {H H' : Hp} (hD : H D = none) (s : Same H H') : Same (rmL S H) (rmL (D :: S) H') := fun b o e => by
  obtain ⟨h1, h2⟩ := rm_of e
  rw [rm_at (fun z => by
    rcases List.mem_cons.mp z with z | z
    · rw [z, hD] at h2
      cases h2
    · exact h1 z)]
  exact s b o h2
theorem lc_pl {K : PySem.W.Frag} {S : List Addr} {P P' : PyData → Prop} {n i : Nat} {p : Addr} {t0 te : TE} {vs : List Nat} {σ : L2.St} {H : Hp} {Q : VK} (A : Alive S H) (ht : ∀ Q' : VK, Q' (.ref p) H → t0 σ H Q') (hp : PL K S P n p H) (hn : n ≤ 900)
    (hw : ∀ x, wipe ((wipe σ vs).set i (some x)) vs = wipe σ vs)
    (hs : ∀ (D : Addr) (x : V) (d : PyData) (H' : Hp) (Qc : VK), Alive (D :: S) H' → Same H H' → Same (rmL S H) (rmL (D :: S) H') → Dp K (rmL (D :: S) H') x d → P d → (∀ y H4 e, Same H' H4 → Dp K (rmL (D :: S) H4) y e → P' e → Qc y H4) → te ((wipe σ vs).set i (some x)) H' Qc)
    (hd : ∀ D H', H D = none → Same H H' → PL K (D :: S) P' n D H' → Q (.ref D) H') : tLc (iRow K t0) (gName i) tYes te vs σ H Q := by
  obtain ⟨us, e1, e2, e3⟩ := hp.ex
  refine lc_row (ys := us) (fun D j H' => ∃ zs, H' D = some (.lst zs) ∧ zs.length = j ∧ (∀ v ∈ zs, ∃ d, Dp K (rmL (D :: S) H') v d ∧ P' d) ∧ Same H H') ht (.inl (SqL.of e1)) (fun D hD => ⟨[], upd_same, rfl, fun v h => absurd h List.not_mem_nil, new_same hD _⟩) (fun D j H' hD hP => by obtain ⟨_, _, _, _, z⟩ := hP; exact z) (fun D j x H' hD hj hP hx => ?_) (fun D H' hD hP => ?_)
  · obtain ⟨zs, g1, g2, g3, g4⟩ := hP
    obtain ⟨d, hd1, hd2⟩ := e3 x (List.mem_of_getElem? hx)
    have AD : Alive (D :: S) H' := fun b hb => by
      rcases List.mem_cons.mp hb with rfl | hb
      · rw [g1]
        exact fun z => by cases z
      · exact A.same g4 b hb
    refine ⟨hw x, ?_⟩
    unfold tYes
    refine iteT ?_
    refine hs D x d H' _ AD g4 (same_in hD g4) (dp_same (same_in hD g4) hd1) hd2 fun y H4 e s4 h4 p4 => ⟨zs, s4 _ _ g1, small1000 (by omega), zs ++ [y], upd_same, by rw [List.length_append, g2] <;> rfl, fun v hv => ?_, fun b o z => ?_⟩
    · rw [rm_put List.mem_cons_self]
      rcases List.mem_append.mp hv with hv | hv
      · obtain ⟨d', a, b⟩ := g3 v hv
        exact ⟨d', dp_same (rm_same s4) a, b⟩
      · rw [List.mem_singleton.mp hv]
        exact ⟨e, h4, p4⟩
    · rw [upd_ne (ne_of_none z hD)]
      exact s4 _ _ (g4 _ _ z)
  · obtain ⟨zs, g1, g2, g3, g4⟩ := hP
    exact hd D H' hD g4 ⟨zs, g1, by omega, g3⟩
/-- the same over range(m), item by item -/
theorem lc_rng {K : PySem.W.Frag} {S : List Addr} {m i : Nat} {ta : TA} {te : TE} {vs : List Nat} {σ : L2.St} {H : Hp} {Q : VK} (es : List PyData) (A : Alive S H) (ht : ∀ Q' : List V → Hp → Prop, Q' [.int m] H → ta σ H Q') (hm : m ≤ 900) (he : es.length = m)
    (hw : ∀ x, wipe ((wipe σ vs).set i (some x)) vs = wipe σ vs)
    (hs : ∀ (D : Addr) (j : Nat) (e : PyData) (H' : Hp) (Qc : VK), es[j]? = some e → Alive (D :: S) H' → Same H H' → Same (rmL S H) (rmL (D :: S) H') → (∀ y H4, Same H' H4 → Dp K (rmL (D :: S) H4) y e → Qc y H4) → te ((wipe σ vs).set i (some (.int (j : Nat)))) H' Qc)
    (hd : ∀ D us H', H D = none → Same H H' → H' D = some (.lst us) → DpAll K (rmL (D :: S) H') us es → Q (.ref D) H') : tLc (iRng1 ta) (gName i) tYes te vs σ H Q := by
  refine ht _ ⟨_, rfl, ?_, ?_, fun D hD => ?_⟩
  · have : -(2 ^ 62 : Int) ≤ 0 := by decide
    omega
  · have : (1000 : Int) < 2 ^ 62 := by decide
    omega
  have em : ((m : Int)).toNat = m := by omega
  rw [em]
  refine lc_range (lo := 0) (n := m) (fun j H' => ∃ us, H' D = some (.lst us) ∧ DpAll K (rmL (D :: S) H') us (es.take j) ∧ Same H H') ⟨[], upd_same, .nil, new_same hD _⟩ (fun j H' hj hP => ?_) (fun H' hP => ?_)
  · obtain ⟨us, g1, g2, g4⟩ := hP
    have ee : es[j]? = some es[j] := List.getElem?_eq_getElem (by omega)
    have AD : Alive (D :: S) H' := fun b hb => by
      rcases List.mem_cons.mp hb with rfl | hb
      · rw [g1]
        exact fun z => by cases z
      · exact A.same g4 b hb
    have ex : (0 : Int) + (j : Int) = ((j : Nat) : Int) := by omega
    rw [ex]
    refine ⟨hw _, ?_⟩
    unfold tYes
    refine iteT ?_
    refine hs D j _ H' _ ee AD g4 (same_in hD g4) fun y H4 s4 h4 => ⟨us, s4 _ _ g1, small1000 ?_, us ++ [y], upd_same, ?_, fun b o z => ?_⟩
    · rw [dps_len g2, List.length_take]
      omega
    · rw [rm_put List.mem_cons_self, take_one ee]
      exact dps_snoc (dps_same (rm_same s4) g2) h4
    · rw [upd_ne (ne_of_none z hD)]
      exact s4 _ _ (g4 _ _ z)
  · obtain ⟨us, g1, g2, g4⟩ := hP
    rw [List.take_of_length_le (by omega)] at g2
    exact hd D us H' hD g4 g1 g2
theorem seqT_rm {K : PySem.W.Frag} {H : Hp} {a q : Addr} {xs ys : List V} (e : H a = some (.lst ys)) (h : SqT K H q xs) : SqT K (rmL [a] H) q xs := by
  have n1 : ∀ {o : HO}, H q = some o → (∀ l, o ≠ .lst l) → q ∉ [a] := fun e1 e2 z => by
    rw [List.mem_singleton.mp z, e] at e1
    exact e2 _ (Option.some.inj e1).symm
  rcases h with (h | ⟨o, h⟩) | h
  · exact .inl (.inl (by rw [rm_at (n1 h (by intro l z; cases z))]; exact h))
  · exact .inl (.inr ⟨o, by rw [rm_at (n1 h (by intro l z; cases z))]; exact h⟩)
  · exact .inr h
theorem tabR_rm {K : PySem.W.Frag} {H : Hp} {a : Addr} {ys : List V} (e : H a = some (.lst ys)) : ∀ {ps : List Addr} {kvs : List (Key × V)} {t : List (Str × List Str)}, TabR K H ps kvs t → TabR K (rmL [a] H) ps kvs t
  | _, _, _, .nil => .nil
  | _, _, _, .cons a b o c => .cons (seqT_rm e a) (seqT_rm e b) o (tabR_rm e c)
theorem Flw.alive {H : Hp} {a b : Addr} (F : Flw b H a) : Alive [a] H := fun x hx z => by
  rw [List.mem_singleton.mp hx] at z
  obtain ⟨xs, e⟩ := F.lst
  rw [e] at z
  cases z
theorem PL.enter {K : PySem.W.Frag} {S : List Addr} {P : PyData → Prop} {n : Nat} {D E : Addr} {H H' : Hp} (hD : H D = none) (s : Same H H') (h : PL K S P n E H) : PL K (D :: S) P n E H' := by
  obtain ⟨vs, h1, h2, h3⟩ := h.ex
  exact ⟨vs, s _ _ h1, h2, fun v hv => by obtain ⟨d, a, b⟩ := h3 v hv; exact ⟨d, dp_same (same_in hD s) a, b⟩⟩
theorem PL.leave {K : PySem.W.Frag} {S : List Addr} {P : PyData → Prop} {n : Nat} {D E : Addr} {H : Hp} (h : PL K (D :: S) P n E H) : PL K S P n E H := h.sub fun b hb => List.mem_cons_of_mem _ hb
theorem sl_listK {X : Cx} (K : PySem.W.Frag) (h : X.K = K) : SlR X (rSlL K) := by
  subst h
  exact sl_list
theorem sl_tupAK {X : Cx} (K : PySem.W.Frag) (h : X.K = K) : SlR X (rSlA K) := by
  subst h
  exact sl_tupA
theorem op_catAK {X : Cx} (K : PySem.W.Frag) (h : X.K = K) : OpR X (binaryOp .Add) (rCatA K) := by
  subst h
  exact op_catA
theorem op_notIn_seqK {X : Cx} (K : PySem.W.Frag) (h : X.K = K) : OpR X (compareOp .NotIn) (rIn K true) := by
  subst h
  exact op_notIn_seq
/-! what is wrong -/
def NW (d : PyData) : Prop := isWord d = false ∧ Short d
def FS (f : PyData) : Prop := ∀ a b, pairOf f = some (a, b) → Short a ∧ MShort b
def BF (f : PyData) : Prop := (fieldOk f = false ∨ isWord (firstOf f) = false) ∧ FS f
def BadT (d : PyData) : Prop := areFields d = false ∧ FShort d
theorem entry_fs {e : Str × List Str} (h1 : word e.1 = true) (h2 : ∀ x ∈ e.2, word x = true) : FS (entryD e) := fun a b h => by
  cases h
  refine ⟨short_word h1, fun ws ew x hx => ?_⟩
  cases ew
  obtain ⟨y, hy, rfl⟩ := List.mem_map.mp hx
  exact short_word (h2 y hy)
theorem bad_in {d f : PyData} {fs : List PyData} (e : rowOf d = some fs) (hf : f ∈ fs) (h : fieldOk f = false ∨ isWord (firstOf f) = false) : areFields d = false := by
  unfold areFields
  rw [e]
  show (decide (1 ≤ fs.length) && (decide (fs.length ≤ 6) && (fs.all fieldOk && unlike (fs.map firstOf)))) = false
  have : (fs.all fieldOk && unlike (fs.map firstOf)) = false := by
    rcases h with h | h
    · have : fs.all fieldOk = false := List.all_eq_false.mpr ⟨f, hf, by rw [h]; exact fun z => by cases z⟩
      rw [this, Bool.false_and]
    · have : unlike (fs.map firstOf) = false := by
        unfold unlike
        have : (fs.map firstOf).all isWord = false := List.all_eq_false.mpr ⟨firstOf f, List.mem_map.mpr ⟨f, hf, rfl⟩, by rw [h]; exact fun z => by cases z⟩
        rw [this, Bool.false_and]
      rw [this, Bool.and_false]
  rw [this, Bool.and_false, Bool.and_false]
theorem bad_norow {d : PyData} (e : rowOf d = none) : BadT d := by
  refine ⟨?_, fun fs h => by rw [e] at h; cases h⟩
  unfold areFields
  rw [e]
theorem bad_short {d : PyData} {fs : List PyData} (e : rowOf d = some fs) (h : ∀ f ∈ fs, FS f) : FShort d := fun gs eg f hf a b ep => by
  rw [e] at eg
  cases eg
  exact h f hf a b ep
/-- a field that is no pair -/
theorem bf_nopair {f : PyData} (h : pairOf f = none) : BF f := by
  refine ⟨.inl ?_, fun a b ep => by rw [h] at ep; cases ep⟩
  unfold fieldOk
  rw [h]
/-- a field whose name is none -/
theorem bf_name {x b : PyData} (h : NW x) (hb : MShort b) : BF (.tuple [x, b]) := by
  refine ⟨.inr ?_, fun a c ep => ?_⟩
  · exact h.1
  · cases ep
    exact ⟨h.2, hb⟩
/-- .. whose values are none -/
theorem bf_vals {n : Str} {b : PyData} (hn : word n = true) (h : areValues b = false) (hb : MShort b) : BF (.tuple [.str n, b]) := by
  refine ⟨.inl ?_, fun a c ep => ?_⟩
  · show areValues b = false
    exact h
  · cases ep
    exact ⟨short_word hn, hb⟩
theorem vals_in {b d : PyData} {ws : List PyData} (e : rowOf b = some ws) (hd : d ∈ ws) (h : isWord d = false) : areValues b = false := by
  unfold areValues
  rw [e]
  show (decide (1 ≤ ws.length) && (decide (ws.length ≤ 5) && unlike ws)) = false
  have : unlike ws = false := by
    unfold unlike
    have : ws.all isWord = false := List.all_eq_false.mpr ⟨d, hd, by rw [h]; exact fun z => by cases z⟩
    rw [this, Bool.false_and]
  rw [this, Bool.and_false, Bool.and_false]
theorem vals_norow {b : PyData} (e : rowOf b = none) : areValues b = false ∧ MShort b := by
  refine ⟨?_, fun ws h => by rw [e] at h; cases h⟩
  unfold areValues
  rw [e]
theorem mshort_of {b : PyData} {ws : List PyData} (e : rowOf b = some ws) (h : ∀ d ∈ ws, Short d) : MShort b := fun us eu d hd => by
  rw [e] at eu
  cases eu
  exact h d hd
end Q
set_option Elab.async false
set_option linter.all false
set_option maxRecDepth 100000
set_option maxHeartbeats 4000000
/-! ### what wrong rules are -/
namespace Q
open PySem L2 XD
def pairD (e : Str × Str) : PyData := .tuple [.str e.1, .str e.2]
theorem sqZ_rm {H : Hp} {a q : Addr} {xs ys : List V} (e : H a = some (.lst ys)) (h : SqZ H q xs) : SqZ (rmL [a] H) q xs := by
  obtain ⟨o, h, d⟩ := h
  refine ⟨o, ?_, d⟩
  rw [rm_at (fun z => by rw [List.mem_singleton.mp z, e] at h; cases h)]
  exact h
theorem prd_rm {K : PySem.W.Frag} {H : Hp} {a : Addr} {ys : List V} (e : H a = some (.lst ys)) : ∀ {qs : List Addr} {r : List (Str × Str)}, Paired (fun q (e : Str × Str) => SqT K H q [.str e.1, .str e.2]) qs r → Paired (fun q (e : Str × Str) => SqT K (rmL [a] H) q [.str e.1, .str e.2]) qs r
  | _, _, .nil => .nil
  | _, _, .cons x y => .cons (seqT_rm e x) (prd_rm e y)
theorem RuleAt.rm {K : PySem.W.Frag} {H : Hp} {a p : Addr} {ys : List V} {r : List (Str × Str)} (e : H a = some (.lst ys)) (h : RuleAt K H p r) : RuleAt K (rmL [a] H) p r := by
  obtain ⟨qs, h1, h2⟩ := h
  exact ⟨qs, sqZ_rm e h1, prd_rm e h2⟩
theorem rules_rm {K : PySem.W.Frag} {H : Hp} {a : Addr} {ys : List V} (e : H a = some (.lst ys)) : ∀ {qs : List Addr} {rs : List (List (Str × Str))}, Paired (RuleAt K H) qs rs → Paired (RuleAt K (rmL [a] H)) qs rs
  | _, _, .nil => .nil
  | _, _, .cons x y => .cons (x.rm e) (rules_rm e y)
theorem RuleAt.td {K : PySem.W.Frag} {H : Hp} {p : Addr} {r : List (Str × Str)} (h : RuleAt K H p r) : TD K H (.ref p) (r.map pairD) := TD.of h.dp
theorem PL.catIn {K : PySem.W.Frag} {S : List Addr} {P : PyData → Prop} {n m : Nat} {D E : Addr} {H : Hp} {Q : VK} (h : PL K S P n D H) (g : PL K S P m E H) (hl : n + m ≤ 1000) (k : ∀ z H', Same H H' → H z = none → PL K (z :: S) P (n + m) z H' → Q (.ref z) H') : rCat (.ref D) (.ref E) H Q := by
  obtain ⟨vs, h1, h2, h3⟩ := h.ex
  obtain ⟨us, g1, g2, g3⟩ := g.ex
  refine ⟨D, E, vs, us, rfl, rfl, h1, g1, le_line (by omega), fun z hz => k z _ (new_same hz _) hz ⟨vs ++ us, upd_same, by rw [List.length_append]; omega, fun v hv => ?_⟩⟩
  have s := same_in (S := S) hz (new_same hz (.lst (vs ++ us)))
  rcases List.mem_append.mp hv with hv | hv
  · obtain ⟨d, a, b⟩ := h3 v hv
    exact ⟨d, dp_same s a, b⟩
  · obtain ⟨d, a, b⟩ := g3 v hv
    exact ⟨d, dp_same s a, b⟩
/-! texts and shapes -/
theorem ok_of {s : Str} (h : ∀ c ∈ tlx s, c < 0x110000) : PyData.strOk s = true := by
  unfold PyData.strOk
  rw [← Array.all_toList]
  exact List.all_eq_true.mpr fun c hc => decide_eq_true (h c hc)
theorem word_small {n : Str} (h : word n = true) : ∀ c ∈ tlx n, c < 0x110000 := fun c hc => az_small (List.all_eq_true.mp (word_iff.mp h).2.2 c hc)
theorem ok_app {n m : Str} (h : ∀ c ∈ tlx n, c < 0x110000) (h' : ∀ c ∈ tlx m, c < 0x110000) : PyData.strOk (n ++ m) = true := ok_of fun c hc => by
  rw [tlx_app] at hc
  rcases List.mem_append.mp hc with hc | hc
  · exact h c hc
  · exact h' c hc
theorem upper_small : ∀ l : List Nat, l.all az = true → ∀ c ∈ tlx (Txt.upper ⟨l.toArray⟩), c < 0x110000
  | [], _ => fun c hc => by
    have : tlx (Txt.upper ⟨#[]⟩) = [] := by decide +kernel
    have h2 : c ∈ tlx (Txt.upper ⟨#[]⟩) := hc
    rw [this] at h2
    cases h2
  | x :: l, h => fun c hc => by
    rw [List.all_cons, Bool.and_eq_true] at h
    obtain ⟨c1, c2⟩ := az_iff h.1
    have es : (⟨(x :: l).toArray⟩ : Str) = (⟨#[x]⟩ : Str) ++ ⟨l.toArray⟩ := tlx_inj (by rw [tlx_app]; rfl)
    rw [es, PySem.W.KOpn.upper_app, PySem.W.KOpn.upper_one (by omega), tlx_app] at hc
    rcases List.mem_append.mp hc with hc | hc
    · rw [tlx_one] at hc
      rw [List.mem_singleton.mp hc]
      split <;> omega
    · exact upper_small l h.2 c hc
theorem upper_ok {n : Str} (h : word n = true) : PyData.strOk (Txt.upper n) = true := by
  have e : n = ⟨(tlx n).toArray⟩ := tlx_inj rfl
  refine ok_of ?_
  rw [e]
  exact upper_small _ (word_iff.mp h).2.2
theorem tup1_shaped {n : Str} (h : PyData.strOk n = true) : SeqAt.shaped (.tuple [.str n]) = true := by
  unfold SeqAt.shaped
  rw [Bool.and_eq_true]
  refine ⟨?_, decide_eq_true ?_⟩
  · simp only [PyData.canLay0, PyData.canLayAll0, Bool.and_true]
    exact h
  · simp [PyData.depth, PyData.depthAll]
def NO (d : PyData) : Prop := isWord d = false ∧ SeqAt.shaped d = true
/-! rules -/
def GS (f : PyData) : Prop := ∀ a b, pairOf f = some (a, b) → SeqAt.shaped b = true
theorem fok_of {d : PyData} {fs : List PyData} (e : rowOf d = some fs) (h : ∀ f ∈ fs, GS f) : FOk d := fun gs eg f hf a b ep => by
  rw [e] at eg
  cases eg
  exact h f hf a b ep
theorem gs_pair {e : Str × Str} (h : PyData.strOk e.2 = true) : GS (pairD e) := fun a b ep => by
  cases ep
  exact str_shaped h
theorem gs_two {x b : PyData} (h : SeqAt.shaped b = true) : GS (.tuple [x, b]) := fun a c ep => by
  cases ep
  exact h
theorem gs_none {f : PyData} (h : pairOf f = none) : GS f := fun a b ep => by
  rw [h] at ep
  cases ep
def BR (t : List (Str × List Str)) (d : PyData) : Prop := ruleOk t d = false ∧ FOk d
def BadB (t : List (Str × List Str)) (d : PyData) : Prop := areRules t d = false ∧ ROk d
section
variable {t : List (Str × List Str)}
theorem br_norow {d : PyData} (e : rowOf d = none) : BR t d := by
  refine ⟨?_, fun fs h => by rw [e] at h; cases h⟩
  unfold ruleOk
  rw [e]
theorem br_empty {d : PyData} (e : rowOf d = some []) : BR t d := by
  refine ⟨?_, fok_of e fun f h => absurd h List.not_mem_nil⟩
  unfold ruleOk
  rw [e]
  show (areFacts t d && (decide (1 ≤ ([] : List PyData).length) && _)) = false
  have : decide (1 ≤ ([] : List PyData).length) = false := rfl
  rw [this, Bool.false_and, Bool.and_false]
theorem br_go {d : PyData} {fs : List PyData} (e : rowOf d = some fs) (h : goFacts t [] fs = false) (g : ∀ f ∈ fs, GS f) : BR t d := by
  refine ⟨ruleOk_no ?_, fok_of e g⟩
  unfold areFacts
  rw [e]
  show (decide (fs.length ≤ t.length) && goFacts t [] fs) = false
  rw [h, Bool.and_false]
theorem go_name (T : TabOk t) {d b : PyData} {fs : List PyData} {seen : List Str} (h : isWord d = false) : goFacts t seen (.tuple [d, b] :: fs) = false := by
  cases es : isStr d with
  | false => exact go_nostr (a := d) (b := b) rfl es
  | true =>
    obtain ⟨n, rfl⟩ : ∃ n, d = .str n := by
      cases d <;> first | exact ⟨_, rfl⟩ | cases es
    refine go_new (n := n) (b := b) rfl ?_
    cases e : look n t with
    | none => rfl
    | some ws =>
      have := T.nm.2 n (List.mem_map.mpr ⟨_, look_mem e, rfl⟩)
      have h2 : word n = false := h
      rw [this] at h2
      cases h2
theorem go_strange {n : Str} {b : PyData} {fs : List PyData} {seen : List Str} (h : n ∉ t.map (·.1)) : goFacts t seen (.tuple [.str n, b] :: fs) = false := by
  refine go_new (n := n) (b := b) rfl ?_
  cases e : look n t with
  | none => rfl
  | some ws => exact absurd (List.mem_map.mpr ⟨_, look_mem e, rfl⟩) h
theorem go_value {n : Str} {d : PyData} {fs : List PyData} {seen : List Str} (h : ∀ ws, (n, ws) ∈ t → stands ws d = false) : goFacts t seen (.tuple [.str n, d] :: fs) = false := by
  cases e : look n t with
  | none => exact go_new (n := n) (b := d) rfl e
  | some ws =>
    rw [go_old (n := n) (b := d) rfl e, h ws (look_mem e), Bool.false_and, Bool.and_false]
theorem stands_no (T : TabOk t) {n : Str} {ws : List Str} {d : PyData} (h : (n, ws) ∈ t) (hd : isWord d = false) : stands ws d = false := by
  cases e : stands ws d with
  | false => rfl
  | true =>
    obtain ⟨w, rfl, hw⟩ := stands_str e
    have := (T.vs _ h).1.2 w hw
    have h2 : word w = false := hd
    rw [this] at h2
    cases h2
theorem go_nodup : ∀ {fs : List PyData} {seen : List Str}, goFacts t seen fs = true → ((fs.map factOf).map (·.1)).Nodup ∧ ∀ e ∈ fs.map factOf, e.1 ∉ seen
  | [], _, _ => ⟨List.nodup_nil, fun e h => absurd h List.not_mem_nil⟩
  | f :: fs, seen, h => by
    obtain ⟨n, w, ws, e1, e2, e3, e4, e5⟩ := go_cons h
    obtain ⟨i1, i2⟩ := go_nodup e5
    have ef : factOf f = (n, w) := by
      unfold factOf
      rw [e1]
    rw [List.map_cons, List.map_cons, ef, List.nodup_cons]
    refine ⟨⟨fun z => ?_, i1⟩, fun e he => ?_⟩
    · obtain ⟨e, he, z2⟩ := List.mem_map.mp z
      exact i2 e he (by rw [show e.1 = n from z2]; exact List.mem_cons_self)
    · rcases List.mem_cons.mp he with rfl | he
      · intro z
        have : seen.contains n = true := by simpa using z
        rw [this] at e4
        cases e4
      · exact fun z => i2 e he (List.mem_cons_of_mem _ z)
theorem facts_pairs (r : List (Str × Str)) : (r.map pairD).map factOf = r := by
  rw [List.map_map]
  exact List.map_id _
theorem go_twice {r : List (Str × Str)} {seen : List Str} (h : ¬ (r.map (·.1)).Nodup) : goFacts t seen (r.map pairD) = false := by
  cases e : goFacts t seen (r.map pairD) with
  | false => rfl
  | true =>
    have := (go_nodup e).1
    rw [facts_pairs] at this
    exact absurd this h
/-! lists of rules -/
theorem badB_norow {d : PyData} (e : rowOf d = none) : BadB t d := by
  refine ⟨?_, fun fs h => by rw [e] at h; cases h⟩
  unfold areRules
  rw [e]
theorem badB_in {d f : PyData} {fs : List PyData} (e : rowOf d = some fs) (hf : f ∈ fs) (h : ruleOk t f = false) (hs : ∀ f ∈ fs, FOk f) : BadB t d := by
  refine ⟨?_, fun gs eg f hf => by rw [e] at eg; cases eg; exact hs f hf⟩
  unfold areRules
  rw [e]
  show (decide (fs.length ≤ 20) && fs.all (ruleOk t)) = false
  have : fs.all (ruleOk t) = false := List.all_eq_false.mpr ⟨f, hf, by rw [h]; exact fun z => by cases z⟩
  rw [this, Bool.and_false]
theorem badB_many {d : PyData} {fs : List PyData} (e : rowOf d = some fs) (h : 20 < fs.length) (hs : ∀ f ∈ fs, FOk f) : BadB t d := by
  refine ⟨?_, fun gs eg f hf => by rw [e] at eg; cases eg; exact hs f hf⟩
  unfold areRules
  rw [e]
  show (decide (fs.length ≤ 20) && fs.all (ruleOk t)) = false
  rw [decide_eq_false (by omega : ¬ fs.length ≤ 20), Bool.false_and]
end
/-! seven words -/
def wds7 : List Str := (("abcdefg" : Str).cps.toList).map fun c => (⟨#[c]⟩ : Str) ++ "bcdefgi"
theorem wds7_nodup : wds7.Nodup := by decide +kernel
theorem wds7_len : wds7.length = 7 := by decide +kernel
theorem wds7_ok : ∀ x ∈ wds7, PyData.strOk x = true := by decide +kernel
theorem left_over {ns : List Str} (h : ns.length < 7) : ∃ x l, wds7.filter (fun w => !decide (w ∈ ns)) = x :: l ∧ x ∉ ns ∧ x ∈ wds7 := by
  cases e : wds7.filter (fun w => !decide (w ∈ ns)) with
  | nil =>
    exfalso
    have hs : wds7 ⊆ ns := fun x hx => by
      have := List.filter_eq_nil_iff.mp e x hx
      simpa using this
    have := List.Nodup.length_le_of_subset wds7_nodup hs
    rw [wds7_len] at this
    omega
  | cons x l =>
    have hx : x ∈ wds7.filter (fun w => !decide (w ∈ ns)) := by rw [e]; exact List.mem_cons_self
    rw [List.mem_filter] at hx
    exact ⟨x, l, rfl, by simpa using hx.2, hx.1⟩
theorem wds7_at {i c : Nat} (h : ("abcdefg" : Str).cps[i]? = some c) : wds7[i]? = some ((⟨#[c]⟩ : Str) ++ "bcdefgi") := by
  unfold wds7
  rw [List.getElem?_map, Array.getElem?_toList, h]
  rfl
theorem wds7_all : wds7.take ("abcdefg" : Str).cps.size = wds7 := List.take_of_length_le (by rw [wds7_len]; decide)
/-- the seven, with nothing to unfold -/
theorem w7_ex : ∃ w7 : List Str, (∀ (i c : Nat), ("abcdefg" : Str).cps[i]? = some c → w7[i]? = some ((⟨#[c]⟩ : Str) ++ "bcdefgi")) ∧ w7.take ("abcdefg" : Str).cps.size = w7 ∧ w7.length = 7 ∧ (∀ x ∈ w7, PyData.strOk x = true) ∧
    ∀ ns : List Str, ns.length < 7 → ∃ x l, w7.filter (fun w => !decide (w ∈ ns)) = x :: l ∧ x ∉ ns ∧ x ∈ w7 :=
  ⟨wds7, fun _ _ h => wds7_at h, wds7_all, wds7_len, wds7_ok, fun _ h => left_over h⟩
end Q
set_option Elab.async false
set_option linter.all false
set_option maxRecDepth 100000
set_option maxHeartbeats 4000000
/-! ### written data -/
namespace Q
open PySem L2 XD
/-- the expression makes such data, beside S -/
def MkD (K : PySem.W.Frag) (S : List Addr) (H0 : Hp) (σ : L2.St) (te : TE) (d : PyData) : Prop := ∀ H (Q : VK), Same H0 H → (∀ v H', Same H H' → Dp K (rmL S H') v d → Q v H') → te σ H Q
def MkL (K : PySem.W.Frag) (S : List Addr) (H0 : Hp) (σ : L2.St) (ta : TA) (ds : List PyData) : Prop := ∀ H (Q : List V → Hp → Prop), Same H0 H → (∀ vs H', Same H H' → DpAll K (rmL S H') vs ds → Q vs H') → ta σ H Q
section
variable {K : PySem.W.Frag} {S : List Addr} {H0 : Hp} {σ : L2.St}
theorem mk_var {i : Nat} {v : V} {d : PyData} (e : σ[i]? = some (some v)) (h : Dp K (rmL S H0) v d) : MkD K S H0 σ (tVar i) d := fun H Q s k => ⟨v, e, k v H (Same.refl H) (dp_same (rm_same s) h)⟩
theorem mk_str (x : Str) : MkD K S H0 σ (tC (.str x)) (.str x) := fun H Q s k => k _ H (Same.refl H) (.str x)
theorem mk_int (x : Int) : MkD K S H0 σ (tC (.int x)) (.int x) := fun H Q s k => k _ H (Same.refl H) (.int x)
theorem mk_bl (x : Bool) : MkD K S H0 σ (tC (.bl x)) (.bool x) := fun H Q s k => k _ H (Same.refl H) (.bl x)
theorem mk_non : MkD K S H0 σ (tC .non) .none := fun H Q s k => k _ H (Same.refl H) .non
theorem mkl_nil : MkL K S H0 σ tNil [] := fun H Q s k => k [] H (Same.refl H) .nil
theorem mkl_cons {te : TE} {ta : TA} {d : PyData} {ds : List PyData} (h : MkD K S H0 σ te d) (g : MkL K S H0 σ ta ds) : MkL K S H0 σ (tCons te ta) (d :: ds) := fun H Q s k =>
  h H _ s fun v H1 s1 hv => g H1 _ (s.trans s1) fun vs H2 s2 hvs => k (v :: vs) H2 (s1.trans s2) (.cons (dp_same (rm_same s2) hv) hvs)
theorem mk_tup {ta : TA} {ds : List PyData} (A : Alive S H0) (hl : Nat.ble ds.length 1000 = true) (h : MkL K S H0 σ ta ds) : MkD K S H0 σ (tTupZ ta) (.tuple ds) := fun H Q s k =>
  h H _ s fun vs H1 s1 hvs => ⟨le_line (by rw [dps_len hvs]; exact Nat.le_of_ble_eq_true hl), fun p o hp _ => k _ _ (s1.trans (new_same hp _)) (TD.dp (tup_td (A.same (s.trans s1)) hp hvs))⟩
theorem mk_lst {ta : TA} {ds : List PyData} (A : Alive S H0) (hl : Nat.ble ds.length 1000 = true) (h : MkL K S H0 σ ta ds) : MkD K S H0 σ (tLst ta) (.list ds) := fun H Q s k =>
  h H _ s fun vs H1 s1 hvs => ⟨le_line (by rw [dps_len hvs]; exact Nat.le_of_ble_eq_true hl), fun p hp => k _ _ (s1.trans (new_same hp _)) (lst_dp (A.same (s.trans s1)) hp hvs)⟩
theorem mk_up {te : TE} {x : Str} (h : ∀ H (Q : VK), Same H0 H → (∀ H', Same H H' → Q (.str x) H') → te σ H Q) (hl : x.length ≤ 1000) : MkD K S H0 σ (tM0 (fun x xs H Q => ∃ a, x = .str a ∧ xs = [] ∧ a.length ≤ 5592405 ∧ Q (.str (Txt.upper a)) H) te) (.str (Txt.upper x)) := fun H Q s k =>
  h H _ s fun H' s1 => ⟨⟨_, rfl⟩, _, rfl, rfl, Nat.le_trans hl (by decide), k _ H' s1 (.str _)⟩
theorem mk_ix {i : Nat} {v : Addr} {xs : List V} {x : V} {d : PyData} {z : Int} (e : σ[i]? = some (some (.ref v))) (h : SqT K H0 v xs) (hx : atI xs z = some x) (hd : Dp K (rmL S H0) x d) : MkD K S H0 σ (tOp (rBoth K) (tVar i) (tC (.int z))) d := fun H Q s k =>
  ⟨_, e, ix_row (.inr (seqT_same s h)) hx (k _ H (Same.refl H) (dp_same (rm_same s) hd))⟩
end
theorem asg_lst {ta : TA} {u : TS} {D : Ends} {σ : L2.St} {H : Hp} {i : Nat} (h : ta σ H fun xs H1 => xs.length ≤ sizeLine ∧ ∀ p, H1 p = none → u D (σ.set i (some (.ref p))) (L2.upd H1 p (.lst xs))) : tSeq (tAsg (tLst ta) (gName i)) u D σ H := h
theorem asg_cat {te : TE} {ta : TA} {u : TS} {D : Ends} {σ : L2.St} {H : Hp} {i : Nat} (h : te σ H fun x H1 => ta σ H1 fun xs H2 => xs.length ≤ sizeLine ∧ ∀ p, H2 p = none → rCat x (.ref p) (L2.upd H2 p (.lst xs)) fun v H3 => u D (σ.set i (some v)) H3) : tSeq (tAsg (tOp rCat te (tLst ta)) (gName i)) u D σ H := h
theorem ret_cat {te : TE} {ta : TA} {D : Ends} {σ : L2.St} {H : Hp} (h : te σ H fun x H1 => ta σ H1 fun xs H2 => xs.length ≤ sizeLine ∧ ∀ p, H2 p = none → rCat x (.ref p) (L2.upd H2 p (.lst xs)) D.rt) : tRet (tOp rCat te (tLst ta)) D σ H := h
theorem rm_nil {H : Hp} : rmL [] H = H := by
  funext b
  unfold rmL
  rw [if_neg List.not_mem_nil]
end Q
set_option Elab.async false
set_option linter.all false
set_option maxRecDepth 100000
set_option maxHeartbeats 4000000
/-! A dict comprehension whose keys are tuples of ints and texts. -/
namespace XK
open PySem PySem.Spec PyProof.Rows L2
/-- one entry more, its key a tuple -/
theorem put_tup {X : Cx} {pins : List (Addr × Obj)} {σ : L2.St} {H : Hp} {s : Shared} {E : Value → Shared → Prop} {D b : Addr} {es : List (List Key × V)} {k : List Key} {v : V} {u r : Value} {Q : Unit → Shared → Prop}
    (hu : X.A.units < cLine) (I : Inv X pins σ H s) (hD : H D = some (.dT es)) (hb : H b = some (.tup (k.map kV))) (hz : es.length < sizeLine) (ru : RelV (.ref b) u) (rv : RelV v r)
    (next : ∀ s1, Inv X pins σ (upd H D (.dT (putK es k v))) s1 → Q () s1) : wpAny (model X.prog X.w) X.A (dictSet D u r) Q E s := by
  cases (show u = Value.ref b from ru)
  obtain ⟨z, nsys, xs, rel, dd⟩ := dt_of I.hok hD
  have small : xs.length ≤ sizeLine := by
    rw [← Paired.length rel]
    exact z
  have grown : (putK es k v).length ≤ sizeLine := Nat.le_trans (length_putK es k v) hz
  refine wpAny_dictSet_heap (hsz := small) hu (key_of I.hok hb) dd fun h1 d1 but => next _ ?_
  obtain ⟨q, l1, l2, e1, e2, e3, e4, _, e5⟩ := d1
  refine d_write I (by rw [hD]; exact True.intro) but ⟨q, e1⟩ ⟨grown, nsys, _, (rel.put k hb rv).keeps fun c ys ec => ?_, q, l1, l2, e1, e2, e3, e4, e5⟩
  have other : c ≠ D := ne_of ec hD (fun z => nomatch z)
  rw [upd_ne other]
  exact ec
section
variable {X : Cx}
/-- how {k: v for target in iter if ..} reads -/
def tDcT (wi : TI) (g : TG) (tt : TT) (tk tv : TE) (own : List Nat) : TE := fun σ H Q =>
  wi σ H fun J H1 => ∀ D, H1 D = none →
    ∃ W : Nat → Nat → Hp → Prop, (∃ m, W 0 m (upd H1 D (.dT []))) ∧ ∀ i m H, W i m H →
      (J.stop i H ∧ Q (.ref D) H) ∨
      (J.go i H ∧ ∃ Nx : Hp → Prop, (∀ H', Nx H' → ∃ m', m' < m ∧ W (i + 1) m' H') ∧
        ∀ x H', J.yld i H x H' → g x (wipe σ own) H' fun σ2 H2 => wipe σ2 own = wipe σ own ∧
          tt σ2 H2 fun b H3 => if b = true then
              tk σ2 H3 fun y H4 => tv σ2 H4 fun z H5 => ∃ es k p, y = .ref p ∧ H5 p = some (.tup (k.map kV)) ∧ H5 D = some (.dT es) ∧ es.length < sizeLine ∧ Nx (upd H5 D (.dT (putK es k z)))
            else Nx H3)
theorem dcT_run {pins : List (Addr × Obj)} {s : Shared} {σ : L2.St} {H : Hp} {Q : VK} {ke ve tg iter : Expr} {ifs : List Expr} {scope : Scope} {own : List (Str × Nat)} {pos pos2 : Pos} {wi : TI} {g : TG} {tt : TT} {tk tv : TE}
    {use : Option (Value → Sem Unit)} {Qf : Value → Shared → Prop} (hu : X.A.units < cLine) (calm : X.calm = true) (hN : X.N.Nodup) (I : Inv X pins σ H s) (hi : PI X tg iter wi) (ok : BlkOk X.N X.env.scope scope own)
    (hg : ∀ (s : Shared) (H : Hp) (C : Addr) (cl : List (Str × Addr)) (fp : List Addr), PG (X.blk s H scope (compEnvC scope cl C X.env) fp) tg g)
    (ht : ∀ (s : Shared) (H : Hp) (C : Addr) (cl : List (Str × Addr)) (fp : List Addr), PTs (X.blk s H scope (compEnvC scope cl C X.env) fp) ifs tt)
    (hk : ∀ (s : Shared) (H : Hp) (C : Addr) (cl : List (Str × Addr)) (fp : List Addr), PE (X.blk s H scope (compEnvC scope cl C X.env) fp) ke tk)
    (hv : ∀ (s : Shared) (H : Hp) (C : Addr) (cl : List (Str × Addr)) (fp : List Addr), PE (X.blk s H scope (compEnvC scope cl C X.env) fp) ve tv)
    (hs : ∀ x, foldedSetIterable iter X.env x = pure x) (h : tDcT wi g tt tk tv (own.map (·.2)) σ H Q)
    (fin : ∀ D C s2 m H2, Inv X pins σ H2 s2 → Q (.ref D) H2 → s2.heap.Ns C m → FpOk X pins H2 C → compPost (model X.prog X.w) X.A X.xe use Qf (.ref D) C (.ok .next) s2) :
    wpAny (model X.prog X.w) X.A (comprehension (.DictComp ke ve [⟨tg, iter, ifs, 0⟩] scope pos) scope X.env pos2 newDict false (eval iter X.env) use) Qf X.xe s := by
  have frees : ∀ y ∈ scope.names, y.2 = .free → ∃ c, X.env.cells.lookup y.1 = some c := fun y hy e =>
    (ok.free y hy e).elim (fun k => I.ok.has _ (.inl k)) (fun k => I.ok.has _ (.inr k))
  refine wpAny_comprehension_free (use := use) rfl hs (closure_ok frees) ok.kind (fun y hy e => by rw [ok.uniq y hy, e])
    (thn (hi.run pins s σ H _ I h) fun xv s1 hx => thn hx fun itv s2 h2 => ?_)
  obtain ⟨it, fp, tn, J, H2, rfl, I2, T, st2, f2, q⟩ := h2
  refine wpAny_newObj_type (newEnv_comp ?_)
  generalize hD : s2.heap.objs.size = D
  have nD : H2 D = none := I2.hok.fresh (Nat.le_of_eq hD)
  obtain ⟨W, ⟨m0, w0⟩, turn⟩ := q D nD
  generalize hs3 : ({ s2 with heap := s2.heap.push { cls := .type "dict", data := .dict #[] } } : Shared) = s3
  have h3 : s3.heap = s2.heap.push { cls := .type "dict", data := .dict #[] } := by
    rw [← hs3]
  have I3 : Inv X pins σ (upd H2 D (.dT [])) s3 := by
    rw [← hs3]
    refine I2.laid (t' := s2.toks) (fun b o e => Heap.get?_push_of_some _ e) (Nat.le_of_eq hD) ?_
    rw [← hD]
    exact dt_empty s2.heap I2.big
  have lt2 : ∀ b ∈ fp, b < s2.heap.objs.size := fun b hb =>
    (T.obj _ _ st2 b hb).elim fun o e => Heap.lt_size e.1
  have f3 : ∀ b ∈ fp, FpOk X pins (upd H2 D (.dT [])) b ∧ b < s3.heap.objs.size := by
    intro b hb
    have lt := lt2 b hb
    refine ⟨⟨?_, (f2 b hb).2⟩, by rw [h3, Heap.size_push]; exact Nat.lt_succ_of_lt lt⟩
    rw [upd_ne (by rw [← hD]; exact Nat.ne_of_lt lt)]
    exact (f2 b hb).1
  have st3 : tn 0 s3.heap := T.keep _ _ _ st2 fun b _ o e => by
    rw [h3]
    exact Heap.get?_push_of_some _ e
  have I4 := block_start I3 ok hN f3
  have pg := hg s3 (upd H2 D (.dT [])) s3.heap.objs.size (cellsFrom (s3.heap.objs.size + 1) scope.names (cloFrom X.env.cells scope.names [])) fp
  have pt := ht s3 (upd H2 D (.dT [])) s3.heap.objs.size (cellsFrom (s3.heap.objs.size + 1) scope.names (cloFrom X.env.cells scope.names [])) fp
  have pk := hk s3 (upd H2 D (.dT [])) s3.heap.objs.size (cellsFrom (s3.heap.objs.size + 1) scope.names (cloFrom X.env.cells scope.names [])) fp
  have pv := hv s3 (upd H2 D (.dT [])) s3.heap.objs.size (cellsFrom (s3.heap.objs.size + 1) scope.names (cloFrom X.env.cells scope.names [])) fp
  show codeAny _ _ (.compStart (.DictComp ke ve [⟨tg, iter, ifs, 0⟩] scope pos) 0 (.ref it) (.ref D) (compEnvC scope (cellsFrom (s3.heap.objs.size + 1) scope.names (cloFrom X.env.cells scope.names [])) s3.heap.objs.size X.env))
    (compPost (model X.prog X.w) X.A X.xe use Qf (.ref D) s3.heap.objs.size) { s3 with heap := pushCells (s3.heap.push { cls := .type "dict", data := .dict #[] }) scope.names }
  have nfp : ∀ b ∈ fp, (upd H2 D (.dT [])) b = none := fun b hb => (f3 b hb).1.1
  generalize hce : compEnvC scope (cellsFrom (s3.heap.objs.size + 1) scope.names (cloFrom X.env.cells scope.names [])) s3.heap.objs.size X.env = ce at I4 pg pt pk pv ⊢
  have cL : ce.locals = s3.heap.objs.size := by
    subst hce
    rfl
  generalize hH3 : upd H2 D (.dT []) = H3 at I3 I4 pg pt pk pv w0 nfp f3
  generalize hs4 : ({ s3 with heap := pushCells (s3.heap.push { cls := .type "dict", data := .dict #[] }) scope.names } : Shared) = s4 at I4 ⊢
  have st4 : tn 0 s4.heap := T.keep _ _ _ st3 fun b _ o e => by
    rw [← hs4]
    exact pushCells_keeps _ _ _ _ (Heap.get?_push_of_some _ e)
  have stat : ∀ {σ' : L2.St} {H' : Hp} {s' : Shared}, Inv (X.blk s3 H3 scope ce fp) [] σ' H' s' → (∀ b ∈ fp, H' b = none) → ∀ b ∈ fp, FpOk (X.blk s3 H3 scope ce fp) [] H' b := by
    intro σ' H' s' Z hn b hb
    exact ⟨hn b hb, (Z.ok.exf b hb).1, Z.ok.exfs b hb, .inl hb, fun x c e => (Z.ok.exf b hb).2 x c e, fun p hp => absurd (show p ∈ ([] : List (Addr × Obj)) ++ [] from hp) (by simp)⟩
  have loop : codeAny (model X.prog X.w) X.A (.compLoop (.DictComp ke ve [⟨tg, iter, ifs, 0⟩] scope pos) 0 (.ref it) (.ref D) ce) (compPost (model X.prog X.w) X.A X.xe use Qf (.ref D) s3.heap.objs.size) s4 := by
    refine compLoop_anyD (fun n s' => ∃ i H', Inv (X.blk s3 H3 scope ce fp) [] (wipe σ (own.map (·.2))) H' s' ∧ tn i s'.heap ∧ (∀ b ∈ fp, H' b = none) ∧ W i n H') ?_ m0 ⟨0, H3, I4, st4, nfp, w0⟩
    rintro n s5 ⟨i, H5, J5, st5, n5, w5⟩
    rcases turn i n H5 w5 with ⟨stop, qq⟩ | ⟨go, Nx, hNx, step⟩
    · refine thnF (T.done (X.blk s3 H3 scope ce fp) rfl rfl rfl calm i [] s5 _ H5 (fun _ _ => False) J5 (stat J5 n5) st5 stop) fun r s6 ⟨hr, J6⟩ => ?_
      subst hr
      have J7 : Inv X pins σ H5 s6 := I3.call' (ch := fp) J6.os J6.base J6.hok J6.bare fun b hb =>
        ⟨(f3 b hb).1.2.2.2.1, (f3 b hb).1.2.1, (f3 b hb).1.2.2.2.2.1, (f3 b hb).1.2.2.2.2.2⟩
      have nC : H5 s3.heap.objs.size = none := by
        have z : H5 ce.locals = none := J6.free
        rwa [cL] at z
      obtain ⟨m, hn, _⟩ := J6.loc
      have hn2 : s6.heap.Ns ce.locals m := hn
      rw [cL] at hn2
      exact fin D s3.heap.objs.size s6 m H5 J7 qq hn2 (I3.fpOk (Nat.le_refl _) nC)
    · refine thnF (T.item (X.blk s3 H3 scope ce fp) rfl rfl rfl calm i [] s5 _ H5 (fun _ _ => False) J5 (stat J5 n5) st5 go) fun r s6 ⟨u, hr, h6⟩ => ?_
      subst hr
      refine thnF h6 fun _ s7 ⟨x, H7, J7, r7, y7, st7, n7⟩ => ?_
      have K7 := J7.pinned (stat J7 n7) (T.obj _ _ st7)
      refine thnF (pg.run _ s7 _ H7 x u _ K7 r7 (step x H7 y7)) fun _ s8 ⟨σ8, H8, J8, hw8, q8⟩ => ?_
      refine thnF (pt.run _ s8 σ8 H8 _ J8 q8) fun b s9 ⟨H9, J9, q9⟩ => ?_
      have back : ∀ {s' : Shared} {H' : Hp}, Inv (X.blk s3 H3 scope ce fp) ([] ++ pinsAt fp s7.heap) σ8 H' s' → Nx H' →
          ∃ m, m < n ∧ ∃ i H', Inv (X.blk s3 H3 scope ce fp) [] (wipe σ (own.map (·.2))) H' s' ∧ tn i s'.heap ∧ (∀ b ∈ fp, H' b = none) ∧ W i m H' := by
        intro s' H' Z nx
        obtain ⟨m', hm, w'⟩ := hNx H' nx
        have stands : ∀ b ∈ fp, ∀ o, s7.heap.get? b = some o → s'.heap.get? b = some o ∧ H' b = none := fun b hb o e =>
          let z := Z.pin (b, o) (List.mem_append_right _ (List.mem_append_right _ (mem_pinsAt hb e)))
          ⟨z.1, z.2.1⟩
        have hl : (wipe σ (own.map (·.2))).length = σ8.length := by
          rw [← hw8, wipe_length]
        refine ⟨m', hm, i + 1, H', (Z.unpinned (pins := [])).weak hl (fun j v e => ?_), T.keep _ _ _ st7 fun b hb o e => (stands b hb o e).1, fun b hb => ?_, w'⟩
        · rw [← hw8] at e
          exact (wipe_some e).1
        · obtain ⟨o, e, _⟩ := T.obj _ _ st7 b hb
          exact (stands b hb o e).2
      cases b with
      | false =>
        simp only [Bool.false_eq_true, if_false] at q9 ⊢
        exact back J9 q9
      | true =>
        simp only [if_true] at q9 ⊢
        refine thnF (pk.run _ s9 σ8 H9 _ J9 q9) fun z s10 ⟨yk, H10, J10, r10, q10⟩ => ?_
        refine thnF (pv.run _ s10 σ8 H10 _ J10 q10) fun z2 s11 ⟨yv, H11, J11, r11, es, k, p, ey, hp11, hD11, hz11, nx⟩ => ?_
        subst ey
        exact put_tup (X := X.blk s3 H3 scope ce fp) hu J11 hD11 hp11 hz11 r10 r11 fun s12 J12 => back J12 nx
  exact codeAny_compStart_dict loop (T.self X.A 0 _ _ _ st4 loop)
theorem pe_dcT {ke ve tg iter : Expr} {ifs : List Expr} {scope : Scope} {own : List (Str × Nat)} {pos : Pos} {wi : TI} {g : TG} {tt : TT} {tk tv : TE} (hu : X.A.units < cLine) (calm : X.calm = true) (hN : X.N.Nodup) (hi : PI X tg iter wi) (ok : BlkOk X.N X.env.scope scope own)
    (hg : ∀ (s : Shared) (H : Hp) (C : Addr) (cl : List (Str × Addr)) (fp : List Addr), PG (X.blk s H scope (compEnvC scope cl C X.env) fp) tg g)
    (ht : ∀ (s : Shared) (H : Hp) (C : Addr) (cl : List (Str × Addr)) (fp : List Addr), PTs (X.blk s H scope (compEnvC scope cl C X.env) fp) ifs tt)
    (hk : ∀ (s : Shared) (H : Hp) (C : Addr) (cl : List (Str × Addr)) (fp : List Addr), PE (X.blk s H scope (compEnvC scope cl C X.env) fp) ke tk)
    (hv : ∀ (s : Shared) (H : Hp) (C : Addr) (cl : List (Str × Addr)) (fp : List Addr), PE (X.blk s H scope (compEnvC scope cl C X.env) fp) ve tv)
    (hs : ∀ x, foldedSetIterable iter X.env x = pure x := by intro _; rfl) : PE X (.DictComp ke ve [⟨tg, iter, ifs, 0⟩] scope pos) (tDcT wi g tt tk tv (own.map (·.2))) := by
  constructor
  intro pins s σ H Q I h
  rw [arm_eval_DictComp]
  refine dcT_run hu calm hN I hi ok hg ht hk hv hs h fun D C s2 m H2 I2 q hn f => ⟨m, hn, fun h3 sb => ?_⟩
  obtain ⟨f0, f1, f2, f3, f4, f5⟩ := f
  exact ⟨.ref D, H2, I2.turned (t' := s2.toks) (fun b o hb e => (sb.2 b hb).trans e) f0 f1 f3 f4 f5, rfl, q⟩
end
end XK
set_option Elab.async false
set_option linter.all false
set_option maxRecDepth 100000
set_option maxHeartbeats 4000000
/-! ### comprehensions by what their items are -/
namespace Q
open PySem L2 XD
/-- x in a tuple of data -/
def rInT (K : PySem.W.Frag) (neg : Bool) : R2 := fun x y H Q => ∃ (p : Addr) (ys : List V) (ds : List PyData) (d : PyData), y = .ref p ∧ SqT K H p ys ∧ DpAll K H ys ds ∧ PyData.canLayAll0 ds = true ∧ Dp K H x d ∧ SeqAt.shaped d = true ∧
  Q (.bl (if neg = true then !ds.any (fun z => PyData.eqv z d) else ds.any fun z => PyData.eqv z d)) H
theorem op_inT {X : Cx} (hu : X.A.units + 65 < cLine) : OpR X (compareOp .In) (rInT X.K false) := by
  intro pins s σ H x y v u Q I rx ry h
  obtain ⟨p, ys, ds, d, rfl, hq, ha, lay, hd, sd, q⟩ := h
  cases ry
  obtain ⟨bs, r1⟩ := Dp.reads I d x v hd rx
  obtain ⟨its, rv, pl, hz⟩ := I.tuple hq
  obtain ⟨as, r2⟩ := Dp.readsAll I ds _ its ha rv
  have r3 : ReadsAll s.heap its.toArray.toList ds as := by simpa using r2
  refine SeqAt.in_tupleAt _ pl (SeqAt.items_eqAt r3 r1 lay (SeqAt.canLay_of_shaped sd) (PyProof.Rows.room_in_shaped sd hu)) ⟨.bl _, H, I, rfl, ?_⟩
  rw [SeqAt.any_by_data r3 lay]
  exact q
theorem op_notInT {X : Cx} (hu : X.A.units + 65 < cLine) : OpR X (compareOp .NotIn) (rInT X.K true) := by
  intro pins s σ H x y v u Q I rx ry h
  obtain ⟨p, ys, ds, d, rfl, hq, ha, lay, hd, sd, q⟩ := h
  cases ry
  obtain ⟨bs, r1⟩ := Dp.reads I d x v hd rx
  obtain ⟨its, rv, pl, hz⟩ := I.tuple hq
  obtain ⟨as, r2⟩ := Dp.readsAll I ds _ its ha rv
  have r3 : ReadsAll s.heap its.toArray.toList ds as := by simpa using r2
  refine SeqAt.notIn_tupleAt _ pl (SeqAt.items_eqAt r3 r1 lay (SeqAt.canLay_of_shaped sd) (PyProof.Rows.room_in_shaped sd hu)) ⟨.bl _, H, I, rfl, ?_⟩
  rw [SeqAt.any_by_data r3 lay]
  exact q
theorem op_eqDK {X : Cx} (K : PySem.W.Frag) (h : X.K = K) (hu : X.A.units + 64 < cLine) : OpR X (compareOp .Eq) (rEqD K) := by
  subst h
  exact op_eqD hu
theorem op_inTK {X : Cx} (K : PySem.W.Frag) (h : X.K = K) (hu : X.A.units + 65 < cLine) : OpR X (compareOp .In) (rInT K false) := by
  subst h
  exact op_inT hu
theorem op_notInTK {X : Cx} (K : PySem.W.Frag) (h : X.K = K) (hu : X.A.units + 65 < cLine) : OpR X (compareOp .NotIn) (rInT K true) := by
  subst h
  exact op_notInT hu
theorem alive_of {D : Addr} {H : Hp} {xs : List V} (e : H D = some (.lst xs)) : Alive [D] H := fun b hb => by
  rw [List.mem_singleton.mp hb, e]
  exact fun z => by cases z
theorem same_rm1 {D : Addr} {H H' : Hp} (hD : H D = none) (s : Same H H') : Same H (rmL [D] H') := same_rm s fun b hb => by rw [List.mem_singleton.mp hb]; exact hD
theorem range_filter {n : Nat} {sel : Nat → Bool} : (List.range (n + 1)).filter sel = (List.range n).filter sel ++ if sel n = true then [n] else [] := by
  rw [List.range_succ, List.filter_append]
  congr 1
  by_cases h : sel n = true
  · rw [if_pos h, List.filter_cons_of_pos h] <;> rfl
  · rw [if_neg h, List.filter_cons_of_neg h] <;> rfl
theorem prd_imp {α β : Type} {R R' : α → β → Prop} (h : ∀ x y, R x y → R' x y) : ∀ {xs : List α} {ys : List β}, Paired R xs ys → Paired R' xs ys
  | _, _, .nil => .nil
  | _, _, .cons a b => .cons (h _ _ a) (prd_imp h b)
/-- the comprehension over a list or a tuple: P tells an item by its turn, in the heap without the new list -/
theorem lc_g {K : PySem.W.Frag} {p : Addr} {ys : List V} {t0 : TE} {g : TG} {tt : TT} {te : TE} {vs : List Nat} {σ : L2.St} {H : Hp} {Q : VK} (P : Nat → V → Hp → Prop) (sel : Nat → Bool)
    (mono : ∀ i v R R', Same R R' → P i v R → P i v R') (ht : ∀ Q' : VK, Q' (.ref p) H → t0 σ H Q') (hq : SqL K H p ys ∨ SqT K H p ys) (hl : ys.length ≤ 1000)
    (turn : ∀ (D : Addr) (i : Nat) (x : V) (H' : Hp) (yes : VK) (no : Hp → Prop), Alive [D] H' → Same H H' → Same H (rmL [D] H') → ys[i]? = some x →
      (sel i = true → ∀ y H4, Same H' H4 → P i y (rmL [D] H4) → yes y H4) → (sel i = false → ∀ H4, Same H' H4 → no H4) →
      g x (wipe σ vs) H' fun σ2 H2 => wipe σ2 vs = wipe σ vs ∧ tt σ2 H2 fun b H3 => if b = true then te σ2 H3 yes else no H3)
    (hd : ∀ D H' zs, H D = none → Same H H' → H' D = some (.lst zs) → Paired (fun z i => P i z (rmL [D] H')) zs ((List.range ys.length).filter sel) → Q (.ref D) H') : tLc (iRow K t0) g tt te vs σ H Q := by
  refine lc_row (ys := ys) (fun D i H' => ∃ zs, H' D = some (.lst zs) ∧ Paired (fun z i => P i z (rmL [D] H')) zs ((List.range i).filter sel) ∧ Same H H') ht hq (fun D hD => ⟨[], upd_same, .nil, new_same hD _⟩) (fun D i H' _ hP => by obtain ⟨_, _, _, z⟩ := hP; exact z) (fun D i x H' hD hi hP hx => ?_) (fun D H' hD hP => ?_)
  · obtain ⟨zs, g1, g2, g3⟩ := hP
    refine turn D i x H' _ _ (alive_of g1) g3 (same_rm1 hD g3) hx (fun hs y H4 s4 hy => ⟨zs, s4 _ _ g1, small1000 ?_, zs ++ [y], upd_same, ?_, fun b o z => ?_⟩) (fun hs H4 s4 => ⟨zs, s4 _ _ g1, ?_, g3.trans s4⟩)
    · rw [prd_len g2]
      refine Nat.le_trans (List.length_filter_le _ _) ?_
      rw [List.length_range]
      omega
    · rw [rm_put (List.mem_singleton.mpr rfl), range_filter, if_pos hs]
      exact prd_snoc (prd_imp (fun z i h => mono i z _ _ (rm_same s4) h) g2) hy
    · rw [upd_ne (ne_of_none z hD)]
      exact s4 _ _ (g3 _ _ z)
    · rw [range_filter, if_neg (by rw [hs]; exact Bool.false_ne_true), List.append_nil]
      exact prd_imp (fun z i h => mono i z _ _ (rm_same s4) h) g2
  · obtain ⟨zs, g1, g2, g3⟩ := hP
    exact hd D H' zs hD g3 g1 g2
def pairsTo (n m : Nat) (sel : Nat → Nat → Bool) (i : Nat) : List (Nat × Nat) := ((List.range m).filter (sel i)).map fun j => (i, j)
def gridTo (n m : Nat) (sel : Nat → Nat → Bool) : List (Nat × Nat) := (List.range n).flatMap (pairsTo n m sel)
theorem grid_next {n m : Nat} {sel : Nat → Nat → Bool} : gridTo (n + 1) m sel = gridTo n m sel ++ pairsTo n m sel n := by
  unfold gridTo
  rw [List.range_succ, List.flatMap_append, List.flatMap_cons, List.flatMap_nil, List.append_nil]
  rfl
/-- one for in another one -/
theorem lc_g2 {K : PySem.W.Frag} {p q : Addr} {ys us : List V} {t0 t1 : TE} {g g1 : TG} {tt1 : TT} {te : TE} {vs vs1 : List Nat} {σ : L2.St} {H : Hp} {Q : VK} (P : Nat × Nat → V → Hp → Prop) (sel : Nat → Nat → Bool)
    (mono : ∀ i v R R', Same R R' → P i v R → P i v R') (ht : ∀ Q' : VK, Q' (.ref p) H → t0 σ H Q') (hq : SqL K H p ys ∨ SqT K H p ys) (hu : SqL K H q us ∨ SqT K H q us) (hl : (gridTo ys.length us.length sel).length ≤ 1000)
    (turn : ∀ (D : Addr) (i : Nat) (x : V) (H' : Hp), Alive [D] H' → Same H H' → Same H (rmL [D] H') → ys[i]? = some x → ∀ rest : L2.St → Hp → Prop,
      (∀ σ2, wipe σ2 vs = wipe σ vs → (∀ R : VK, R (.ref q) H' → t1 σ2 H' R) →
        (∀ (j : Nat) (u : V) (H3 : Hp) (yes : VK) (no : Hp → Prop), Alive [D] H3 → Same H H3 → Same H (rmL [D] H3) → us[j]? = some u →
          (sel i j = true → ∀ y H4, Same H3 H4 → P (i, j) y (rmL [D] H4) → yes y H4) → (sel i j = false → ∀ H4, Same H3 H4 → no H4) →
          g1 u (wipe σ2 vs1) H3 fun σ3 H5 => wipe σ3 vs1 = wipe σ2 vs1 ∧ tt1 σ3 H5 fun b H6 => if b = true then te σ3 H6 yes else no H6) → rest σ2 H') → g x (wipe σ vs) H' rest)
    (hd : ∀ D H' zs, H D = none → Same H H' → H' D = some (.lst zs) → Paired (fun z i => P i z (rmL [D] H')) zs (gridTo ys.length us.length sel) → Q (.ref D) H') : tLc2 (iRow K t0) g tYes (iRow K t1) g1 tt1 te vs vs1 σ H Q := by
  -- the state ahead of turn i, within it ahead of turn j
  let Pv : Addr → Nat → Hp → Prop := fun D i H' => ∃ zs, H' D = some (.lst zs) ∧ Paired (fun z i => P i z (rmL [D] H')) zs (gridTo i us.length sel) ∧ Same H H'
  let Pw : Addr → Nat → Nat → Hp → Prop := fun D i j H' => ∃ zs, H' D = some (.lst zs) ∧ Paired (fun z i => P i z (rmL [D] H')) zs (gridTo i us.length sel ++ ((List.range j).filter (sel i)).map fun j => (i, j)) ∧ Same H H'
  have all : ∀ {J : It} {G : Hp → Prop}, (walk : Walk J ys.length G (YAt ys)) → (∀ H', Same H H' → G H') → ∀ D, H D = none → ∃ W : Nat → Nat → Hp → Prop, (∃ m, W 0 m (upd H D (.lst []))) ∧ ∀ i m H, W i m H →
      (J.stop i H ∧ Q (.ref D) H) ∨ (J.go i H ∧ ∃ Nx : Hp → Prop, (∀ H', Nx H' → ∃ m', m' < m ∧ W (i + 1) m' H') ∧ ∀ x H', J.yld i H x H' → g x (wipe σ vs) H' fun σ2 H2 => wipe σ2 vs = wipe σ vs ∧ tYes σ2 H2 fun b H3 =>
        if b = true then (iRow K t1) σ2 H3 fun J1 H4 => ∃ W1 : Nat → Nat → Hp → Prop, (∃ m, W1 0 m H4) ∧ ∀ j k H, W1 j k H →
          (J1.stop j H ∧ Nx H) ∨ (J1.go j H ∧ ∃ Nx1 : Hp → Prop, (∀ H', Nx1 H' → ∃ k', k' < k ∧ W1 (j + 1) k' H') ∧ ∀ x H', J1.yld j H x H' → g1 x (wipe σ2 vs1) H' fun σ3 H5 => wipe σ3 vs1 = wipe σ2 vs1 ∧ tt1 σ3 H5 fun b H6 =>
            if b = true then te σ3 H6 fun y H7 => ∃ acc, H7 D = some (.lst acc) ∧ acc.length < sizeLine ∧ Nx1 (upd H7 D (.lst (acc ++ [y]))) else Nx1 H6)
        else Nx H3) := by
    intro J G walk hG D hD
    refine ⟨fun i m H' => m = ys.length - i ∧ i ≤ ys.length ∧ Pv D i H', ⟨ys.length, by simp, Nat.zero_le _, [], upd_same, .nil, new_same hD _⟩, ?_⟩
    rintro i m H' ⟨rfl, hi, zs, g2, g3, g4⟩
    by_cases hlt : i < ys.length
    · refine .inr ⟨walk.goes i H' hlt (hG H' g4), Pv D (i + 1), fun H5 p' => ⟨ys.length - (i + 1), by omega, rfl, hlt, p'⟩, fun x H5 y => ?_⟩
      obtain ⟨rfl, hx⟩ := walk.yields i H' x H5 hlt (hG H' g4) y
      refine turn D i x _ (alive_of g2) g4 (same_rm1 hD g4) hx _ fun σ2 hw ht1 step => ⟨hw, ?_⟩
      unfold tYes
      refine iteT ?_
      have inner : ∀ {J1 : It} {G1 : Hp → Prop}, (walk1 : Walk J1 us.length G1 (YAt us)) → (∀ H', Same H H' → G1 H') → ∃ W1 : Nat → Nat → Hp → Prop, (∃ m, W1 0 m H5) ∧ ∀ j k H, W1 j k H →
          (J1.stop j H ∧ Pv D (i + 1) H) ∨ (J1.go j H ∧ ∃ Nx1 : Hp → Prop, (∀ H', Nx1 H' → ∃ k', k' < k ∧ W1 (j + 1) k' H') ∧ ∀ x H', J1.yld j H x H' → g1 x (wipe σ2 vs1) H' fun σ3 H5 => wipe σ3 vs1 = wipe σ2 vs1 ∧ tt1 σ3 H5 fun b H6 =>
            if b = true then te σ3 H6 fun y H7 => ∃ acc, H7 D = some (.lst acc) ∧ acc.length < sizeLine ∧ Nx1 (upd H7 D (.lst (acc ++ [y]))) else Nx1 H6) := by
        intro J1 G1 walk1 hG1
        refine ⟨fun j k H' => k = us.length - j ∧ j ≤ us.length ∧ Pw D i j H', ⟨us.length, by simp, Nat.zero_le _, zs, g2, ?_, g4⟩, ?_⟩
        · show Paired _ zs (gridTo i us.length sel ++ [])
          rw [List.append_nil]
          exact g3
        rintro j k H6 ⟨rfl, hj, zs6, k2, k3, k4⟩
        by_cases hjt : j < us.length
        · refine .inr ⟨walk1.goes j H6 hjt (hG1 H6 k4), Pw D i (j + 1), fun H7 p' => ⟨us.length - (j + 1), by omega, rfl, hjt, p'⟩, fun u H7 y => ?_⟩
          obtain ⟨rfl, hu7⟩ := walk1.yields j H6 u H7 hjt (hG1 H6 k4) y
          have len : zs6.length < 1000 ∨ sel i j = false := by
            by_cases hs : sel i j = true
            · left
              have e : (gridTo i us.length sel ++ ((List.range j).filter (sel i)).map fun j => (i, j)).length < (gridTo ys.length us.length sel).length := by
                have big : ∀ n, i < n → (gridTo (i + 1) us.length sel).length ≤ (gridTo n us.length sel).length := by
                  intro n hn
                  induction n with
                  | zero => omega
                  | succ n ih =>
                    by_cases e : i = n
                    · rw [e]
                      exact Nat.le_refl _
                    · refine Nat.le_trans (ih (by omega)) ?_
                      rw [grid_next, List.length_append]
                      omega
                refine Nat.lt_of_lt_of_le ?_ (big _ hlt)
                rw [grid_next, List.length_append, List.length_append, List.length_map]
                unfold pairsTo
                rw [List.length_map]
                have more : ∀ n, j < n → ((List.range j).filter (sel i)).length < ((List.range n).filter (sel i)).length := by
                  intro n hn
                  induction n with
                  | zero => omega
                  | succ n ih =>
                    rw [range_filter, List.length_append]
                    by_cases e : j = n
                    · rw [← e, if_pos hs, List.length_singleton]
                      omega
                    · have := ih (by omega)
                      omega
                have := more _ hjt
                omega
              rw [prd_len k3]
              omega
            · right
              rw [← Bool.not_eq_true]
              exact hs
          refine step j u _ _ _ (alive_of k2) k4 (same_rm1 hD k4) hu7 (fun hs y H8 s8 hy => ⟨zs6, s8 _ _ k2, small1000 ?_, zs6 ++ [y], upd_same, ?_, fun b o z => ?_⟩) (fun hs H8 s8 => ⟨zs6, s8 _ _ k2, ?_, k4.trans s8⟩)
          · rcases len with h | h
            · omega
            · rw [hs] at h
              cases h
          · rw [rm_put (List.mem_singleton.mpr rfl), range_filter, if_pos hs, List.map_append, ← List.append_assoc]
            exact prd_snoc (prd_imp (fun z i h => mono i z _ _ (rm_same s8) h) k3) hy
          · rw [upd_ne (ne_of_none z hD)]
            exact s8 _ _ (k4 _ _ z)
          · rw [range_filter, if_neg (by rw [hs]; exact Bool.false_ne_true), List.append_nil]
            exact prd_imp (fun z i h => mono i z _ _ (rm_same s8) h) k3
        · have e : j = us.length := by omega
          subst e
          refine .inl ⟨walk1.stops H6 (hG1 H6 k4), zs6, k2, ?_, k4⟩
          rw [grid_next]
          exact k3
      rcases hu with hu | hu
      · exact .inl (ht1 _ ⟨q, rfl, ⟨us, g4.seq hu⟩, inner walk_list (fun H' s => s.seq hu)⟩)
      · exact .inr (ht1 _ ⟨q, rfl, ⟨us, seqT_same g4 hu⟩, inner walk_tup (fun H' s => seqT_same s hu)⟩)
    · have e : i = ys.length := by omega
      subst e
      exact .inl ⟨walk.stops H' (hG H' g4), hd D H' zs hD g4 g2 g3⟩
  rcases hq with hq | hq
  · exact .inl (ht _ ⟨p, rfl, ⟨ys, hq⟩, all walk_list (fun H' s => s.seq hq)⟩)
  · exact .inr (ht _ ⟨p, rfl, ⟨ys, hq⟩, all walk_tup (fun H' s => seqT_same s hq)⟩)
end Q
set_option Elab.async false
set_option linter.all false
set_option maxRecDepth 100000
set_option maxHeartbeats 4000000
/-! ### fillings, what they are -/
namespace Q
open PySem L2 XD
abbrev Pr := Str × Str
abbrev Tbl := List (Str × List Str)
def endsIn (p : Pr) (r : List Pr) : Bool := decide (r.getLast? = some p)
def barsOf (rs : List (List Pr)) (p : Pr) : List (List Pr) := (rs.filter (endsIn p)).map List.dropLast
def within (l row : List Pr) : Bool := l.all fun p => decide (p ∈ row)
def oneStands (ls : List (List Pr)) (row : List Pr) : Bool := ls.any fun l => within l row
def letV (f : List Pr) (n v : Str) : Bool := decide ((pick n f).getD v = v)
def prsOf (f : List Pr) (e : Str × List Str) : List Pr := (e.2.filter (letV f e.1)).map fun v => (e.1, v)
def longer (rs : List (List Pr)) (f : List Pr) (rows : List (List Pr)) (e : Str × List Str) : List (List Pr) := rows.flatMap fun row => ((prsOf f e).filter fun p => !oneStands (barsOf rs p) row).map fun p => row ++ [p]
def fills (rs : List (List Pr)) (f : List Pr) (t : Tbl) : List (List Pr) := t.foldl (longer rs f) [[]]
/-- all choices -/
def wider (rows : List (List Pr)) (e : Str × List Str) : List (List Pr) := rows.flatMap fun row => e.2.map fun v => row ++ [(e.1, v)]
def chs (t : Tbl) : List (List Pr) := t.foldl wider [[]]
def okRow (rs : List (List Pr)) (f row : List Pr) : Bool := (row.all fun p => letV f p.1 p.2) && rs.all fun r => !within r row
/-- a rule in the sequence of the fields -/
def RSeq (t : Tbl) (r : List Pr) : Prop := r ≠ [] ∧ (r.map (·.1)).Sublist (t.map (·.1))
theorem within_iff {l row : List Pr} : within l row = true ↔ ∀ p ∈ l, p ∈ row := by
  unfold within
  rw [List.all_eq_true]
  exact ⟨fun h p hp => of_decide_eq_true (h p hp), fun h p hp => decide_eq_true (h p hp)⟩
theorem ends_split {t1 : Tbl} {e : Str × List Str} {t2 : Tbl} (nd : ((t1 ++ e :: t2).map (·.1)).Nodup) {r row : List Pr} {p : Pr} (hr : RSeq (t1 ++ e :: t2) r) (hn : row.map (·.1) = t1.map (·.1)) (hp : p.1 = e.1) (hw : ∀ q ∈ r, q ∈ row ++ [p]) :
    (∀ q ∈ r, q ∈ row) ∨ (r.getLast? = some p ∧ ∀ q ∈ r.dropLast, q ∈ row) := by
  obtain ⟨h0, hs⟩ := hr
  rw [List.map_append, List.map_cons] at hs nd
  obtain ⟨a, b, eab, ha, hb⟩ := List.sublist_append_iff.mp hs
  have nd1 := List.nodup_append.mp nd
  have nd2 := List.nodup_cons.mp nd1.2.1
  have names : ∀ q ∈ r, q.1 ∈ t1.map (·.1) ∨ q.1 = e.1 := fun q hq => by
    rcases List.mem_append.mp (hw q hq) with h | h
    · left
      rw [← hn]
      exact List.mem_map.mpr ⟨q, h, rfl⟩
    · right
      rw [List.mem_singleton.mp h]
      exact hp
  have inrow : ∀ q ∈ r, q.1 ∈ t1.map (·.1) → q ∈ row := fun q hq h => by
    rcases List.mem_append.mp (hw q hq) with h2 | h2
    · exact h2
    · rw [List.mem_singleton.mp h2, hp] at h
      exact absurd rfl (nd1.2.2 _ h _ List.mem_cons_self)
  have hbn : ∀ x ∈ b, x = e.1 := fun x hx => by
    have : x ∈ r.map (·.1) := by rw [eab]; exact List.mem_append_right _ hx
    obtain ⟨q, hq, rfl⟩ := List.mem_map.mp this
    rcases names q hq with h | h
    · exact absurd rfl (nd1.2.2 _ h _ (hb.subset hx))
    · exact h
  have hb1 : b = [] ∨ b = [e.1] := by
    have ndb : b.Nodup := hb.nodup nd1.2.1
    match b, hbn, ndb with
    | [], _, _ => exact .inl rfl
    | [x], h, _ => exact .inr (by rw [h x List.mem_cons_self])
    | x :: y :: l, h, n =>
      have e1 := h x List.mem_cons_self
      have e2 := h y (List.mem_cons_of_mem _ List.mem_cons_self)
      rw [e1, e2] at n
      exact absurd List.mem_cons_self (List.nodup_cons.mp n).1
  rcases hb1 with rfl | rfl
  · left
    intro q hq
    refine inrow q hq (ha.subset ?_)
    rw [← List.append_nil a, ← eab]
    exact List.mem_map.mpr ⟨q, hq, rfl⟩
  · right
    obtain ⟨r1, r2, er, e1, e2⟩ := List.map_eq_append_iff.mp eab
    obtain ⟨q, rfl, e3⟩ : ∃ q, r2 = [q] ∧ q.1 = e.1 := by
      cases r2 with
      | nil => cases e2
      | cons q l =>
        rw [List.map_cons] at e2
        have e4 := List.cons.inj e2
        have e5 : l = [] := List.map_eq_nil_iff.mp e4.2
        rw [e5]
        exact ⟨q, rfl, e4.1⟩
    have hq : q ∈ row ++ [p] := hw q (by rw [er]; exact List.mem_append_right _ (List.mem_singleton.mpr rfl))
    have eq : q = p := by
      rcases List.mem_append.mp hq with h | h
      · have : q.1 ∈ t1.map (·.1) := by rw [← hn]; exact List.mem_map.mpr ⟨q, h, rfl⟩
        rw [e3] at this
        exact absurd rfl (nd1.2.2 _ this _ List.mem_cons_self)
      · exact List.mem_singleton.mp h
    subst eq
    refine ⟨by rw [er, List.getLast?_append]; rfl, fun x hx => ?_⟩
    rw [er, List.dropLast_concat] at hx
    refine inrow x (by rw [er]; exact List.mem_append_left _ hx) (ha.subset ?_)
    rw [← e1]
    exact List.mem_map.mpr ⟨x, hx, rfl⟩
theorem last_back {r : List Pr} {p : Pr} (h : r.getLast? = some p) : r = r.dropLast ++ [p] := by
  have hne : r ≠ [] := fun z => by rw [z] at h; cases h
  have := List.dropLast_concat_getLast hne
  rw [List.getLast?_eq_some_getLast hne] at h
  rw [← Option.some.inj h]
  exact this.symm
theorem okRow_snoc {t1 : Tbl} {e : Str × List Str} {t2 : Tbl} (nd : ((t1 ++ e :: t2).map (·.1)).Nodup) {rs : List (List Pr)} {f row : List Pr} {p : Pr} (hr : ∀ r ∈ rs, RSeq (t1 ++ e :: t2) r) (hn : row.map (·.1) = t1.map (·.1)) (hp : p.1 = e.1) :
    okRow rs f (row ++ [p]) = (okRow rs f row && (letV f p.1 p.2 && !oneStands (barsOf rs p) row)) := by
  rw [Bool.eq_iff_iff]
  unfold okRow
  simp only [Bool.and_eq_true, List.all_eq_true, List.all_append, List.all_cons, List.all_nil, Bool.and_true, Bool.not_eq_true']
  have no : ∀ {l m : List Pr}, within l m = false ↔ ¬ ∀ x ∈ l, x ∈ m := fun {l m} => by
    rw [← within_iff, Bool.not_eq_true]
  constructor
  · rintro ⟨⟨h1, h2⟩, h3⟩
    refine ⟨⟨h1, fun r hm => no.mpr fun z => (no.mp (h3 r hm)) fun x hx => List.mem_append_left _ (z x hx)⟩, h2, ?_⟩
    unfold oneStands barsOf
    rw [List.any_eq_false]
    intro l hl
    obtain ⟨r, hm, rfl⟩ := List.mem_map.mp hl
    obtain ⟨hm, he⟩ := List.mem_filter.mp hm
    have he := of_decide_eq_true he
    rw [Bool.not_eq_true, no]
    intro z
    refine (no.mp (h3 r hm)) fun x hx => ?_
    rw [last_back he] at hx
    rcases List.mem_append.mp hx with hx | hx
    · exact List.mem_append_left _ (z x hx)
    · exact List.mem_append_right _ hx
  · rintro ⟨⟨h1, h3⟩, h2, h4⟩
    refine ⟨⟨h1, h2⟩, fun r hm => no.mpr fun z => ?_⟩
    rcases ends_split nd (hr r hm) hn hp z with h | ⟨h, g⟩
    · exact no.mp (h3 r hm) h
    · unfold oneStands barsOf at h4
      rw [List.any_eq_false] at h4
      have := h4 r.dropLast (List.mem_map.mpr ⟨r, List.mem_filter.mpr ⟨hm, decide_eq_true h⟩, rfl⟩)
      rw [Bool.not_eq_true, no] at this
      exact this g
theorem chs_names : ∀ (t1 : Tbl) (rows : List (List Pr)) (ns : List Str), (∀ row ∈ rows, row.map (·.1) = ns) → ∀ row ∈ t1.foldl wider rows, row.map (·.1) = ns ++ t1.map (·.1)
  | [], rows, ns, h => fun row hr => by rw [List.map_nil, List.append_nil]; exact h row hr
  | e :: t1, rows, ns, h => fun row hr => by
    have := chs_names t1 (wider rows e) (ns ++ [e.1]) (fun x hx => by
      obtain ⟨y, hy, hx⟩ := List.mem_flatMap.mp hx
      obtain ⟨v, _, rfl⟩ := List.mem_map.mp hx
      rw [List.map_append, h y hy] <;> rfl) row hr
    rw [this, List.append_assoc] <;> rfl
theorem fm_filter {α β : Type} {p : α → Bool} {g : α → List β} : ∀ l : List α, (l.filter p).flatMap g = l.flatMap fun x => if p x = true then g x else []
  | [] => rfl
  | x :: l => by
    by_cases h : p x = true
    · rw [List.filter_cons_of_pos h, List.flatMap_cons, List.flatMap_cons, fm_filter l, if_pos h]
    · rw [List.filter_cons_of_neg h, List.flatMap_cons, fm_filter l, if_neg h, List.nil_append]
theorem fm_congr {α β : Type} {g g' : α → List β} : ∀ {l : List α}, (∀ x ∈ l, g x = g' x) → l.flatMap g = l.flatMap g'
  | [], _ => rfl
  | x :: l, h => by rw [List.flatMap_cons, List.flatMap_cons, h x List.mem_cons_self, fm_congr fun y hy => h y (List.mem_cons_of_mem _ hy)]
theorem fills_go {rs : List (List Pr)} {f : List Pr} : ∀ (t2 t1 : Tbl), ((t1 ++ t2).map (·.1)).Nodup → (∀ r ∈ rs, RSeq (t1 ++ t2) r) → t2.foldl (longer rs f) ((chs t1).filter (okRow rs f)) = (chs (t1 ++ t2)).filter (okRow rs f)
  | [], t1, _, _ => by rw [List.append_nil] <;> rfl
  | e :: t2, t1, nd, hr => by
    have e1 : t1 ++ e :: t2 = (t1 ++ [e]) ++ t2 := by rw [List.append_assoc] <;> rfl
    have e2 : chs (t1 ++ [e]) = wider (chs t1) e := by unfold chs; rw [List.foldl_append] <;> rfl
    have key : longer rs f ((chs t1).filter (okRow rs f)) e = (chs (t1 ++ [e])).filter (okRow rs f) := by
      rw [e2]
      unfold longer wider
      rw [fm_filter, List.filter_flatMap]
      refine fm_congr fun row hrow => ?_
      have hn : row.map (·.1) = t1.map (·.1) := by
        have := chs_names t1 [[]] [] (fun x hx => by rw [List.mem_singleton.mp hx] <;> rfl) row hrow
        rw [List.nil_append] at this
        exact this
      have sn : ∀ v, okRow rs f (row ++ [(e.1, v)]) = (okRow rs f row && (letV f e.1 v && !oneStands (barsOf rs (e.1, v)) row)) := fun v => okRow_snoc (p := (e.1, v)) nd hr hn rfl
      rw [List.filter_map]
      have c : (okRow rs f ∘ fun v => row ++ [(e.1, v)]) = fun v => okRow rs f row && (letV f e.1 v && !oneStands (barsOf rs (e.1, v)) row) := funext sn
      rw [c]
      by_cases h : okRow rs f row = true
      · rw [if_pos h, h]
        unfold prsOf
        rw [List.filter_map, List.map_map, List.filter_filter]
        congr 1
        refine List.filter_congr fun v _ => ?_
        rw [Bool.true_and, Bool.and_comm] <;> rfl
      · rw [if_neg h]
        have : okRow rs f row = false := by rw [← Bool.not_eq_true]; exact h
        rw [this]
        simp
    rw [List.foldl_cons, key, fills_go t2 (t1 ++ [e]) (by rw [← e1]; exact nd) (by rw [← e1]; exact hr), ← e1]
theorem fills_eq {rs : List (List Pr)} {f : List Pr} {t : Tbl} (nd : (t.map (·.1)).Nodup) (hr : ∀ r ∈ rs, RSeq t r) : fills rs f t = (chs t).filter (okRow rs f) := by
  have := fills_go (rs := rs) (f := f) t [] nd hr
  have z : (chs []).filter (okRow rs f) = [[]] := by
    have h0 : okRow rs f [] = true := by
      unfold okRow
      rw [List.all_nil, Bool.true_and, List.all_eq_true]
      intro r hm
      have hne := (hr r hm).1
      cases r with
      | nil => exact absurd rfl hne
      | cons q r =>
        have : within (q :: r) [] = false := by
          rw [← Bool.not_eq_true, within_iff]
          intro z
          exact absurd (z q List.mem_cons_self) List.not_mem_nil
        rw [this] <;> rfl
    show List.filter (okRow rs f) [[]] = [[]]
    rw [List.filter_cons_of_pos h0] <;> rfl
  rw [z] at this
  exact this
end Q
set_option Elab.async false
set_option linter.all false
set_option maxRecDepth 100000
set_option maxHeartbeats 4000000
/-! ### _bars, _one_stands -/
namespace Q
open PySem L2 XD
/-- a tuple of pairs -/
def LotAt (K : PySem.W.Frag) (H : Hp) (p : Addr) (l : List Pr) : Prop := ∃ qs : List Addr, SqT K H p (qs.map V.ref) ∧ Paired (fun q (e : Pr) => SqT K H q [.str e.1, .str e.2]) qs l
def LotsAt (K : PySem.W.Frag) (H : Hp) (z : Addr) (ls : List (List Pr)) : Prop := ∃ ps : List Addr, SqL K H z (ps.map V.ref) ∧ Paired (LotAt K H) ps ls
theorem LotAt.same {K : PySem.W.Frag} {H H' : Hp} {p : Addr} {l : List Pr} (s : Same H H') (h : LotAt K H p l) : LotAt K H' p l := by
  obtain ⟨qs, a, b⟩ := h
  exact ⟨qs, seqT_same s a, prd_same s b⟩
theorem LotsAt.same {K : PySem.W.Frag} {H H' : Hp} {p : Addr} {l : List (List Pr)} (s : Same H H') (h : LotsAt K H p l) : LotsAt K H' p l := by
  obtain ⟨qs, a, b⟩ := h
  exact ⟨qs, s.seq a, prd_imp (fun _ _ z => z.same s) b⟩
theorem pairs_dps {K : PySem.W.Frag} {H : Hp} : ∀ {qs : List Addr} {l : List Pr}, Paired (fun q (e : Pr) => SqT K H q [.str e.1, .str e.2]) qs l → DpAll K H (qs.map V.ref) (l.map fun e => .tuple [.str e.1, .str e.2])
  | _, _, .nil => .nil
  | _, _, .cons a b => .cons (.tup a (.cons (.str _) (.cons (.str _) .nil))) (pairs_dps b)
theorem LotAt.dp {K : PySem.W.Frag} {H : Hp} {p : Addr} {l : List Pr} (h : LotAt K H p l) : Dp K H (.ref p) (ruleD l) := by
  obtain ⟨qs, a, b⟩ := h
  exact .tup a (pairs_dps b)
theorem rule_lot {K : PySem.W.Frag} {H : Hp} {p : Addr} {l : List Pr} (h : RuleAt K H p l) : LotAt K H p l := by
  obtain ⟨qs, a, b⟩ := h
  exact ⟨qs, a.sqT, b⟩
abbrev pD (e : Pr) : PyData := .tuple [.str e.1, .str e.2]
theorem pD_dp {K : PySem.W.Frag} {H : Hp} {q : Addr} {e : Pr} (h : SqT K H q [.str e.1, .str e.2]) : Dp K H (.ref q) (pD e) := .tup h (.cons (.str _) (.cons (.str _) .nil))
theorem eqv_pD (a b : Pr) : PyData.eqv (pD a) (pD b) = decide (a = b) := by
  obtain ⟨n, w⟩ := a
  obtain ⟨m, v⟩ := b
  rw [PyData.eqv, PyData.eqvAll, PyData.eqvAll, PyData.eqvAll, PyData.eqv, PyData.eqv]
  by_cases h1 : n = m
  · by_cases h2 : w = v
    · rw [decide_eq_true (show ((n, w) : Pr) = (m, v) by rw [h1, h2])]
      simp [h1, h2]
    · rw [decide_eq_false (show ¬ ((n, w) : Pr) = (m, v) from fun z => h2 (Prod.mk.inj z).2)]
      simp [h2]
  · rw [decide_eq_false (show ¬ ((n, w) : Pr) = (m, v) from fun z => h1 (Prod.mk.inj z).1)]
    simp [h1]
theorem pD_shaped {e : Pr} (h : PyData.strOk e.1 = true ∧ PyData.strOk e.2 = true) : SeqAt.shaped (pD e) = true := by
  unfold SeqAt.shaped
  rw [Bool.and_eq_true]
  refine ⟨?_, decide_eq_true ?_⟩
  · simp [PyData.canLay0, PyData.canLayAll0, h.1, h.2]
  · simp [PyData.depth, PyData.depthAll]
theorem any_pD (l : List Pr) (p : Pr) : ((l.map pD).any fun z => PyData.eqv z (pD p)) = decide (p ∈ l) := by
  rw [List.any_map, Bool.eq_iff_iff, List.any_eq_true, decide_eq_true_iff]
  constructor
  · rintro ⟨x, hx, e⟩
    have e2 : PyData.eqv (pD x) (pD p) = true := e
    rw [eqv_pD] at e2
    rw [← of_decide_eq_true e2]
    exact hx
  · intro h
    refine ⟨p, h, ?_⟩
    show PyData.eqv (pD p) (pD p) = true
    rw [eqv_pD]
    exact decide_eq_true rfl
/-- what is known of the form's places -/
structure Fk (P : Program) (w : World) (K : PySem.W.Frag) (mg : Str → Option Value) (base : Heap) (C : Addr) : Prop where
  fc : Fc K mg C
  gf : ∃ f fd, FnOk P w K mg base CX0 1 f fd ["self"] (spGet K C false) ∧ Binds K fd ["self"] [] ∧ Meth K C "fields" f
  gr : ∃ f fd, FnOk P w K mg base CX0 1 f fd ["self"] (spGet K C true) ∧ Binds K fd ["self"] [] ∧ Meth K C "rules" f
theorem noF {l z : Addr} : List.lookup ("fields" : Str) [(("_fields" : Str), V.ref l), (("_rules" : Str), V.ref z)] = none := by
  have e : (("fields" : Str) == "_fields") = false := by decide +kernel
  have e2 : (("fields" : Str) == "_rules") = false := by decide +kernel
  rw [List.lookup, e]
  show List.lookup ("fields" : Str) [(("_rules" : Str), V.ref z)] = none
  rw [List.lookup, e2] <;> rfl
theorem noR {l z : Addr} : List.lookup ("rules" : Str) [(("_fields" : Str), V.ref l), (("_rules" : Str), V.ref z)] = none := by
  have e : (("rules" : Str) == "_fields") = false := by decide +kernel
  have e2 : (("rules" : Str) == "_rules") = false := by decide +kernel
  rw [List.lookup, e]
  show List.lookup ("rules" : Str) [(("_rules" : Str), V.ref z)] = none
  rw [List.lookup, e2] <;> rfl
def spBars (K : PySem.W.Frag) (C : Addr) : Sp := fun vs H Q _ => ∃ (x pf pr q : Addr) (rs : List (List Pr)) (e : Pr), vs = [.ref x, .ref q] ∧ FormAt C H x pf pr ∧ RulesAt K H pr rs ∧ (∀ r ∈ rs, RStr r ∧ r ≠ []) ∧ rs.length ≤ 1000 ∧
  SqT K H q [.str e.1, .str e.2] ∧ PyData.strOk e.1 = true ∧ PyData.strOk e.2 = true ∧ ∀ z H', Same H H' → LotsAt K H' z (barsOf rs e) → Q (.ref z) H'
def spStands (K : PySem.W.Frag) : Sp := fun vs H Q _ => ∃ (z r : Addr) (ls : List (List Pr)) (row : List Pr), vs = [.ref z, .ref r] ∧ LotsAt K H z ls ∧ LotAt K H r row ∧ (∀ l ∈ ls, RStr l ∧ l.length ≤ 1000) ∧ RStr row ∧ ∀ H', Same H H' → Q (.bl (oneStands ls row)) H'
theorem bars_paired {α : Type} {R : α → List Pr → Prop} {e : Pr} (f : Nat → List Pr) : ∀ (n : Nat) (rs : List (List Pr)), n = rs.length → (∀ i r, rs[i]? = some r → f i = r) → ((List.range n).filter fun i => endsIn e (f i)).map (fun i => (f i).dropLast) = barsOf rs e := by
  intro n rs hn h
  have : rs = (List.range n).map f := by
    refine List.ext_getElem? fun i => ?_
    rw [List.getElem?_map]
    by_cases hi : i < n
    · rw [List.getElem?_range hi, List.getElem?_eq_getElem (by omega)]
      have := h i rs[i] (List.getElem?_eq_getElem (by omega))
      rw [← this] <;> rfl
    · rw [List.getElem?_eq_none (by omega), List.getElem?_eq_none (by rw [List.length_range]; omega)] <;> rfl
  unfold barsOf
  rw [this, List.filter_map, List.map_map] <;> rfl
theorem prd_dropLast {α β : Type} {R : α → β → Prop} : ∀ {xs : List α} {ys : List β}, Paired R xs ys → Paired R xs.dropLast ys.dropLast
  | _, _, .nil => .nil
  | _, _, .cons a .nil => .nil
  | _, _, .cons a (.cons b c) => .cons a (prd_dropLast (.cons b c))
theorem lots_of {ι : Type} {g : ι → List Pr} {K : PySem.W.Frag} {R : Hp} : ∀ {zs : List V} {is : List ι}, Paired (fun z i => ∃ p, z = .ref p ∧ LotAt K R p (g i)) zs is → ∃ ps : List Addr, zs = ps.map V.ref ∧ Paired (LotAt K R) ps (is.map g)
  | _, _, .nil => ⟨[], rfl, .nil⟩
  | _, _, .cons a b => by
    obtain ⟨p, rfl, h⟩ := a
    obtain ⟨ps, rfl, h2⟩ := lots_of b
    exact ⟨p :: ps, rfl, .cons h h2⟩
end Q
set_option Elab.async false
set_option linter.all false
set_option maxRecDepth 100000
set_option maxHeartbeats 4000000
/-! ### dicts whose keys are tuples of texts, made by a comprehension -/
namespace Q
open PySem L2 XD
theorem asg_dcT {w : TI} {g : TG} {tt : TT} {tk te : TE} {vs : List Nat} {u : TS} {D : Ends} {σ : L2.St} {H : Hp} {i : Nat} (h : XK.tDcT w g tt tk te vs σ H fun v H1 => u D (σ.set i (some v)) H1) : tSeq (tAsg (XK.tDcT w g tt tk te vs) (gName i)) u D σ H := h
abbrev keyOf (e : Str × Str) : List Key := [.inr e.1, .inr e.2]
theorem keyOf_inj {a b : Str × Str} (h : keyOf a = keyOf b) : a = b := by
  have h1 := (List.cons.inj h).1
  have h2 := (List.cons.inj (List.cons.inj h).2).1
  exact Prod.ext (Sum.inr.inj h1) (Sum.inr.inj h2)
/-! a dict whose keys may come again -/
def putAll (ks : List (List Key)) (v : V) : List (List Key × V) := ks.foldl (fun es k => putK es k v) []
theorem putAll_next {ks : List (List Key)} {i : Nat} {k : List Key} {v : V} (h : ks[i]? = some k) : putAll (ks.take (i + 1)) v = putK (putAll (ks.take i) v) k v := by
  unfold putAll
  rw [take_one h, List.foldl_append] <;> rfl
theorem putAll_val {ks : List (List Key)} {v : V} {k : List Key} : (k ∈ ks → valV (putAll ks v) k = some v) ∧ (k ∉ ks → valV (putAll ks v) k = none) := by
  have : ∀ (l : List (List Key)) (es : List (List Key × V)), (k ∈ l ∨ valV es k = some v → valV (l.foldl (fun es k => putK es k v) es) k = some v) ∧ (k ∉ l ∧ valV es k = none → valV (l.foldl (fun es k => putK es k v) es) k = none) := by
    intro l
    induction l with
    | nil =>
      intro es
      exact ⟨fun h => h.elim (fun z => absurd z List.not_mem_nil) id, fun h => h.2⟩
    | cons j l ih =>
      intro es
      rw [List.foldl_cons]
      obtain ⟨i1, i2⟩ := ih (putK es j v)
      constructor
      · intro h
        refine i1 ?_
        rw [valV_put]
        by_cases e : k = j
        · exact .inr (by rw [if_pos e])
        · rcases h with h | h
          · rcases List.mem_cons.mp h with h | h
            · exact absurd h e
            · exact .inl h
          · exact .inr (by rw [if_neg e]; exact h)
      · rintro ⟨h1, h2⟩
        refine i2 ⟨fun z => h1 (List.mem_cons_of_mem _ z), ?_⟩
        rw [valV_put, if_neg (fun z => h1 (by rw [z]; exact List.mem_cons_self))]
        exact h2
  exact ⟨fun h => (this ks []).1 (.inl h), fun h => (this ks []).2 ⟨h, rfl⟩⟩
theorem putAll_len {ks : List (List Key)} {v : V} : (putAll ks v).length ≤ ks.length := by
  have : ∀ (l : List (List Key)) (es : List (List Key × V)), (l.foldl (fun es k => putK es k v) es).length ≤ es.length + l.length := by
    intro l
    induction l with
    | nil => intro es; exact Nat.le_refl _
    | cons j l ih =>
      intro es
      rw [List.foldl_cons, List.length_cons]
      refine Nat.le_trans (ih _) ?_
      have := length_putK es j v
      omega
  have := this ks []
  rw [List.length_nil, Nat.zero_add] at this
  exact this
/-- a dict comprehension over a list or a tuple, its keys tuples, its values one constant -/
theorem dcT_c {K : PySem.W.Frag} {p : Addr} {ys : List V} {t0 : TE} {g : TG} {tk tv : TE} {vs : List Nat} {σ : L2.St} {H : Hp} {Q : VK} (ks : List (List Key)) (c : V) (ht : ∀ Q' : VK, Q' (.ref p) H → t0 σ H Q') (hq : SqL K H p ys ∨ SqT K H p ys) (hk : ks.length = ys.length) (hl : ys.length ≤ 1000)
    (turn : ∀ (D : Addr) (i : Nat) (x : V) (H' : Hp) (yes : V → V → Hp → Prop), Same H H' → ys[i]? = some x → (∀ k q H4, ks[i]? = some k → H4 q = some (.tup (k.map kV)) → Same H' H4 → yes (.ref q) c H4) →
      g x (wipe σ vs) H' fun σ2 H2 => wipe σ2 vs = wipe σ vs ∧ tk σ2 H2 fun y H3 => tv σ2 H3 fun z H4 => yes y z H4)
    (hd : ∀ D H', H D = none → Same H H' → H' D = some (.dT (putAll ks c)) → Q (.ref D) H') : XK.tDcT (iRow K t0) g tYes tk tv vs σ H Q := by
  let Pv : Addr → Nat → Hp → Prop := fun D i H' => H' D = some (.dT (putAll (ks.take i) c)) ∧ Same H H'
  have all : ∀ {J : It} {G : Hp → Prop}, (walk : Walk J ys.length G (YAt ys)) → (∀ H', Same H H' → G H') → ∀ D, H D = none → ∃ W : Nat → Nat → Hp → Prop, (∃ m, W 0 m (L2.upd H D (.dT []))) ∧ ∀ i m H, W i m H →
      (J.stop i H ∧ Q (.ref D) H) ∨ (J.go i H ∧ ∃ Nx : Hp → Prop, (∀ H', Nx H' → ∃ m', m' < m ∧ W (i + 1) m' H') ∧ ∀ x H', J.yld i H x H' → g x (wipe σ vs) H' fun σ2 H2 => wipe σ2 vs = wipe σ vs ∧
        tYes σ2 H2 fun b H3 => if b = true then tk σ2 H3 fun y H4 => tv σ2 H4 fun z H5 => ∃ es k p, y = .ref p ∧ H5 p = some (.tup (k.map kV)) ∧ H5 D = some (.dT es) ∧ es.length < sizeLine ∧ Nx (L2.upd H5 D (.dT (putK es k z))) else Nx H3) := by
    intro J G walk hG D hD
    refine ⟨fun i m H' => m = ys.length - i ∧ i ≤ ys.length ∧ Pv D i H', ⟨ys.length, by simp, Nat.zero_le _, upd_same, new_same hD _⟩, ?_⟩
    rintro i m H' ⟨rfl, hi, g2, g5⟩
    by_cases hlt : i < ys.length
    · refine .inr ⟨walk.goes i H' hlt (hG H' g5), Pv D (i + 1), fun H5 p' => ⟨ys.length - (i + 1), by omega, rfl, hlt, p'⟩, fun x H5 y => ?_⟩
      obtain ⟨rfl, hx⟩ := walk.yields i H' x H5 hlt (hG H' g5) y
      refine turn D i x _ (fun y z H5 => ∃ es k p, y = .ref p ∧ H5 p = some (.tup (k.map kV)) ∧ H5 D = some (.dT es) ∧ es.length < sizeLine ∧ Pv D (i + 1) (L2.upd H5 D (.dT (putK es k z)))) g5 hx (fun k q H4 ek eq s4 => ?_)
      have hlen := putAll_len (ks := ks.take i) (v := c)
      rw [List.length_take] at hlen
      refine ⟨_, k, q, rfl, eq, s4 _ _ g2, small1000 (by omega), ?_, fun b o z => ?_⟩
      · rw [upd_same, putAll_next ek]
      · rw [upd_ne (ne_of_none z hD)]
        exact s4 _ _ (g5 _ _ z)
    · have e : i = ys.length := by omega
      subst e
      rw [List.take_of_length_le (by omega)] at g2
      exact .inl ⟨walk.stops H' (hG H' g5), hd D H' hD g5 g2⟩
  rcases hq with hq | hq
  · exact .inl (ht _ ⟨p, rfl, ⟨ys, hq⟩, all walk_list (fun H' s => s.seq hq)⟩)
  · exact .inr (ht _ ⟨p, rfl, ⟨ys, hq⟩, all walk_tup (fun H' s => seqT_same s hq)⟩)
end Q
set_option Elab.async false
set_option linter.all false
set_option maxRecDepth 100000
set_option maxHeartbeats 4000000
/-! ### fillings -/
namespace Q
open PySem L2 XD
/-- a pair as it can be a dict's key -/
def PairAt (H : Hp) (q : Addr) (e : Pr) : Prop := H q = some (.tup [.str e.1, .str e.2])
def RowAt (K : PySem.W.Frag) (H : Hp) (v : V) (row : List Pr) : Prop := ∃ (p : Addr) (qs : List Addr), v = .ref p ∧ SqT K H p (qs.map V.ref) ∧ Paired (PairAt H) qs row
def RowsAt (K : PySem.W.Frag) (H : Hp) (z : Addr) (rows : List (List Pr)) : Prop := ∃ vs : List V, SqT K H z vs ∧ Paired (RowAt K H) vs rows
theorem PairAt.same {H H' : Hp} {q : Addr} {e : Pr} (s : Same H H') (h : PairAt H q e) : PairAt H' q e := s _ _ h
theorem RowAt.same {K : PySem.W.Frag} {H H' : Hp} {v : V} {row : List Pr} (s : Same H H') (h : RowAt K H v row) : RowAt K H' v row := by
  obtain ⟨p, qs, e, a, b⟩ := h
  exact ⟨p, qs, e, seqT_same s a, prd_imp (fun _ _ z => z.same s) b⟩
theorem RowsAt.same {K : PySem.W.Frag} {H H' : Hp} {z : Addr} {rows : List (List Pr)} (s : Same H H') (h : RowsAt K H z rows) : RowsAt K H' z rows := by
  obtain ⟨vs, a, b⟩ := h
  exact ⟨vs, seqT_same s a, prd_imp (fun _ _ z => z.same s) b⟩
theorem RowAt.lot {K : PySem.W.Frag} {H : Hp} {v : V} {row : List Pr} (h : RowAt K H v row) : ∃ p, v = .ref p ∧ LotAt K H p row := by
  obtain ⟨p, qs, e, a, b⟩ := h
  exact ⟨p, e, qs, a, prd_imp (fun _ _ z => .inl (.inl z)) b⟩
/-- a dict that is made by a comprehension, its keys tuples, all unlike -/
theorem valV_zip {κ : Type} [DecidableEq κ] : ∀ {ks : List κ} {vs : List V} {i : Nat} {k : κ} {v : V}, ks.Nodup → ks[i]? = some k → vs[i]? = some v → valV (ks.zip vs) k = some v
  | k0 :: ks, v0 :: vs, 0, k, v, _, h1, h2 => by
    cases h1
    cases h2
    exact valV_pos rfl
  | k0 :: ks, v0 :: vs, i + 1, k, v, n, h1, h2 => by
    have h1 : ks[i]? = some k := by simpa using h1
    have h2 : vs[i]? = some v := by simpa using h2
    have := List.nodup_cons.mp n
    rw [List.zip_cons_cons, valV_neg (fun z => this.1 (by have z : k0 = k := z; rw [z]; exact List.mem_of_getElem? h1))]
    exact valV_zip this.2 h1 h2
theorem valV_fresh {κ : Type} [DecidableEq κ] : ∀ {ks : List κ} {vs : List V} {k : κ}, k ∉ ks → valV (ks.zip vs) k = none
  | [], _, _, _ => rfl
  | _ :: _, [], _, _ => rfl
  | k0 :: ks, v0 :: vs, k, h => by
    rw [List.zip_cons_cons, valV_neg (fun z => h (by have z : k0 = k := z; rw [z]; exact List.mem_cons_self))]
    exact valV_fresh fun z => h (List.mem_cons_of_mem _ z)
theorem alive_dT {D : Addr} {H : Hp} {es : List (List Key × V)} (e : H D = some (.dT es)) : Alive [D] H := fun b hb => by
  rw [List.mem_singleton.mp hb, e]
  exact fun z => by cases z
theorem dcT_g {K : PySem.W.Frag} {p : Addr} {ys : List V} {t0 : TE} {g : TG} {tk tv : TE} {vs : List Nat} {σ : L2.St} {H : Hp} {Q : VK} (ks : List (List Key)) (P : Nat → V → Hp → Prop)
    (mono : ∀ i v R R', Same R R' → P i v R → P i v R') (ht : ∀ Q' : VK, Q' (.ref p) H → t0 σ H Q') (hq : SqL K H p ys ∨ SqT K H p ys) (hk : ks.length = ys.length) (hn : ks.Nodup) (hl : ys.length ≤ 1000)
    (turn : ∀ (D : Addr) (i : Nat) (x : V) (H' : Hp) (yes : V → V → Hp → Prop), (∃ es, H' D = some (.dT es)) → Same H H' → Same H (rmL [D] H') → ys[i]? = some x →
      (∀ k q y H4, ks[i]? = some k → H4 q = some (.tup (k.map kV)) → Same H' H4 → P i y (rmL [D] H4) → yes (.ref q) y H4) →
      g x (wipe σ vs) H' fun σ2 H2 => wipe σ2 vs = wipe σ vs ∧ tk σ2 H2 fun y H3 => tv σ2 H3 fun z H4 => yes y z H4)
    (hd : ∀ D H' zs, H D = none → Same H H' → H' D = some (.dT (ks.zip zs)) → zs.length = ks.length → (∀ i v, zs[i]? = some v → P i v (rmL [D] H')) → Q (.ref D) H') : XK.tDcT (iRow K t0) g tYes tk tv vs σ H Q := by
  let Pv : Addr → Nat → Hp → Prop := fun D i H' => ∃ zs, H' D = some (.dT ((ks.take i).zip zs)) ∧ zs.length = i ∧ (∀ j v, zs[j]? = some v → P j v (rmL [D] H')) ∧ Same H H'
  have all : ∀ {J : It} {G : Hp → Prop}, (walk : Walk J ys.length G (YAt ys)) → (∀ H', Same H H' → G H') → ∀ D, H D = none → ∃ W : Nat → Nat → Hp → Prop, (∃ m, W 0 m (L2.upd H D (.dT []))) ∧ ∀ i m H, W i m H →
      (J.stop i H ∧ Q (.ref D) H) ∨ (J.go i H ∧ ∃ Nx : Hp → Prop, (∀ H', Nx H' → ∃ m', m' < m ∧ W (i + 1) m' H') ∧ ∀ x H', J.yld i H x H' → g x (wipe σ vs) H' fun σ2 H2 => wipe σ2 vs = wipe σ vs ∧
        tYes σ2 H2 fun b H3 => if b = true then tk σ2 H3 fun y H4 => tv σ2 H4 fun z H5 => ∃ es k p, y = .ref p ∧ H5 p = some (.tup (k.map kV)) ∧ H5 D = some (.dT es) ∧ es.length < sizeLine ∧ Nx (L2.upd H5 D (.dT (putK es k z))) else Nx H3) := by
    intro J G walk hG D hD
    refine ⟨fun i m H' => m = ys.length - i ∧ i ≤ ys.length ∧ Pv D i H', ⟨ys.length, by simp, Nat.zero_le _, [], upd_same, rfl, (fun j v h => by simp at h), new_same hD _⟩, ?_⟩
    rintro i m H' ⟨rfl, hi, zs, g2, g3, g4, g5⟩
    by_cases hlt : i < ys.length
    · refine .inr ⟨walk.goes i H' hlt (hG H' g5), Pv D (i + 1), fun H5 p' => ⟨ys.length - (i + 1), by omega, rfl, hlt, p'⟩, fun x H5 y => ?_⟩
      obtain ⟨rfl, hx⟩ := walk.yields i H' x H5 hlt (hG H' g5) y
      refine turn D i x _ (fun y z H5 => ∃ es k p, y = .ref p ∧ H5 p = some (.tup (k.map kV)) ∧ H5 D = some (.dT es) ∧ es.length < sizeLine ∧ Pv D (i + 1) (L2.upd H5 D (.dT (putK es k z)))) ⟨_, g2⟩ g5 (same_rm1 hD g5) hx (fun k q y H4 ek eq s4 hy => ?_)
      refine ⟨(ks.take i).zip zs, k, q, rfl, eq, s4 _ _ g2, small1000 (by rw [List.length_zip]; omega), zs ++ [y], ?_, by rw [List.length_append, g3] <;> rfl, fun j v hj => ?_, fun b o z => ?_⟩
      · have fresh : k ∉ ks.take i := fun z => by
          obtain ⟨j, hj, ej⟩ := List.mem_iff_getElem.mp z
          rw [List.length_take] at hj
          rw [List.getElem_take] at ej
          have e1 : ks[i]'(by omega) = k := by
            have := ek
            rw [List.getElem?_eq_getElem (by omega)] at this
            exact Option.some.inj this
          have := (List.getElem_inj hn).mp (ej.trans e1.symm)
          omega
        have et : ks.take (i + 1) = ks.take i ++ [k] := take_one ek
        rw [upd_same, putK_new y (valV_fresh fresh), et, List.zip_append (by rw [List.length_take, g3]; omega)] <;> rfl
      · rw [rm_put (List.mem_singleton.mpr rfl)]
        by_cases e : j < i
        · rw [List.getElem?_append_left (by omega)] at hj
          exact mono _ _ _ _ (rm_same s4) (g4 j v hj)
        · rw [List.getElem?_append_right (by omega)] at hj
          have : j = i := by
            have := (List.getElem?_eq_some_iff.mp hj).1
            rw [List.length_singleton] at this
            omega
          subst this
          rw [g3, Nat.sub_self] at hj
          cases hj
          exact hy
      · rw [upd_ne (ne_of_none z hD)]
        exact s4 _ _ (g5 _ _ z)
    · have e : i = ys.length := by omega
      subst e
      rw [List.take_of_length_le (by omega)] at g2
      exact .inl ⟨walk.stops H' (hG H' g5), hd D H' zs hD g5 g2 (by omega) g4⟩
  rcases hq with hq | hq
  · exact .inl (ht _ ⟨p, rfl, ⟨ys, hq⟩, all walk_list (fun H' s => s.seq hq)⟩)
  · exact .inr (ht _ ⟨p, rfl, ⟨ys, hq⟩, all walk_tup (fun H' s => seqT_same s hq)⟩)
theorem refs_of {ι β : Type} {T : Addr → β → Prop} {g : ι → β} : ∀ {zs : List V} {is : List ι}, Paired (fun z i => ∃ p, z = .ref p ∧ T p (g i)) zs is → ∃ ps : List Addr, zs = ps.map V.ref ∧ Paired T ps (is.map g)
  | _, _, .nil => ⟨[], rfl, .nil⟩
  | _, _, .cons a b => by
    obtain ⟨p, rfl, h⟩ := a
    obtain ⟨ps, rfl, h2⟩ := refs_of b
    exact ⟨p :: ps, rfl, .cons h h2⟩
theorem vals_of {ι β : Type} {T : V → β → Prop} {g : ι → β} : ∀ {zs : List V} {is : List ι}, Paired (fun z i => T z (g i)) zs is → Paired T zs (is.map g)
  | _, _, .nil => .nil
  | _, _, .cons a b => .cons a (vals_of b)
theorem asg_lcX {w : TI} {g : TG} {tt : TT} {te : TE} {vs : List Nat} {u : TS} {D : Ends} {σ : L2.St} {H : Hp} {i : Nat} (h : tLc w g tt te vs σ H fun v H1 => u D (σ.set i (some v)) H1) : tSeq (tAsg (tLc w g tt te vs) (gName i)) u D σ H := h
theorem asg_lc2 {w w1 : TI} {g g1 : TG} {tt tt1 : TT} {te : TE} {vs vs1 : List Nat} {D : Ends} {σ : L2.St} {H : Hp} {i : Nat} (h : tLc2 w g tt w1 g1 tt1 te vs vs1 σ H fun v H1 => D.nx (σ.set i (some v)) H1) : tAsg (tLc2 w g tt w1 g1 tt1 te vs vs1) (gName i) D σ H := h
theorem off_dT {H : Hp} {D a : Addr} {es : List (List Key × V)} {o : HO} (hD : H D = some (.dT es)) (h : H a = some o) (n : ∀ es, o ≠ .dT es) : rmL [D] H a = some o := by
  rw [rm_at (fun z => by rw [List.mem_singleton.mp z, hD] at h; exact n _ (Option.some.inj h).symm)]
  exact h
theorem sqT_dT {K : PySem.W.Frag} {H : Hp} {D a : Addr} {es : List (List Key × V)} {xs : List V} (hD : H D = some (.dT es)) (h : SqT K H a xs) : SqT K (rmL [D] H) a xs := by
  rcases h with (h | ⟨o, h⟩) | h
  · exact .inl (.inl (off_dT hD h (by intro _ z; cases z)))
  · exact .inl (.inr ⟨o, off_dT hD h (by intro _ z; cases z)⟩)
  · exact .inr h
theorem sqL_dT {K : PySem.W.Frag} {H : Hp} {D a : Addr} {es : List (List Key × V)} {xs : List V} (hD : H D = some (.dT es)) (h : SqL K H a xs) : SqL K (rmL [D] H) a xs := by
  rcases h with (h | ⟨o, h⟩) | h
  · exact .inl (.inl (off_dT hD h (by intro _ z; cases z)))
  · exact .inl (.inr ⟨o, off_dT hD h (by intro _ z; cases z)⟩)
  · exact .inr h
theorem LotsAt.dT {K : PySem.W.Frag} {H : Hp} {D z : Addr} {es : List (List Key × V)} {ls : List (List Pr)} (hD : H D = some (.dT es)) (h : LotsAt K H z ls) : LotsAt K (rmL [D] H) z ls := by
  obtain ⟨ps, a, b⟩ := h
  refine ⟨ps, sqL_dT hD a, prd_imp (fun p l h => ?_) b⟩
  obtain ⟨qs, c, e⟩ := h
  exact ⟨qs, sqT_dT hD c, prd_imp (fun _ _ z => sqT_dT hD z) e⟩
/-! the rows, by their places -/
abbrev d0 : Pr := (Str.empty, Str.empty)
theorem getD_of {α : Type} {l : List α} {i : Nat} {x d : α} (h : l[i]? = some x) : l.getD i d = x := by rw [List.getD_eq_getElem?_getD, h] <;> rfl
theorem map_range {α : Type} (l : List α) (d : α) : (List.range l.length).map (fun i => l.getD i d) = l := by
  refine List.ext_getElem? fun i => ?_
  rw [List.getElem?_map]
  by_cases hi : i < l.length
  · rw [List.getElem?_range hi, List.getElem?_eq_getElem hi]
    show some (l.getD i d) = some l[i]
    rw [getD_of (List.getElem?_eq_getElem hi)]
  · rw [List.getElem?_eq_none (l := List.range l.length) (by rw [List.length_range]; omega), List.getElem?_eq_none (l := l) (by omega)] <;> rfl
theorem grid_longer {rs : List (List Pr)} {f : List Pr} {rows : List (List Pr)} {e : Str × List Str} :
    (gridTo rows.length (prsOf f e).length (fun i j => !oneStands (barsOf rs ((prsOf f e).getD j d0)) (rows.getD i []))).map (fun ij => rows.getD ij.1 [] ++ [(prsOf f e).getD ij.2 d0]) = longer rs f rows e := by
  unfold gridTo longer pairsTo
  rw [List.map_flatMap]
  conv => rhs; rw [← map_range rows []]
  rw [List.flatMap_map]
  refine fm_congr fun i _ => ?_
  rw [List.map_map]
  conv => rhs; rw [← map_range (prsOf f e) d0]
  rw [List.filter_map, List.map_map] <;> rfl
theorem longer_len {rs : List (List Pr)} {f : List Pr} {e : Str × List Str} : ∀ rows : List (List Pr), (longer rs f rows e).length ≤ rows.length * e.2.length
  | [] => by unfold longer; simp
  | row :: rows => by
    have ih := longer_len (rs := rs) (f := f) (e := e) rows
    unfold longer at ih ⊢
    rw [List.flatMap_cons, List.length_append, List.length_cons, Nat.succ_mul, List.length_map]
    have h1 : ((prsOf f e).filter fun p => !oneStands (barsOf rs p) row).length ≤ e.2.length := by
      refine Nat.le_trans (List.length_filter_le _ _) ?_
      unfold prsOf
      rw [List.length_map]
      exact List.length_filter_le _ _
    omega
theorem fills_len {rs : List (List Pr)} {f : List Pr} : ∀ (t : Tbl) (rows : List (List Pr)) (a : Nat), rows.length ≤ a → (t.foldl (longer rs f) rows).length ≤ waysFrom a t
  | [], rows, a, h => h
  | e :: t, rows, a, h => by
    rw [List.foldl_cons]
    show _ ≤ waysFrom (a * e.2.length) t
    exact fills_len t _ _ (Nat.le_trans (longer_len rows) (Nat.mul_le_mul_right _ h))
theorem ways_up : ∀ (t : Tbl) (a b : Nat), a ≤ b → waysFrom a t ≤ waysFrom b t
  | [], _, _, h => h
  | e :: t, a, b, h => ways_up t _ _ (Nat.mul_le_mul_right _ h)
theorem ways_take : ∀ (t : Tbl) (a i : Nat), (∀ e ∈ t, 1 ≤ e.2.length) → waysFrom a (t.take i) ≤ waysFrom a t
  | [], a, i, _ => by rw [List.take_nil]; exact Nat.le_refl _
  | e :: t, a, 0, h => by
    show a ≤ waysFrom (a * e.2.length) t
    have h1 : waysFrom a (t.take 0) ≤ waysFrom a t := ways_take t a 0 fun x hx => h x (List.mem_cons_of_mem _ hx)
    refine Nat.le_trans h1 (ways_up t _ _ ?_)
    exact Nat.le_mul_of_pos_right _ (h e List.mem_cons_self)
  | e :: t, a, i + 1, h => ways_take t (a * e.2.length) i fun x hx => h x (List.mem_cons_of_mem _ hx)
theorem fold_names {rs : List (List Pr)} {f : List Pr} : ∀ (t1 : Tbl) (rows : List (List Pr)) (ns : List Str), (∀ row ∈ rows, row.map (·.1) = ns) → ∀ row ∈ t1.foldl (longer rs f) rows, row.map (·.1) = ns ++ t1.map (·.1)
  | [], rows, ns, h => fun row hr => by rw [List.map_nil, List.append_nil]; exact h row hr
  | e :: t1, rows, ns, h => fun row hr => by
    have := fold_names t1 (longer rs f rows e) (ns ++ [e.1]) (fun x hx => by
      obtain ⟨y, hy, hx⟩ := List.mem_flatMap.mp hx
      obtain ⟨p, hp, rfl⟩ := List.mem_map.mp hx
      have hp := (List.mem_filter.mp hp).1
      unfold prsOf at hp
      obtain ⟨v, _, rfl⟩ := List.mem_map.mp hp
      rw [List.map_append, h y hy] <;> rfl) row hr
    rw [this, List.append_assoc] <;> rfl
theorem fold_all {rs : List (List Pr)} {f : List Pr} {ok : Pr → Prop} : ∀ (t1 : Tbl) (rows : List (List Pr)), (∀ row ∈ rows, ∀ e ∈ row, ok e) → (∀ x ∈ t1, ∀ v ∈ x.2, ok (x.1, v)) → ∀ row ∈ t1.foldl (longer rs f) rows, ∀ e ∈ row, ok e
  | [], rows, h, _ => h
  | x :: t1, rows, h, g => fold_all t1 (longer rs f rows x) (fun row hr => by
      obtain ⟨y, hy, hx⟩ := List.mem_flatMap.mp hr
      obtain ⟨p, hp, rfl⟩ := List.mem_map.mp hx
      have hp := (List.mem_filter.mp hp).1
      unfold prsOf at hp
      obtain ⟨v, hv, rfl⟩ := List.mem_map.mp hp
      intro e he
      rcases List.mem_append.mp he with he | he
      · exact h y hy e he
      · rw [List.mem_singleton.mp he]
        exact g x List.mem_cons_self v (List.mem_filter.mp hv).1) (fun y hy => g y (List.mem_cons_of_mem _ hy))
theorem nodup_inj {α β : Type} {f : α → β} (inj : ∀ a b, f a = f b → a = b) : ∀ {l : List α}, l.Nodup → (l.map f).Nodup
  | [], _ => List.nodup_nil
  | x :: l, h => by
    have h := List.nodup_cons.mp h
    rw [List.map_cons, List.nodup_cons]
    refine ⟨fun z => ?_, nodup_inj inj h.2⟩
    obtain ⟨y, hy, e⟩ := List.mem_map.mp z
    rw [inj _ _ e] at hy
    exact h.1 hy
theorem rulesAtS {K : PySem.W.Frag} {H H' : Hp} {p : Addr} {rs : List (List Pr)} (s : Same H H') (h : RulesAt K H p rs) : RulesAt K H' p rs := by
  obtain ⟨ps, a, b⟩ := h
  exact ⟨ps, a.same s, rules_same s b⟩
theorem prs_nodup {f : List Pr} {e : Str × List Str} (h : e.2.Nodup) : (prsOf f e).Nodup := by
  unfold prsOf
  exact nodup_inj (fun a b z => (Prod.mk.inj z).2) (h.filter _)
theorem keys_nodup {l : List Pr} (h : l.Nodup) : (l.map keyOf).Nodup := nodup_inj (fun a b z => keyOf_inj z) h
/-- a form whose parts are as they are made -/
structure FormOk (t : Tbl) (rs : List (List Pr)) : Prop where
  nd : (t.map (·.1)).Nodup
  ts : TStr t
  lo : ∀ e ∈ t, 1 ≤ e.2.length
  vn : ∀ e ∈ t, e.2.Nodup ∧ e.2.length ≤ 1000
  ws : waysFrom 1 t ≤ 1000
  rq : ∀ r ∈ rs, RSeq t r
  ro : ∀ r ∈ rs, RStr r
  rl : rs.length ≤ 1000
  rr : ∀ r ∈ rs, r.length ≤ 1000
/-- facts as dict(..) takes them -/
def FaZ (K : PySem.W.Frag) (H : Hp) (v : V) (d : PyData) : Prop := ∃ (q : Addr) (zs : List V) (gs : List PyData), v = .ref q ∧ (SqL K H q zs ∨ SqZ H q zs) ∧ rowOf d = some gs ∧ DpAll K H zs gs
def spFillings (K : PySem.W.Frag) (C CV : Addr) : Sp := fun vs H Q E => ∃ (x pf pr : Addr) (v : V) (t : Tbl) (rs : List (List Pr)) (d : PyData), vs = [.ref x, v] ∧ FormAt C H x pf pr ∧ TabAt K H pf t ∧ RulesAt K H pr rs ∧ FormOk t rs ∧ Dp K H v d ∧ FOk d ∧ (areFacts t d = true → FaZ K H v d) ∧
  (areFacts t d = false → ∀ dd H', Same H H' → H' dd = none → E (.ref CV) (some dd) (L2.upd H' dd (.xd [("at", .int 1)]))) ∧ (areFacts t d = true → ∀ z H', Same H H' → RowsAt K H' z (fills rs (factsOf d) t) → Q (.ref z) H')
def spRowsFit (K : PySem.W.Frag) (C : Addr) : Sp := fun vs H Q _ => ∃ (x pf pr : Addr) (v : V) (t : Tbl) (rs : List (List Pr)) (d : PyData), vs = [.ref x, v] ∧ FormAt C H x pf pr ∧ TabAt K H pf t ∧ RulesAt K H pr rs ∧ FormOk t rs ∧ areFacts t d = true ∧ FaZ K H v d ∧
  ∀ z H', Same H H' → RowsAt K H' z (fills rs (factsOf d) t) → Q (.ref z) H'
/-- what is known of BadValue -/
structure Bv (K : PySem.W.Frag) (mg : Str → Option Value) (CV : Addr) : Prop where
  v : ∃ fI qual, XM.XcT K CV fI "at" qual
  gv : mg "BadValue" = some (.ref CV)
theorem pi_rowK {X : Cx} {tg e : Expr} {te : TE} (K : PySem.W.Frag) (h : X.K = K) (he : PE X e te) : PI X tg e (iRow K te) := by
  subst h
  exact pi_row he
abbrev nFill : List Str := ["form", "facts", "value_of", "rows", "name", "values", "value", "pairs", "pair", "bars", "row"]
end Q
set_option Elab.async false
set_option linter.all false
set_option maxRecDepth 100000
set_option maxHeartbeats 4000000
/-! ### what SAgree, SDue, SKnown have that speaks of no law's own defs -/
namespace Q
open PySem L2 XD
structure Known (t : List (Str × List Str)) (r : List (Str × Str)) : Prop where
  hi : r.length ≤ t.length
  nd : (r.map (·.1)).Nodup
  of : ∀ e ∈ r, ∃ ws, (e.1, ws) ∈ t ∧ e.2 ∈ ws
theorem mem_bySeq {t : Tbl} {b : List Pr} (h : ∀ e ∈ b, ∃ ws, (e.1, ws) ∈ t) (p : Pr) : p ∈ bySeq t b ↔ p ∈ b := by
  unfold bySeq
  rw [List.mem_flatMap]
  constructor
  · rintro ⟨e, _, he⟩
    exact (List.mem_filter.mp he).1
  · intro hp
    obtain ⟨ws, hw⟩ := h p hp
    exact ⟨(p.1, ws), hw, List.mem_filter.mpr ⟨hp, decide_eq_true rfl⟩⟩
theorem within_bySeq {t : Tbl} {b row : List Pr} (h : ∀ e ∈ b, ∃ ws, (e.1, ws) ∈ t) : within (bySeq t b) row = within b row := by
  rw [Bool.eq_iff_iff, within_iff, within_iff]
  exact ⟨fun g p hp => g p ((mem_bySeq h p).mpr hp), fun g p hp => g p ((mem_bySeq h p).mp hp)⟩
theorem filter_one {n : Str} : ∀ {b : List Pr}, (b.map (·.1)).Nodup → ((b.filter fun f => decide (f.1 = n)).map (·.1)).Sublist [n]
  | [], _ => List.nil_sublist _
  | x :: b, h => by
    rw [List.map_cons, List.nodup_cons] at h
    by_cases e : x.1 = n
    · rw [List.filter_cons_of_pos (by exact decide_eq_true e), List.map_cons, e]
      have : b.filter (fun f => decide (f.1 = n)) = [] := List.filter_eq_nil_iff.mpr fun y hy z => h.1 (by
        rw [e, ← of_decide_eq_true z]
        exact List.mem_map.mpr ⟨y, hy, rfl⟩)
      rw [this]
      exact List.Sublist.refl _
    · have e2 : ¬ (decide (x.1 = n)) = true := fun z => e (of_decide_eq_true z)
      rw [List.filter_cons_of_neg (p := fun f : Pr => decide (f.1 = n)) e2]
      exact filter_one h.2
theorem bySeq_sub {b : List Pr} (h : (b.map (·.1)).Nodup) : ∀ t : Tbl, ((bySeq t b).map (·.1)).Sublist (t.map (·.1))
  | [] => List.nil_sublist _
  | e :: t => by
    have ih := bySeq_sub h t
    unfold bySeq at ih ⊢
    rw [List.flatMap_cons, List.map_append, List.map_cons]
    exact (filter_one h).append ih
theorem once_mem {rs : List (List Pr)} {r : List Pr} : r ∈ once rs ↔ r ∈ rs := by
  have : ∀ (l acc : List (List Pr)), r ∈ l.foldl (fun acc r => if r ∈ acc then acc else acc ++ [r]) acc ↔ r ∈ acc ∨ r ∈ l := by
    intro l
    induction l with
    | nil => intro acc; simp
    | cons x l ih =>
      intro acc
      rw [List.foldl_cons, ih]
      by_cases h : x ∈ acc
      · rw [if_pos h, List.mem_cons]
        constructor
        · rintro (a | a)
          · exact .inl a
          · exact .inr (.inr a)
        · rintro (a | a | a)
          · exact .inl a
          · rw [a]; exact .inl h
          · exact .inr a
      · rw [if_neg h, List.mem_append, List.mem_singleton, List.mem_cons]
        constructor
        · rintro ((a | a) | a)
          · exact .inl a
          · exact .inr (.inl a)
          · exact .inr (.inr a)
        · rintro (a | a | a)
          · exact .inl (.inl a)
          · exact .inl (.inr a)
          · exact .inr a
  unfold once
  rw [this]
  simp
theorem once_le (rs : List (List Pr)) : (once rs).length ≤ rs.length := by
  have : ∀ (l acc : List (List Pr)), (l.foldl (fun acc r => if r ∈ acc then acc else acc ++ [r]) acc).length ≤ acc.length + l.length := by
    intro l
    induction l with
    | nil => intro acc; simp
    | cons x l ih =>
      intro acc
      rw [List.foldl_cons]
      refine Nat.le_trans (ih _) ?_
      by_cases h : x ∈ acc
      · rw [if_pos h, List.length_cons]
        omega
      · rw [if_neg h, List.length_append, List.length_singleton, List.length_cons]
        omega
  have := this rs []
  unfold once
  rw [List.length_nil, Nat.zero_add] at this
  exact this
theorem pick_of {n w : Str} : ∀ {r : List Pr}, (r.map (·.1)).Nodup → (n, w) ∈ r → pick n r = some w
  | (m, u) :: r, h, hm => by
    rw [List.map_cons, List.nodup_cons] at h
    unfold pick
    rcases List.mem_cons.mp hm with e | e
    · cases e
      rw [if_pos rfl]
    · rw [if_neg (fun z => h.1 (by have z : m = n := z; show m ∈ _; rw [z]; exact List.mem_map.mpr ⟨_, e, rfl⟩))]
      exact pick_of h.2 e
theorem pick_memS {n w : Str} : ∀ {r : List Pr}, pick n r = some w → (n, w) ∈ r
  | (m, u) :: r, h => by
    unfold pick at h
    by_cases e : m = n
    · rw [if_pos e] at h
      cases h
      rw [e]
      exact List.mem_cons_self
    · rw [if_neg e] at h
      exact List.mem_cons_of_mem _ (pick_memS h)
theorem all_let {t : Tbl} {kn row : List Pr} (nd : (t.map (·.1)).Nodup) (kd : (kn.map (·.1)).Nodup) (kt : ∀ e ∈ kn, ∃ ws, (e.1, ws) ∈ t) (hn : row.map (·.1) = t.map (·.1)) : (row.all fun p => letV kn p.1 p.2) = within kn row := by
  rw [Bool.eq_iff_iff, List.all_eq_true, within_iff]
  have one : ∀ p ∈ row, ∀ q ∈ row, p.1 = q.1 → p = q := fun p hp q hq e => by
    obtain ⟨i, hi, rfl⟩ := List.mem_iff_getElem.mp hp
    obtain ⟨j, hj, rfl⟩ := List.mem_iff_getElem.mp hq
    rw [← hn] at nd
    have h1 : (row.map (·.1))[i]'(by rw [List.length_map]; exact hi) = (row.map (·.1))[j]'(by rw [List.length_map]; exact hj) := by rw [List.getElem_map, List.getElem_map, e]
    have := (List.getElem_inj nd).mp h1
    subst this
    rfl
  constructor
  · intro h e he
    obtain ⟨ws, hw⟩ := kt e he
    have : e.1 ∈ row.map (·.1) := by
      rw [hn]
      exact List.mem_map.mpr ⟨_, hw, rfl⟩
    obtain ⟨p, hp, hpe⟩ := List.mem_map.mp this
    have h1 := of_decide_eq_true (h p hp)
    rw [show p.1 = e.1 from hpe, pick_of kd (show (e.1, e.2) ∈ kn from he)] at h1
    have : p = e := Prod.ext hpe (Eq.symm h1)
    rw [← this]
    exact hp
  · intro h p hp
    refine decide_eq_true ?_
    cases e : pick p.1 kn with
    | none => rfl
    | some w =>
      have := h _ (pick_memS e)
      have := one _ this p hp rfl
      rw [← this] <;> rfl
theorem Ban.ne {t : Tbl} {m : Nat} {r : List Pr} (B : Ban t m r) : bySeq t r ≠ [] := by
  have h1 := B.lo
  cases hr : r with
  | nil =>
    rw [hr] at h1
    cases h1
  | cons x l =>
    have hx : x ∈ r := by rw [hr]; exact List.mem_cons_self
    have : x ∈ bySeq t r := (mem_bySeq (fun e he => by obtain ⟨ws, a, _⟩ := B.of e he; exact ⟨ws, a⟩) x).mpr hx
    rw [← hr]
    exact fun z => by rw [z] at this; cases this
theorem form_ok {t : Tbl} {rs : List (List Pr)} (G : Good t rs) : FormOk t (once (rs.map (bySeq t))) := by
  have T := G.tb
  have ts : TStr t := fun e he => ⟨word_ok (T.nm.2 _ (List.mem_map.mpr ⟨e, he, rfl⟩)), fun w hw => word_ok ((T.vs e he).1.2 w hw)⟩
  have key : ∀ r ∈ once (rs.map (bySeq t)), ∃ b ∈ rs, r = bySeq t b ∧ Ban t 4 b := fun r hr => by
    obtain ⟨b, hb, rfl⟩ := List.mem_map.mp (once_mem.mp hr)
    exact ⟨b, hb, rfl, G.bs b hb⟩
  refine ⟨T.nm.1, ts, fun e he => (T.vs e he).2.1, fun e he => ⟨(T.vs e he).1.1, by have := (T.vs e he).2.2; omega⟩, G.ws, fun r hr => ?_, fun r hr e he => ?_, ?_, fun r hr => ?_⟩
  · obtain ⟨b, hb, rfl, B⟩ := key r hr
    exact ⟨B.ne, bySeq_sub B.nd t⟩
  · obtain ⟨b, hb, rfl, B⟩ := key r hr
    have he := (mem_bySeq (fun e he => by obtain ⟨ws, a, _⟩ := B.of e he; exact ⟨ws, a⟩) e).mp he
    obtain ⟨ws, h1, h2⟩ := B.of e he
    exact ⟨(ts _ h1).1, (ts _ h1).2 _ h2⟩
  · have := once_le (rs.map (bySeq t))
    rw [List.length_map] at this
    have := G.ln
    omega
  · obtain ⟨b, hb, rfl, B⟩ := key r hr
    have := (bySeq_sub B.nd t).length_le
    rw [List.length_map, List.length_map] at this
    have := T.hi
    omega
theorem chs_all {ok : Pr → Prop} : ∀ (t1 : Tbl) (rows : List (List Pr)), (∀ row ∈ rows, ∀ e ∈ row, ok e) → (∀ x ∈ t1, ∀ v ∈ x.2, ok (x.1, v)) → ∀ row ∈ t1.foldl wider rows, ∀ e ∈ row, ok e
  | [], rows, h, _ => h
  | x :: t1, rows, h, g => chs_all t1 (wider rows x) (fun row hr => by
      obtain ⟨y, hy, hx⟩ := List.mem_flatMap.mp hr
      obtain ⟨v, hv, rfl⟩ := List.mem_map.mp hx
      intro e he
      rcases List.mem_append.mp he with he | he
      · exact h y hy e he
      · rw [List.mem_singleton.mp he]
        exact g x List.mem_cons_self v hv) (fun y hy => g y (List.mem_cons_of_mem _ hy))
theorem chs_str {t : Tbl} (h : TStr t) : ∀ row ∈ chs t, RStr row := fun row hr => chs_all (ok := fun e => PyData.strOk e.1 = true ∧ PyData.strOk e.2 = true) t [[]] (fun x hx => by rw [List.mem_singleton.mp hx]; exact fun e he => absurd he List.not_mem_nil)
  (fun y hy v hv => ⟨(h y hy).1, (h y hy).2 v hv⟩) row hr
theorem chs_len : ∀ (t : Tbl) (rows : List (List Pr)), (t.foldl wider rows).length = waysFrom rows.length t
  | [], rows => rfl
  | e :: t, rows => by
    rw [List.foldl_cons, chs_len t]
    show waysFrom (wider rows e).length t = waysFrom (rows.length * e.2.length) t
    have : (wider rows e).length = rows.length * e.2.length := by
      unfold wider
      induction rows with
      | nil => simp
      | cons r rows ih => rw [List.flatMap_cons, List.length_append, List.length_map, ih, List.length_cons, Nat.succ_mul, Nat.add_comm]
    rw [this]
theorem known_facts {t : Tbl} {r : List Pr} {d : PyData} (T : TabOk t) (N : Known t r) (h : FRule r d) : areFacts t d = true ∧ factsOf d = r ∧ FOk d := by
  obtain ⟨gs, e, hp⟩ := h
  have hl : gs.length = r.length := prd_len hp
  refine ⟨?_, ?_, fun fs ef f hf a b ep => ?_⟩
  · unfold areFacts
    rw [e]
    show (decide (gs.length ≤ t.length) && goFacts t [] gs) = true
    rw [decide_eq_true (by have := N.hi; omega : gs.length ≤ t.length), go_of T.nm.1 hp N.nd (fun _ _ z => by cases z) N.of] <;> rfl
  · unfold factsOf
    rw [e]
    show gs.map factOf = r
    conv => rhs; rw [← List.map_id r]
    refine prd_map (fun g e h => ?_) hp
    unfold factOf
    rw [h] <;> rfl
  · rw [e] at ef
    cases ef
    obtain ⟨e, he, h1⟩ := prd_mem hp f hf
    rw [ep] at h1
    cases h1
    obtain ⟨ws, h2, h3⟩ := N.of e he
    exact str_shaped (word_ok ((T.vs _ h2).1.2 _ h3))
/-- rows as data -/
def rowsD (rows : List (List Pr)) : PyData := .tuple (rows.map ruleD)
theorem rows_dps {K : PySem.W.Frag} {H : Hp} : ∀ {vs : List V} {rows : List (List Pr)}, Paired (RowAt K H) vs rows → DpAll K H vs (rows.map ruleD)
  | _, _, .nil => .nil
  | _, _, .cons a b => by
    obtain ⟨p, rfl, h⟩ := a.lot
    exact .cons h.dp (rows_dps b)
theorem RowsAt.dp {K : PySem.W.Frag} {H : Hp} {z : Addr} {rows : List (List Pr)} (h : RowsAt K H z rows) : Dp K H (.ref z) (rowsD rows) := by
  obtain ⟨vs, a, b⟩ := h
  exact .tup a (rows_dps b)
theorem lots_dps {K : PySem.W.Frag} {H : Hp} : ∀ {us : List Addr} {rows : List (List Pr)}, Paired (LotAt K H) us rows → DpAll K H (us.map V.ref) (rows.map ruleD)
  | _, _, .nil => .nil
  | _, _, .cons a b => .cons a.dp (lots_dps b)
theorem ds_rowsD {rows : List (List Pr)} (h : rows.length ≤ 1000) (g : ∀ r ∈ rows, r.length ≤ 1000) : Ds 5 (rowsD rows) := fun xs e => by
  cases e
  refine ⟨by rw [List.length_map]; exact h, fun x hx => ?_⟩
  obtain ⟨r, hr, rfl⟩ := List.mem_map.mp hx
  intro xs e
  cases e
  refine ⟨by rw [List.length_map]; exact g r hr, fun x hx => ?_⟩
  obtain ⟨e, he, rfl⟩ := List.mem_map.mp hx
  intro xs e
  cases e
  refine ⟨Nat.le_of_ble_eq_true rfl, fun x hx => ?_⟩
  simp only [List.mem_cons, List.not_mem_nil, or_false] at hx
  rcases hx with rfl | rfl <;> exact fun xs e => by cases e
theorem asg_last {wi : TI} {g : TG} {tt : TT} {te : TE} {vs : List Nat} {D : Ends} {σ : L2.St} {H : Hp} {i : Nat} (h : tLc wi g tt te vs σ H fun v H1 => D.nx (σ.set i (some v)) H1) : tAsg (tLc wi g tt te vs) (gName i) D σ H := h
theorem call_listK {X : Cx} (K : PySem.W.Frag) (h : X.K = K) : CallR X (.type "list") (fun xs H Q => ∃ p ys, xs = [.ref p] ∧ (SqL K H p ys ∨ SqT K H p ys) ∧ ∀ l, H l = none → Q (.ref l) (L2.upd H l (.lst ys))) := by
  subst h
  exact call_list_of
def lstD (l : List Pr) : PyData := .list (l.map fun e => .list [.str e.1, .str e.2])
theorem lst_pairs : ∀ r : List Pr, Paired (fun g (e : Pr) => pairOf g = some (.str e.1, .str e.2)) (r.map fun e => .list [.str e.1, .str e.2]) r
  | [] => .nil
  | e :: r => .cons rfl (lst_pairs r)
theorem lst_dps {K : PySem.W.Frag} {H : Hp} : ∀ {qs : List Addr} {l : List Pr}, Paired (fun q (e : Pr) => H q = some (.lst [.str e.1, .str e.2])) qs l → DpAll K H (qs.map V.ref) (l.map fun e => .list [.str e.1, .str e.2])
  | _, _, .nil => .nil
  | _, _, .cons a b => .cons (.lst (SqL.of a) (.cons (.str _) (.cons (.str _) .nil))) (lst_dps b)
end Q
set_option Elab.async false
set_option linter.all false
set_option maxRecDepth 100000
set_option maxHeartbeats 4000000
/-! ### _place, _values_there, _all_possible; possible, open_fields, forced -/
namespace Q
open PySem L2 XD
/-- the values that stand at the place -/
def possAt (rows : List (List Pr)) (t : Tbl) (i : Nat) : List Str := match t[i]? with
  | some e => e.2.filter fun v => decide ((e.1, v) ∈ rows.map fun row => row.getD i d0)
  | none => []
def spPlace (K : PySem.W.Frag) (C CB : Addr) : Sp := fun vs H Q E => ∃ (x pf pr : Addr) (v : V) (t : Tbl) (d : PyData), vs = [.ref x, v] ∧ FormAt C H x pf pr ∧ TabAt K H pf t ∧ TStr t ∧ Dp K H v d ∧ SeqAt.shaped d = true ∧
  ((∀ n, d = .str n → n ∉ t.map (·.1)) → ∀ dd H', Same H H' → H' dd = none → E (.ref CB) (some dd) (L2.upd H' dd (.xd [("name", v)]))) ∧
  ∀ i n ws, d = .str n → t[i]? = some (n, ws) → ∀ H', Same H H' → Q (.int (i : Nat)) H'
def spVals (K : PySem.W.Frag) (C : Addr) : Sp := fun vs H Q _ => ∃ (x pf pr z : Addr) (i : Nat) (t : Tbl) (rows : List (List Pr)), vs = [.ref x, .ref z, .int (i : Nat)] ∧ FormAt C H x pf pr ∧ TabAt K H pf t ∧ RowsAt K H z rows ∧ i < t.length ∧ rows.length ≤ 1000 ∧ (∀ row ∈ rows, row.length = t.length) ∧
  (∀ e ∈ t, e.2.length ≤ 1000) ∧ ∀ z' H', Same H H' → SqT K H' z' ((possAt rows t i).map V.str) → Q (.ref z') H'
theorem names_any (t : Tbl) (d : PyData) : (((t.map (·.1)).map PyData.str).any fun z => PyData.eqv z d) = match d with | .str n => decide (n ∈ t.map (·.1)) | _ => false := by
  cases d with
  | str n =>
    rw [Bool.eq_iff_iff, List.any_eq_true]
    show _ ↔ decide (n ∈ t.map (·.1)) = true
    rw [decide_eq_true_iff]
    constructor
    · rintro ⟨x, hx, e⟩
      obtain ⟨m, hm, rfl⟩ := List.mem_map.mp hx
      rw [PyData.eqv] at e
      rw [← of_decide_eq_true e]
      exact hm
    · intro h
      exact ⟨.str n, List.mem_map.mpr ⟨n, h, rfl⟩, by rw [PyData.eqv]; simp⟩
  | _ =>
    show _ = false
    rw [List.any_eq_false]
    intro x hx
    obtain ⟨m, hm, rfl⟩ := List.mem_map.mp hx
    simp [PyData.eqv]
theorem ret_cb {c : List V → Hp → VK → Prop} {tl : TE} {D : Ends} {σ : L2.St} {H : Hp} (h : tl σ H fun x H1 => c [x] H1 D.rt) : tRet (tCB c (tCons tl tNil)) D σ H := h
structure Bf (K : PySem.W.Frag) (mg : Str → Option Value) (CB : Addr) : Prop where
  b : ∃ fI qual, XM.XcT K CB fI "name" qual
  gb : mg "BadField" = some (.ref CB)
end Q
set_option Elab.async false
set_option linter.all false
set_option maxRecDepth 100000
set_option maxHeartbeats 4000000
namespace Q
open PySem L2 XD
/-- over range(n) -/
theorem lc_gr {n : Nat} {ta : TA} {g : TG} {tt : TT} {te : TE} {vs : List Nat} {σ : L2.St} {H : Hp} {Q : VK} (P : Nat → V → Hp → Prop) (sel : Nat → Bool)
    (mono : ∀ i v R R', Same R R' → P i v R → P i v R') (ht : ∀ Q' : List V → Hp → Prop, Q' [.int (n : Nat)] H → ta σ H Q') (hn : n ≤ 1000)
    (turn : ∀ (D : Addr) (i : Nat) (H' : Hp) (yes : VK) (no : Hp → Prop), (∃ acc, H' D = some (.lst acc)) → Same H H' → Same H (rmL [D] H') → i < n →
      (sel i = true → ∀ y H4, Same H' H4 → P i y (rmL [D] H4) → yes y H4) → (sel i = false → ∀ H4, Same H' H4 → no H4) →
      g (.int (i : Nat)) (wipe σ vs) H' fun σ2 H2 => wipe σ2 vs = wipe σ vs ∧ tt σ2 H2 fun b H3 => if b = true then te σ2 H3 yes else no H3)
    (hd : ∀ D H' zs, H D = none → Same H H' → H' D = some (.lst zs) → Paired (fun z i => P i z (rmL [D] H')) zs ((List.range n).filter sel) → Q (.ref D) H') : tLc (iRng1 ta) g tt te vs σ H Q := by
  refine ht _ ⟨_, rfl, ?_, ?_, fun D hD => ?_⟩
  · have : -(2 ^ 62 : Int) ≤ 0 := by decide
    omega
  · have : (1000 : Int) < 2 ^ 62 := by decide
    omega
  rw [Int.toNat_natCast]
  refine lc_range (lo := 0) (n := n) (fun i H' => ∃ zs, H' D = some (.lst zs) ∧ Paired (fun z i => P i z (rmL [D] H')) zs ((List.range i).filter sel) ∧ Same H H') ⟨[], upd_same, .nil, new_same hD _⟩ (fun i H' hi hP => ?_) (fun H' hP => ?_)
  · obtain ⟨zs, g1, g2, g3⟩ := hP
    have e0 : (0 : Int) + (i : Int) = ((i : Nat) : Int) := by omega
    rw [e0]
    refine turn D i H' _ _ ⟨_, g1⟩ g3 (same_rm1 hD g3) hi (fun hs y H4 s4 hy => ⟨zs, s4 _ _ g1, small1000 ?_, zs ++ [y], upd_same, ?_, fun b o z => ?_⟩) (fun hs H4 s4 => ⟨zs, s4 _ _ g1, ?_, g3.trans s4⟩)
    · rw [prd_len g2]
      refine Nat.le_trans (List.length_filter_le _ _) ?_
      rw [List.length_range]
      omega
    · rw [rm_put (List.mem_singleton.mpr rfl), range_filter, if_pos hs]
      exact prd_snoc (prd_imp (fun z i h => mono i z _ _ (rm_same s4) h) g2) hy
    · rw [upd_ne (ne_of_none z hD)]
      exact s4 _ _ (g3 _ _ z)
    · rw [range_filter, if_neg (by rw [hs]; exact Bool.false_ne_true), List.append_nil]
      exact prd_imp (fun z i h => mono i z _ _ (rm_same s4) h) g2
  · obtain ⟨zs, g1, g2, g3⟩ := hP
    exact hd D H' zs hD g3 g1 g2
/-- over a list that the iterable has just made -/
theorem lc_gL {K : PySem.W.Frag} {p : Addr} {ys : List V} {g : TG} {tt : TT} {te : TE} {vs : List Nat} {σ : L2.St} {H : Hp} {Q : VK} (P : Nat → V → Hp → Prop) (sel : Nat → Bool)
    (mono : ∀ i v R R', Same R R' → P i v R → P i v R') (hq : SqL K H p ys) (hl : ys.length ≤ 1000)
    (turn : ∀ (D : Addr) (i : Nat) (x : V) (H' : Hp) (yes : VK) (no : Hp → Prop), (∃ acc, H' D = some (.lst acc)) → Same H H' → Same H (rmL [D] H') → ys[i]? = some x →
      (sel i = true → ∀ y H4, Same H' H4 → P i y (rmL [D] H4) → yes y H4) → (sel i = false → ∀ H4, Same H' H4 → no H4) →
      g x (wipe σ vs) H' fun σ2 H2 => wipe σ2 vs = wipe σ vs ∧ tt σ2 H2 fun b H3 => if b = true then te σ2 H3 yes else no H3)
    (hd : ∀ D H' zs, H D = none → Same H H' → H' D = some (.lst zs) → Paired (fun z i => P i z (rmL [D] H')) zs ((List.range ys.length).filter sel) → Q (.ref D) H') :
    ∀ D, H D = none → ∃ W : Nat → Nat → Hp → Prop, (∃ m, W 0 m (L2.upd H D (.lst []))) ∧ ∀ i m H, W i m H →
      ((Itl K p).stop i H ∧ Q (.ref D) H) ∨ ((Itl K p).go i H ∧ ∃ Nx : Hp → Prop, (∀ H', Nx H' → ∃ m', m' < m ∧ W (i + 1) m' H') ∧ ∀ x H', (Itl K p).yld i H x H' → g x (wipe σ vs) H' fun σ2 H2 => wipe σ2 vs = wipe σ vs ∧ tt σ2 H2 fun b H3 =>
        if b = true then te σ2 H3 fun y H4 => ∃ acc, H4 D = some (.lst acc) ∧ acc.length < sizeLine ∧ Nx (L2.upd H4 D (.lst (acc ++ [y]))) else Nx H3) := by
  intro D hD
  refine lc_it walk_list (fun i H' => ∃ zs, H' D = some (.lst zs) ∧ Paired (fun z i => P i z (rmL [D] H')) zs ((List.range i).filter sel) ∧ Same H H') ⟨[], upd_same, .nil, new_same hD _⟩ (fun i H' _ ⟨_, _, _, s⟩ => s.seq hq) (fun i x H1' H' hi hP hY => ?_) (fun H' hP => ?_)
  · obtain ⟨rfl, hx⟩ := hY
    obtain ⟨zs, g1, g2, g3⟩ := hP
    refine turn D i x _ _ _ ⟨_, g1⟩ g3 (same_rm1 hD g3) hx (fun hs y H4 s4 hy => ⟨zs, s4 _ _ g1, small1000 ?_, zs ++ [y], upd_same, ?_, fun b o z => ?_⟩) (fun hs H4 s4 => ⟨zs, s4 _ _ g1, ?_, g3.trans s4⟩)
    · rw [prd_len g2]
      refine Nat.le_trans (List.length_filter_le _ _) ?_
      rw [List.length_range]
      omega
    · rw [rm_put (List.mem_singleton.mpr rfl), range_filter, if_pos hs]
      exact prd_snoc (prd_imp (fun z i h => mono i z _ _ (rm_same s4) h) g2) hy
    · rw [upd_ne (ne_of_none z hD)]
      exact s4 _ _ (g3 _ _ z)
    · rw [range_filter, if_neg (by rw [hs]; exact Bool.false_ne_true), List.append_nil]
      exact prd_imp (fun z i h => mono i z _ _ (rm_same s4) h) g2
  · obtain ⟨zs, g1, g2, g3⟩ := hP
    exact hd D H' zs hD g3 g1 g2
theorem ret_lc {wi : TI} {g : TG} {tt : TT} {te : TE} {vs : List Nat} {D : Ends} {σ : L2.St} {H : Hp} (h : tLc wi g tt te vs σ H D.rt) : tRet (tLc wi g tt te vs) D σ H := h
/-- what a function of the module is called with: a form, facts -/
structure Ask (K : PySem.W.Frag) (C : Addr) (H : Hp) (x : Addr) (v : V) (pf pr : Addr) (t : Tbl) (rs : List (List Pr)) (d : PyData) : Prop where
  fa : FormAt C H x pf pr
  tf : TabAt K H pf t
  rf : RulesAt K H pr rs
  ok : FormOk t rs
  dp : Dp K H v d
  fo : FOk d
  fz : areFacts t d = true → FaZ K H v d
theorem FaZ.same {K : PySem.W.Frag} {H H' : Hp} {v : V} {d : PyData} (s : Same H H') (h : FaZ K H v d) : FaZ K H' v d := by
  obtain ⟨q, zs, gs, e, a, b, c⟩ := h
  exact ⟨q, zs, gs, e, a.elim (fun z => .inl (s.seq z)) (fun z => .inr (z.same s)), b, dps_same s c⟩
theorem Ask.same {K : PySem.W.Frag} {C : Addr} {H H' : Hp} {x : Addr} {v : V} {pf pr : Addr} {t : Tbl} {rs : List (List Pr)} {d : PyData} (s : Same H H') (h : Ask K C H x v pf pr t rs d) : Ask K C H' x v pf pr t rs d := by
  obtain ⟨dx, hx⟩ := h.fa
  exact ⟨⟨dx, s _ _ hx⟩, h.tf.same s, rulesAtS s h.rf, h.ok, dp_same s h.dp, h.fo, fun z => (h.fz z).same s⟩
def badAt (CV : Addr) (H : Hp) (E : XK) : Prop := ∀ dd H', Same H H' → H' dd = none → E (.ref CV) (some dd) (L2.upd H' dd (.xd [("at", .int 1)]))
def spPossible (K : PySem.W.Frag) (C CV CB : Addr) : Sp := fun vs H Q E => ∃ (x pf pr : Addr) (v u : V) (t : Tbl) (rs : List (List Pr)) (d du : PyData), vs = [.ref x, v, u] ∧ Ask K C H x v pf pr t rs d ∧ Dp K H u du ∧ SeqAt.shaped du = true ∧ (areFacts t d = false → badAt CV H E) ∧
  (areFacts t d = true → (∀ n, du = .str n → n ∉ t.map (·.1)) → ∀ dd H', Same H H' → H' dd = none → E (.ref CB) (some dd) (L2.upd H' dd (.xd [("name", u)]))) ∧
  (areFacts t d = true → ∀ i n ws, du = .str n → t[i]? = some (n, ws) → ∀ z H', Same H H' → SqT K H' z ((possAt (fills rs (factsOf d) t) t i).map V.str) → Q (.ref z) H')
/-- each field with its possible values -/
def nmAt (t : Tbl) (i : Nat) : Str := (t.map (·.1)).getD i Str.empty
def allPoss (rows : List (List Pr)) (t : Tbl) : List (Str × List Str) := (List.range t.length).map fun i => (nmAt t i, possAt rows t i)
def EntAt (K : PySem.W.Frag) (H : Hp) (p : Addr) (e : Str × List Str) : Prop := ∃ z, SqT K H p [.str e.1, .ref z] ∧ SqT K H z (e.2.map V.str)
theorem EntAt.same {K : PySem.W.Frag} {H H' : Hp} {p : Addr} {e : Str × List Str} (s : Same H H') (h : EntAt K H p e) : EntAt K H' p e := by
  obtain ⟨z, a, b⟩ := h
  exact ⟨z, seqT_same s a, seqT_same s b⟩
def spAllP (K : PySem.W.Frag) (C CV : Addr) : Sp := fun vs H Q E => ∃ (x pf pr : Addr) (v : V) (t : Tbl) (rs : List (List Pr)) (d : PyData), vs = [.ref x, v] ∧ Ask K C H x v pf pr t rs d ∧ (areFacts t d = false → badAt CV H E) ∧
  (areFacts t d = true → ∀ D us H', Same H H' → H' D = some (.lst (us.map V.ref)) → Paired (EntAt K H') us (allPoss (fills rs (factsOf d) t) t) → Q (.ref D) H')
def openOf (l : List (Str × List Str)) : List Str := (l.filter fun e => decide (1 < e.2.length)).map (·.1)
def forcedOf (l : List (Str × List Str)) : List Pr := (l.filter fun e => decide (e.2.length = 1)).map fun e => (e.1, e.2.getD 0 Str.empty)
def spOpen (K : PySem.W.Frag) (C CV : Addr) : Sp := fun vs H Q E => ∃ (x pf pr : Addr) (v : V) (t : Tbl) (rs : List (List Pr)) (d : PyData), vs = [.ref x, v] ∧ Ask K C H x v pf pr t rs d ∧ (areFacts t d = false → badAt CV H E) ∧
  (areFacts t d = true → ∀ z H', Same H H' → SqT K H' z ((openOf (allPoss (fills rs (factsOf d) t) t)).map V.str) → Q (.ref z) H')
def spForced (K : PySem.W.Frag) (C CV : Addr) : Sp := fun vs H Q E => ∃ (x pf pr : Addr) (v : V) (t : Tbl) (rs : List (List Pr)) (d : PyData), vs = [.ref x, v] ∧ Ask K C H x v pf pr t rs d ∧ (areFacts t d = false → badAt CV H E) ∧
  (areFacts t d = true → ∀ z H', Same H H' → LotAt K H' z (forcedOf (allPoss (fills rs (factsOf d) t) t)) → Q (.ref z) H')
theorem fills_ok {t : Tbl} {rs : List (List Pr)} {f : List Pr} (O : FormOk t rs) : (fills rs f t).length ≤ 1000 ∧ ∀ row ∈ fills rs f t, row.length = t.length := by
  refine ⟨Nat.le_trans (fills_len t [[]] 1 (Nat.le_refl _)) O.ws, fun row hr => ?_⟩
  have := fold_names t [[]] [] (fun x hx => by rw [List.mem_singleton.mp hx] <;> rfl) row hr
  have := congrArg List.length this
  rw [List.length_map, List.nil_append, List.length_map] at this
  exact this
end Q
set_option Elab.async false
set_option linter.all false
set_option maxRecDepth 100000
set_option maxHeartbeats 4000000
/-! ### data layer: what stands beside a flow and lists that are written -/
namespace Q
open PySem L2 XD
/-- a flow: what hangs on S0 alone -/
structure Flo (S0 : List Addr) (Fl : Hp → Prop) : Prop where
  alive : ∀ {H}, Fl H → Alive S0 H
  loc : ∀ {H H'}, (∀ x ∈ S0, H' x = H x) → Fl H → Fl H'
theorem Flo.same {S0 : List Addr} {Fl : Hp → Prop} (f : Flo S0 Fl) {H H' : Hp} (s : Same H H') (h : Fl H) : Fl H' := by
  refine f.loc (fun x hx => ?_) h
  cases e : H x with
  | none => exact absurd e (f.alive h x hx)
  | some o => exact s _ _ e
theorem Flo.off {S0 : List Addr} {Fl : Hp → Prop} (f : Flo S0 Fl) {H : Hp} {p : Addr} {o : HO} (hp : p ∉ S0) (h : Fl H) : Fl (upd H p o) := f.loc (fun x hx => upd_ne fun z => hp (z ▸ hx)) h
theorem Flo.out {S0 : List Addr} {Fl : Hp → Prop} (f : Flo S0 Fl) {H : Hp} {p : Addr} (h : Fl H) (hp : H p = none) : p ∉ S0 := fun z => f.alive h p z hp
theorem rm_more {S0 S : List Addr} (sub : ∀ x ∈ S0, x ∈ S) {H H' : Hp} (s : Same (rmL S0 H) (rmL S0 H')) : Same (rmL S H) (rmL S H') := fun x o e => by
  obtain ⟨h1, h2⟩ := rm_of e
  have h3 : x ∉ S0 := fun z => h1 (sub x z)
  have h4 := s x o ((rm_at h3).trans h2)
  rw [rm_at h1]
  exact (rm_of h4).2
/-- what is known of the heap -/
structure Blk (K : PySem.W.Frag) (S0 : List Addr) (Fl : Hp → Prop) (R0 : Hp) (S : List Addr) (vs : List V) (ds : List PyData) (H : Hp) : Prop where
  fo : Flo S0 Fl
  fl : Fl H
  al : Alive S H
  sub : ∀ x ∈ S0, x ∈ S
  keep : Same R0 (rmL S0 H)
  nw : ∀ x ∈ S, x ∉ S0 → R0 x = none
  E : DpAll K (rmL S H) vs ds
theorem dget {K : PySem.W.Frag} {R : Hp} {vs : List V} {ds : List PyData} {v : V} {d : PyData} (E : DpAll K R vs ds) (i : Nat) (h : vs[i]? = some v) (g : ds[i]? = some d) : Dp K R v d := by
  obtain ⟨d', h1, h2⟩ := dps_get E h
  rw [g] at h1
  cases h1
  exact h2
/-- a list with this in it -/
def Lx (K : PySem.W.Frag) (S : List Addr) (L : Addr) (es : List PyData) (H : Hp) : Prop := ∃ us, H L = some (.lst us) ∧ DpAll K (rmL S H) us es
section
variable {K : PySem.W.Frag} {S0 S : List Addr} {Fl : Hp → Prop} {R0 : Hp} {vs : List V} {ds : List PyData} {H H' : Hp}
theorem Blk.new (f : Flo S0 Fl) (h : Fl H) (E : DpAll K (rmL S0 H) vs ds) : Blk K S0 Fl (rmL S0 H) S0 vs ds H := ⟨f, h, f.alive h, fun _ z => z, Same.refl _, fun x h1 h2 => absurd h1 h2, E⟩
theorem Blk.at (B : Blk K S0 Fl R0 S vs ds H) {p : Addr} {o : HO} (h : R0 p = some o) : H p = some o := (rm_of (B.keep _ _ h)).2
theorem Blk.same (B : Blk K S0 Fl R0 S vs ds H) (s : Same H H') : Blk K S0 Fl R0 S vs ds H' := ⟨B.fo, B.fo.same s B.fl, B.al.same s, B.sub, B.keep.trans (rm_same s), B.nw, dps_same (rm_same s) B.E⟩
theorem Blk.add (B : Blk K S0 Fl R0 S vs ds H) {v : V} {d : PyData} (h : Dp K (rmL S H) v d) : Blk K S0 Fl R0 S (v :: vs) (d :: ds) H := ⟨B.fo, B.fl, B.al, B.sub, B.keep, B.nw, .cons h B.E⟩
theorem Blk.move (B : Blk K S0 Fl R0 S vs ds H) (f : Fl H') (s : Same (rmL S0 H) (rmL S0 H')) : Blk K S0 Fl R0 S vs ds H' := by
  refine ⟨B.fo, f, fun x hx => ?_, B.sub, B.keep.trans s, B.nw, dps_same (rm_more B.sub s) B.E⟩
  by_cases h0 : x ∈ S0
  · exact B.fo.alive f x h0
  · intro z
    cases e : H x with
    | none => exact B.al x hx e
    | some o =>
      have := (rm_of (s x o ((rm_at h0).trans e))).2
      rw [z] at this
      cases this
theorem Blk.out (B : Blk K S0 Fl R0 S vs ds H) {p : Addr} (hp : H p = none) : p ∉ S0 := B.fo.out B.fl hp
theorem Blk.enter (B : Blk K S0 Fl R0 S vs ds H) {L : Addr} {o : HO} (hL : H L = none) : Blk K S0 Fl R0 (L :: S) vs ds (upd H L o) := by
  have s := new_same hL o
  refine ⟨B.fo, B.fo.same s B.fl, fun x hx z => ?_, fun x hx => List.mem_cons_of_mem _ (B.sub x hx), B.keep.trans (rm_same s), fun x hx h0 => ?_, dps_same (same_in hL s) B.E⟩
  · by_cases e : x = L
    · rw [e, upd_same] at z
      cases z
    · rw [upd_ne e] at z
      exact B.al x ((List.mem_cons.mp hx).resolve_left e) z
  · rcases List.mem_cons.mp hx with rfl | hx
    · cases e : R0 x with
      | none => rfl
      | some o' =>
        have := B.at e
        rw [hL] at this
        cases this
    · exact B.nw x hx h0
theorem Blk.put (B : Blk K S0 Fl R0 S vs ds H) {L : Addr} {o : HO} (hL : L ∈ S) (h0 : L ∉ S0) : Blk K S0 Fl R0 S vs ds (upd H L o) := by
  refine ⟨B.fo, B.fo.off h0 B.fl, fun x hx z => ?_, B.sub, fun x o' e => ?_, B.nw, by rw [rm_put hL]; exact B.E⟩
  · by_cases e : x = L
    · rw [e, upd_same] at z
      cases z
    · rw [upd_ne e] at z
      exact B.al x hx z
  · have n : x ≠ L := fun z => by
      rw [z, B.nw L hL h0] at e
      cases e
    have h1 := rm_of (B.keep x o' e)
    rw [rm_at h1.1, upd_ne n]
    exact h1.2
theorem Blk.sub1 (B : Blk K S0 Fl R0 S vs ds H) {S' : List Addr} (h : ∀ x ∈ S', x ∈ S) (h0 : ∀ x ∈ S0, x ∈ S') : Blk K S0 Fl R0 S' vs ds H := ⟨B.fo, B.fl, fun x hx => B.al x (h x hx), h0, B.keep, fun x hx => B.nw x (h x hx), dps_same (rm_sub h) B.E⟩
theorem Blk.drop (B : Blk K S0 Fl R0 S vs ds H) (k : Nat) : Blk K S0 Fl R0 S (vs.drop k) (ds.drop k) H := ⟨B.fo, B.fl, B.al, B.sub, B.keep, B.nw, dps_drop k B.E⟩
/-- what stood before -/
theorem Blk.base (B : Blk K S0 Fl R0 S vs ds H) : Same R0 (rmL S H) := fun x o e => by
  have h := rm_of (B.keep x o e)
  rw [rm_at (fun z => ?_)]
  · exact h.2
  · have := B.nw x z h.1
    rw [e] at this
    cases this
theorem Blk.ne (B : Blk K S0 Fl R0 S vs ds H) {p L : Addr} {o : HO} (h : R0 p = some o) (hL : L ∈ S) (h0 : L ∉ S0) : p ≠ L := fun z => by
  have := B.nw L hL h0
  rw [← z, h] at this
  cases this
/-- what stands now is what stood before -/
theorem Blk.rebase (B : Blk K S0 Fl R0 S vs ds H) : Blk K S0 Fl (rmL S H) S vs ds H := ⟨B.fo, B.fl, B.al, B.sub, rm_sub B.sub, fun x hx _ => if_pos hx, B.E⟩
theorem Blk.back {R1 : Hp} (B : Blk K S0 Fl R0 S vs ds H) (s : Same R1 R0) (nw : ∀ x ∈ S, x ∉ S0 → R1 x = none) : Blk K S0 Fl R1 S vs ds H := ⟨B.fo, B.fl, B.al, B.sub, s.trans B.keep, nw, B.E⟩
/-- lists -/
theorem Lx.sub {S' : List Addr} {L : Addr} {es : List PyData} (h : Lx K S L es H) (hs : ∀ x ∈ S', x ∈ S) : Lx K S' L es H := by
  obtain ⟨us, a, b⟩ := h
  exact ⟨us, a, dps_same (rm_sub hs) b⟩
theorem Lx.same {L : Addr} {es : List PyData} (h : Lx K S L es H) (s : Same H H') : Lx K S L es H' := by
  obtain ⟨us, a, b⟩ := h
  exact ⟨us, s _ _ a, dps_same (rm_same s) b⟩
theorem Lx.move {L : Addr} {es : List PyData} (h : Lx K S L es H) (sub : ∀ x ∈ S0, x ∈ S) (h0 : L ∉ S0) (s : Same (rmL S0 H) (rmL S0 H')) : Lx K S L es H' := by
  obtain ⟨us, a, b⟩ := h
  exact ⟨us, (rm_of (s _ _ ((rm_at h0).trans a))).2, dps_same (rm_more sub s) b⟩
theorem Lx.enter {L D : Addr} {es : List PyData} {o : HO} (h : Lx K S L es H) (hD : H D = none) : Lx K (D :: S) L es (upd H D o) := by
  obtain ⟨us, a, b⟩ := h
  exact ⟨us, new_same hD o _ _ a, dps_same (same_in hD (new_same hD o)) b⟩
theorem Lx.put {L D : Addr} {es : List PyData} {o : HO} (h : Lx K S L es H) (hD : D ∈ S) (n : L ≠ D) : Lx K S L es (upd H D o) := by
  obtain ⟨us, a, b⟩ := h
  exact ⟨us, by rw [upd_ne n]; exact a, by rw [rm_put hD]; exact b⟩
theorem Lx.len {L : Addr} {es : List PyData} (h : Lx K S L es H) : ∃ us, H L = some (.lst us) ∧ us.length = es.length := by
  obtain ⟨us, a, b⟩ := h
  exact ⟨us, a, dps_len b⟩
theorem Lx.item {L : Addr} {es : List PyData} {i : Nat} {d : PyData} (h : Lx K S L es H) (e : es[i]? = some d) : ∃ us v, H L = some (.lst us) ∧ us[i]? = some v ∧ Dp K (rmL S H) v d := by
  obtain ⟨us, a, b⟩ := h
  have l := dps_len b
  have hi : i < us.length := by
    have := (List.getElem?_eq_some_iff.mp e).1
    omega
  have ei := List.getElem?_eq_getElem hi
  exact ⟨us, us[i], a, ei, dget b i ei e⟩
end
/-! expressions -/
section
variable {K : PySem.W.Frag} {S : List Addr} {H0 : Hp} {σ : L2.St}
theorem dps_at {R : Hp} {ys : List V} {xs : List PyData} {z : Int} {d : PyData} (h : DpAll K R ys xs) (e : atI xs z = some d) : ∃ y, atI ys z = some y ∧ Dp K R y d := by
  unfold atI at e ⊢
  rw [dps_len h]
  cases q : ixN xs.length z with
  | none =>
    rw [q] at e
    cases e
  | some j =>
    rw [q] at e
    have e : xs[j]? = some d := e
    have hi : j < ys.length := by
      have := (List.getElem?_eq_some_iff.mp e).1
      have := dps_len h
      omega
    exact ⟨ys[j], List.getElem?_eq_getElem hi, dget h j (List.getElem?_eq_getElem hi) e⟩
theorem lift_row {H : Hp} {p : Addr} {xs : List V} (h : SqL K (rmL S H) p xs ∨ SqT K (rmL S H) p xs) : SqL K H p xs ∨ SqT K H p xs := h.elim (fun z => .inl (Same.seq rm_le z)) fun z => .inr (seqT_same rm_le z)
theorem at0 {α : Type} {x : α} {l : List α} : atI (x :: l) 0 = some x := show atI (x :: l) ((0 : Nat) : Int) = some x from atI_nat rfl
/-- x[i] -/
theorem mk_at {te : TE} {d e : PyData} {ds : List PyData} {z : Int} (h : MkD K S H0 σ te d) (hr : rowOf d = some ds) (hx : atI ds z = some e) : MkD K S H0 σ (tOp (rBoth K) te (tC (.int z))) e := fun H Q s k =>
  h H _ s fun v H1 s1 hv => by
    obtain ⟨q, ys, rfl, hq, ha⟩ := row_len hv hr
    obtain ⟨y, hy, dy⟩ := dps_at ha hx
    exact ix_row (lift_row hq) hy (k y H1 s1 dy)
/-- x[i], i what is drawn or in a slot -/
theorem mk_atI {te ti : TE} {d e : PyData} {ds : List PyData} {z : Int} (h : MkD K S H0 σ te d) (g : MkD K S H0 σ ti (.int z)) (hr : rowOf d = some ds) (hx : atI ds z = some e) : MkD K S H0 σ (tOp (rBoth K) te ti) e := fun H Q s k =>
  h H _ s fun v H1 s1 hv => g H1 _ (s.trans s1) fun i H2 s2 hi => by
    cases hi
    obtain ⟨q, ys, rfl, hq, ha⟩ := row_len (dp_same (rm_same s2) hv) hr
    obtain ⟨y, hy, dy⟩ := dps_at ha hx
    exact ix_row (lift_row hq) hy (k y H2 (s1.trans s2) dy)
/-- x + y, texts -/
abbrev rAdT : R2 := fun x y H Q => ∃ i j, x = V.str i ∧ y = V.str j ∧ i.length + j.length ≤ sizeLine ∧ Q (V.str (i ++ j)) H
theorem mk_add {t1 t2 : TE} {x y : Str} (h : MkD K S H0 σ t1 (.str x)) (g : MkD K S H0 σ t2 (.str y)) (hl : x.length + y.length ≤ 1000) : MkD K S H0 σ (tOp rAdT t1 t2) (.str (x ++ y)) := fun H Q s k =>
  h H _ s fun v H1 s1 hv => g H1 _ (s.trans s1) fun i H2 s2 hi => by
    cases hv
    cases hi
    exact ⟨x, y, rfl, rfl, le_line hl, k _ H2 (s1.trans s2) (.str _)⟩
/-- i // n, i % n, i + n -/
theorem mk_fdiv {te : TE} {i n : Int} (h : MkD K S H0 σ te (.int i)) (h1 : 0 < n) (h2 : n < 1073741824) : MkD K S H0 σ (tOp (rI CDiv fun i j => .int (i / j)) te (tC (.int n))) (.int (i / n)) := fun H Q s k =>
  h H _ s fun v H1 s1 hv => by
    cases hv
    exact ⟨_, _, rfl, rfl, ⟨h1, h2⟩, k _ H1 s1 (.int _)⟩
theorem mk_mod {te : TE} {i n : Int} (h : MkD K S H0 σ te (.int i)) (h1 : 0 < n) : MkD K S H0 σ (tOp (rI (fun _ j => 0 < j) fun i j => .int (i % j)) te (tC (.int n))) (.int (i % n)) := fun H Q s k =>
  h H _ s fun v H1 s1 hv => by
    cases hv
    exact ⟨_, _, rfl, rfl, h1, k _ H1 s1 (.int _)⟩
theorem mk_plus {t1 t2 : TE} {i n : Int} (h : MkD K S H0 σ t1 (.int i)) (g : MkD K S H0 σ t2 (.int n)) : MkD K S H0 σ (tOp (rI0 fun i j => .int (i + j)) t1 t2) (.int (i + n)) := fun H Q s k =>
  h H _ s fun v H1 s1 hv => g H1 _ (s.trans s1) fun u H2 s2 hu => by
    cases hv
    cases hu
    exact ⟨_, _, rfl, rfl, k _ H2 (s1.trans s2) (.int _)⟩
/-- t + u, tuples -/
theorem mk_catT {t1 t2 : TE} {ds es : List PyData} (A : Alive S H0) (h : MkD K S H0 σ t1 (.tuple ds)) (g : MkD K S H0 σ t2 (.tuple es)) (h1 : ds ≠ []) (hl : Nat.ble (ds.length + es.length) 1000 = true) : MkD K S H0 σ (tOp (rCatT K) t1 t2) (.tuple (ds ++ es)) := fun H Q s k =>
  h H _ s fun v H1 s1 hv => g H1 _ (s.trans s1) fun u H2 s2 hu => by
    have hv := dp_same (rm_same s2) hv
    cases hv with
    | @tup p xs _ a1 a2 =>
      cases hu with
      | @tup q ys _ b1 b2 =>
        have l1 := dps_len a2
        have l2 := dps_len b2
        have hl := Nat.le_of_ble_eq_true hl
        refine ⟨p, q, xs, ys, rfl, rfl, seqT_same rm_le a1, seqT_same rm_le b1, fun z => h1 ?_, le_line (by omega), fun e => ?_, fun _ r hr => ?_⟩
        · rw [z] at l1
          exact List.eq_nil_of_length_eq_zero l1.symm
        · have : es = [] := List.eq_nil_of_length_eq_zero (by rw [← l2, e] <;> rfl)
          rw [this, List.append_nil] at k
          exact k _ H2 (s1.trans s2) (.tup a1 a2)
        · have s3 := new_same hr (.tup (xs ++ ys))
          refine k _ _ ((s1.trans s2).trans s3) (.tup (.inl (.inl (rm_new ((A.same s).same (s1.trans s2)) hr))) (dps_same (rm_same s3) (dps_app a2 b2)))
/-- a list, told whole -/
def MkE (K : PySem.W.Frag) (S : List Addr) (H0 : Hp) (σ : L2.St) (te : TE) (es : List PyData) : Prop := ∀ H (Q : VK), Same H0 H → (∀ p us H', Same H H' → H' p = some (.lst us) → DpAll K (rmL S H') us es → Q (.ref p) H') → te σ H Q
/-- a new list -/
def MkX (K : PySem.W.Frag) (S : List Addr) (H0 : Hp) (σ : L2.St) (te : TE) (es : List PyData) : Prop := ∀ H (Q : VK), Same H0 H → (∀ p us H', Same H H' → H' p = none → DpAll K (rmL S H') us es → Q (.ref p) (upd H' p (.lst us))) → te σ H Q
theorem mx_lst {ta : TA} {es : List PyData} (hl : Nat.ble es.length 1000 = true) (h : MkL K S H0 σ ta es) : MkX K S H0 σ (tLst ta) es := fun H Q s k =>
  h H _ s fun us H1 s1 hus => ⟨le_line (by rw [dps_len hus]; exact Nat.le_of_ble_eq_true hl), fun p hp => k p us H1 s1 hp hus⟩
theorem me_new {te : TE} {es : List PyData} (h : MkX K S H0 σ te es) : MkE K S H0 σ te es := fun H Q s k =>
  h H _ s fun p us H1 s1 hp hus => k p us _ (s1.trans (new_same hp _)) upd_same (dps_same (rm_same (new_same hp _)) hus)
theorem me_var {i : Nat} {p : Addr} {es : List PyData} (e : σ[i]? = some (some (.ref p))) (h : Lx K S p es H0) : MkE K S H0 σ (tVar i) es := fun H Q s k => by
  obtain ⟨us, a, b⟩ := h
  exact ⟨_, e, k p us H (Same.refl H) (s _ _ a) (dps_same (rm_same s) b)⟩
theorem mx_cat {t1 t2 : TE} {ds es : List PyData} (h : MkE K S H0 σ t1 ds) (g : MkE K S H0 σ t2 es) (hl : ds.length + es.length ≤ 1000) : MkX K S H0 σ (tOp rCat t1 t2) (ds ++ es) := fun H Q s k =>
  h H _ s fun p us H1 s1 hp hus => g H1 _ (s.trans s1) fun q ws H2 s2 hq hws => ⟨p, q, us, ws, rfl, rfl, s2 _ _ hp, hq, le_line (by rw [dps_len hus, dps_len hws]; exact hl), fun r hr => k r _ H2 (s1.trans s2) hr (dps_app (dps_same (rm_same s2) hus) hws)⟩
theorem mk_new {te : TE} {es : List PyData} (A : Alive S H0) (h : MkX K S H0 σ te es) : MkD K S H0 σ te (.list es) := fun H Q s k =>
  h H _ s fun p us H1 s1 hp hus => k _ _ (s1.trans (new_same hp _)) (lst_dp ((A.same s).same s1) hp hus)
theorem mk_le {te : TE} {es : List PyData} {p : Addr} {i : Nat} (e : σ[i]? = some (some (.ref p))) (h : Lx K S p es H0) (n : p ∉ S) : MkD K S H0 σ (tVar i) (.list es) := fun H Q s k => by
  obtain ⟨us, a, b⟩ := h
  exact ⟨_, e, k _ H (Same.refl H) (.lst (SqL.of ((rm_at n).trans (s _ _ a))) (dps_same (rm_same s) b))⟩
/-- [..] * n -/
theorem mx_rep {t1 : TE} {es : List PyData} {n : Nat} (h : MkE K S H0 σ t1 es) (hn : n ≤ 1000) (hl : es.length * n ≤ 1000) : MkX K S H0 σ (tOp rRep t1 (tC (.int (n : Nat)))) (List.replicate n es).flatten := fun H Q s k =>
  h H _ s fun p us H1 s1 hp hus => by
    have e1 : ((n : Nat) : Int).toNat = n := Int.toNat_natCast n
    refine ⟨p, _, us, rfl, rfl, hp, ?_, ?_, ?_, fun q hq => ?_⟩
    · have : (-(2 ^ 63) : Int) ≤ 0 := by decide
      omega
    · have : (1000 : Int) < 2 ^ 63 := by decide
      omega
    · rw [e1, dps_len hus]
      exact le_line hl
    · rw [e1]
      refine k q _ H1 s1 hq ?_
      clear e1 hl hn k
      induction n with
      | zero => exact .nil
      | succ n ih =>
        rw [List.replicate_succ, List.replicate_succ, List.flatten_cons, List.flatten_cons]
        exact dps_app hus ih
theorem dps_str {R : Hp} : ∀ {vs : List V} {ws : List Str}, DpAll K R vs (ws.map PyData.str) → vs = ws.map V.str
  | _, [], h => by
    cases h
    rfl
  | _, w :: ws, h => by
    cases h with
    | cons a b =>
      cases a
      rw [dps_str b] <;> rfl
/-- sep.join(xs) -/
theorem le16 {n : Nat} (h : n ≤ 100000) : n ≤ 16777216 := Nat.le_trans h (by decide)
theorem mk_join {to te : TE} {x : Str} {ws : List Str} (h : MkD K S H0 σ to (.str x)) (g : MkE K S H0 σ te (ws.map PyData.str)) (hl : (ws.map (·.length)).sum + ws.length * x.length ≤ 100000) :
    MkD K S H0 σ (tM1 (fun x xs H Q => ∃ a p, ∃ ys : List Str, x = .str a ∧ xs = [.ref p] ∧ (SqL K H p (ys.map V.str) ∨ SqT K H p (ys.map V.str)) ∧ (ys.map (·.length)).sum + ys.length * a.length ≤ 16777216 ∧ Q (.str (Txt.join a ys)) H) to te) (.str (Txt.join x ws)) := fun H Q s k =>
  h H _ s fun v H1 s1 hv => by
    cases hv
    refine ⟨⟨_, rfl⟩, g H1 _ (s.trans s1) fun p us H2 s2 hp hus => ?_⟩
    rw [dps_str hus] at hp
    exact ⟨x, p, ws, rfl, rfl, .inl (SqL.of hp), le16 hl, k _ H2 (s1.trans s2) (.str _)⟩
theorem rm_rm {D : Addr} {H : Hp} : rmL S (rmL [D] H) = rmL (D :: S) H := by
  funext x
  unfold rmL
  by_cases h1 : x = D
  · subst h1
    rw [if_pos (show x ∈ x :: S from List.mem_cons_self), if_pos (show x ∈ [x] from List.mem_cons_self)]
    split <;> rfl
  · rw [if_neg (fun z => h1 (List.mem_singleton.mp z))]
    by_cases h2 : x ∈ S
    · rw [if_pos h2, if_pos (List.mem_cons_of_mem _ h2)]
    · rw [if_neg h2, if_neg (fun z => (List.mem_cons.mp z).elim h1 h2)]
theorem rm_back {D : Addr} {H : Hp} {o : HO} (h : H D = some o) : upd (rmL [D] H) D o = H := by
  funext x
  by_cases e : x = D
  · rw [e, upd_same, h]
  · rw [upd_ne e, rm_at (fun z => e (List.mem_singleton.mp z))]
theorem rm_gone {D : Addr} {H : Hp} : rmL [D] H D = none := if_pos (List.mem_singleton.mpr rfl)
theorem alive_cons {D : Addr} {H : Hp} (h : Alive [D] H) (A : Alive S H) : Alive (D :: S) H := fun x hx => (List.mem_cons.mp hx).elim (fun e => h x (List.mem_singleton.mpr e)) (A x)
theorem prd_dpa {R : Hp} {f : Nat → PyData} : ∀ {zs : List V} {l : List Nat}, Paired (fun z i => Dp K R z (f i)) zs l → DpAll K R zs (l.map f)
  | _, _, .nil => .nil
  | _, _, .cons a r => .cons a (prd_dpa r)
/-- a comprehension -/
theorem mx_lc {j : Nat} {u : V} {g : TG} {tt : TT} {te : TE} {ws : List Nat} {d : PyData} {ds es : List PyData} (sel : Nat → Bool) (f : Nat → PyData) (A : Alive S H0) (e0 : σ[j]? = some (some u)) (h : Dp K (rmL S H0) u d) (hr : rowOf d = some ds) (hl : ds.length ≤ 1000)
    (he : ((List.range ds.length).filter sel).map f = es)
    (turn : ∀ (i : Nat) (v : V) (e : PyData) (D : Addr) (H : Hp) (yes : VK) (no : Hp → Prop), ds[i]? = some e → Dp K (rmL (D :: S) H) v e → Alive (D :: S) H → Same (rmL S H0) (rmL (D :: S) H) → Same H0 H →
      (sel i = true → ∀ y H', Same H H' → Dp K (rmL (D :: S) H') y (f i) → yes y H') → (sel i = false → ∀ H', Same H H' → no H') →
      g v (wipe σ ws) H fun σ2 H2 => wipe σ2 ws = wipe σ ws ∧ tt σ2 H2 fun b H3 => if b = true then te σ2 H3 yes else no H3) : MkX K S H0 σ (tLc (iRow K (tVar j)) g tt te ws) es := fun H Q s k => by
  obtain ⟨q, ys, rfl, hq, ha⟩ := row_len (dp_same (rm_same s) h) hr
  have ly := dps_len ha
  refine lc_g (ys := ys) (fun i v R => Dp K (rmL S R) v (f i)) sel (fun i v R R' s h => dp_same (rm_same s) h) (fun Q' z => ⟨_, e0, z⟩) (lift_row hq) (by omega) (fun D i x H' yes no AD s1 s2 hx hy hn => ?_) (fun D H' zs hD s1 hz hP => ?_)
  · obtain ⟨e, he', hv⟩ := dps_get ha hx
    have sS : Same (rmL S H) (rmL (D :: S) H') := by
      have := rm_same (S := S) s2
      rw [rm_rm] at this
      exact this
    exact turn i x e D H' yes no he' (dp_same sS hv) (alive_cons AD ((A.same s).same s1)) ((rm_same s).trans sS) (s.trans s1) (fun g y H4 s4 hy4 => hy g y H4 s4 (by rw [rm_rm]; exact hy4)) hn
  · have := k D zs (rmL [D] H') (same_rm1 hD s1) rm_gone (by rw [← he, ← ly]; exact prd_dpa hP)
    rw [rm_back hz] at this
    exact this
/-- .. over the first whole numbers -/
theorem mx_rng {n m : Nat} {ta : TA} {te : TE} {ws : List Nat} (f : Nat → PyData) (A : Alive S H0) (ht : ∀ H (Q' : List V → Hp → Prop), Q' [.int (n : Nat)] H → ta σ H Q') (hn : n ≤ 1000) (hw : ∀ x, wipe ((wipe σ ws).set m (some x)) ws = wipe σ ws)
    (turn : ∀ (i : Nat) (D : Addr) (H : Hp) (yes : VK), i < n → Alive (D :: S) H → Same (rmL S H0) (rmL (D :: S) H) → Same H0 H →
      (∀ y H', Same H H' → Dp K (rmL (D :: S) H') y (f i) → yes y H') → te ((wipe σ ws).set m (some (.int (i : Nat)))) H yes) : MkX K S H0 σ (tLc (iRng1 ta) (gName m) tYes te ws) ((List.range n).map f) := fun H Q s k => by
  refine lc_gr (n := n) (fun i v R => Dp K (rmL S R) v (f i)) (fun _ => true) (fun i v R R' s h => dp_same (rm_same s) h) (fun Q' z => ht H Q' z) hn (fun D i H' yes no AD s1 s2 hi hy hno => ?_) (fun D H' zs hD s1 hz hP => ?_)
  · have sS : Same (rmL S H) (rmL (D :: S) H') := by
      have := rm_same (S := S) s2
      rw [rm_rm] at this
      exact this
    obtain ⟨acc, hacc⟩ := AD
    refine ⟨hw _, ?_⟩
    unfold tYes
    refine iteT (turn i D H' yes hi (alive_cons (fun x hx => by rw [List.mem_singleton.mp hx, hacc]; exact fun z => by cases z) ((A.same s).same s1)) ((rm_same s).trans sS) (s.trans s1) fun y H4 s4 hy4 => hy rfl y H4 s4 (by rw [rm_rm]; exact hy4))
  · rw [List.filter_eq_self.mpr (fun _ _ => rfl)] at hP
    have := k D zs (rmL [D] H') (same_rm1 hD s1) rm_gone (prd_dpa hP)
    rw [rm_back hz] at this
    exact this
end
/-! statements -/
section
variable {K : PySem.W.Frag} {S0 S : List Addr} {Fl : Hp → Prop} {R0 : Hp} {vs : List V} {ds : List PyData} {H : Hp} {σ : L2.St} {u : TS} {D : Ends} {i : Nat}
/-- x = what does not change -/
theorem asg_D {te : TE} {d : PyData} (B : Blk K S0 Fl R0 S vs ds H) (h : MkD K S H σ te d) (k : ∀ v H', Same H H' → Blk K S0 Fl R0 S (v :: vs) (d :: ds) H' → u D (σ.set i (some v)) H') : tSeq (tAsg te (gName i)) u D σ H :=
  h H _ (Same.refl H) fun v H1 s1 hv => k v H1 s1 ((B.same s1).add hv)
/-- x = a new list, which may change -/
theorem asg_X {te : TE} {es : List PyData} (B : Blk K S0 Fl R0 S vs ds H) (h : MkX K S H σ te es)
    (k : ∀ L o H', Same H H' → H' L = none → L ∉ S0 → L ∉ S → Blk K S0 Fl R0 (L :: S) vs ds (upd H' L o) → Lx K (L :: S) L es (upd H' L o) → u D (σ.set i (some (.ref L))) (upd H' L o)) : tSeq (tAsg te (gName i)) u D σ H :=
  h H _ (Same.refl H) fun L us H1 s1 hL hus => k L _ H1 s1 hL ((B.same s1).out hL) (fun z => (B.same s1).al L z hL) ((B.same s1).enter hL) ⟨us, upd_same, dps_same (same_in hL (new_same hL _)) hus⟩
/-- .., the last row of a block -/
theorem asg_X1 {te : TE} {es : List PyData} (B : Blk K S0 Fl R0 S vs ds H) (h : MkX K S H σ te es)
    (k : ∀ L o H', Same H H' → H' L = none → L ∉ S0 → L ∉ S → Blk K S0 Fl R0 (L :: S) vs ds (upd H' L o) → Lx K (L :: S) L es (upd H' L o) → D.nx (σ.set i (some (.ref L))) (upd H' L o)) : tAsg te (gName i) D σ H :=
  asg_X (u := fun D σ H => D.nx σ H) (D := D) B h k
/-- x.append(e) -/
theorem app_X {K' : PySem.W.Frag} {te : TE} {L : Addr} {es : List PyData} {d : PyData} (B : Blk K S0 Fl R0 S vs ds H) (hi : σ[i]? = some (some (.ref L))) (hL : Lx K S L es H) (hS : L ∈ S) (h0 : L ∉ S0) (h : MkD K S H σ te d) (hl : es.length ≤ 900)
    (k : ∀ o H', Same H H' → Blk K S0 Fl R0 S vs ds (upd H' L o) → Lx K S L (es ++ [d]) (upd H' L o) → u D σ (upd H' L o)) : tSeq (tDrop (tBM K' "list" rAppend (tVar i) (tCons te tNil))) u D σ H := by
  obtain ⟨us, h1, h2⟩ := hL
  have l := dps_len h2
  refine ⟨_, hi, .inl ⟨rfl, _, SqL.of h1⟩, h H _ (Same.refl H) fun v H1 s1 hv => ⟨L, us, v, rfl, rfl, s1 _ _ h1, small1000 (by omega), k _ H1 s1 ((B.same s1).put hS h0) ⟨us ++ [v], upd_same, ?_⟩⟩⟩
  rw [rm_put hS]
  exact dps_app (dps_same (rm_same s1) h2) (.cons hv .nil)
/-- .., the last row of a block -/
theorem app_X1 {K' : PySem.W.Frag} {te : TE} {L : Addr} {es : List PyData} {d : PyData} (B : Blk K S0 Fl R0 S vs ds H) (hi : σ[i]? = some (some (.ref L))) (hL : Lx K S L es H) (hS : L ∈ S) (h0 : L ∉ S0) (h : MkD K S H σ te d) (hl : es.length ≤ 900)
    (k : ∀ o H', Same H H' → Blk K S0 Fl R0 S vs ds (upd H' L o) → Lx K S L (es ++ [d]) (upd H' L o) → D.nx σ (upd H' L o)) : tDrop (tBM K' "list" rAppend (tVar i) (tCons te tNil)) D σ H :=
  app_X (u := fun D σ H => D.nx σ H) (D := D) B hi hL hS h0 h hl k
/-- x[i], i below the length -/
theorem ix_D {v : V} {d : PyData} {es : List PyData} {r : Nat} {Q : VK} (h : Dp K (rmL S H) v d) (hr : rowOf d = some es) (hi : r < es.length) (k : ∀ e y, es[r]? = some e → Dp K (rmL S H) y e → Q y H) : rBoth K v (.int (r : Nat)) H Q := by
  obtain ⟨q, ys, rfl, hq, ha⟩ := row_len h hr
  have l := dps_len ha
  have e1 := List.getElem?_eq_getElem (show r < ys.length by omega)
  have e2 := List.getElem?_eq_getElem hi
  exact ix_row (lift_row hq) (at_of rfl e1) (k _ _ e2 (dget ha r e1 e2))
theorem ix_X {L : Addr} {es : List PyData} {r : Nat} {Q : VK} (h : Lx K S L es H) (hi : r < es.length) (k : ∀ e y, es[r]? = some e → Dp K (rmL S H) y e → Q y H) : rBoth K (.ref L) (.int (r : Nat)) H Q := by
  obtain ⟨us, h1, ha⟩ := h
  have l := dps_len ha
  have e1 := List.getElem?_eq_getElem (show r < us.length by omega)
  have e2 := List.getElem?_eq_getElem hi
  exact ix_row (.inl (SqL.of h1)) (at_of rfl e1) (k _ _ e2 (dget ha r e1 e2))
/-- for x in what is in a slot -/
theorem for_D {g : TG} {tb : TS} {v : V} {d : PyData} {es : List PyData} (e0 : σ[i]? = some (some v)) (h : Dp K (rmL S H) v d) (hr : rowOf d = some es) (Pv : Nat → L2.St → Hp → Prop) (h0 : Pv 0 σ H) (kp : ∀ i σ' H', Pv i σ' H' → Same (rmL S H) (rmL S H'))
    (turn : ∀ i e y σ' H', es[i]? = some e → Dp K (rmL S H') y e → Pv i σ' H' → g y σ' H' fun σ2 H2 => tb { D with nx := Pv (i + 1), ct := Pv (i + 1), bk := D.nx } σ2 H2) (after : ∀ σ' H', Pv es.length σ' H' → D.nx σ' H') : tFor (iRow K (tVar i)) g tb D σ H := by
  obtain ⟨q, ys, rfl, hq, ha⟩ := row_len h hr
  have l := dps_len ha
  have tn : ∀ i x σ' H', ys[i]? = some x → Pv i σ' H' → g x σ' H' fun σ2 H2 => tb { D with nx := Pv (i + 1), ct := Pv (i + 1), bk := D.nx } σ2 H2 := fun i x σ' H' hx p => by
    obtain ⟨e, he, hd⟩ := dps_get ha hx
    exact turn i e x σ' H' he (dp_same (kp i σ' H' p) hd) p
  rcases hq with hq | hq
  · exact .inl ⟨_, e0, q, rfl, ⟨ys, Same.seq rm_le hq⟩, for_list (xs := ys) Pv h0 (fun i σ' H' _ p => Same.seq rm_le (Same.seq (kp i σ' H' p) hq)) tn (by rw [l]; exact after)⟩
  · exact .inr ⟨_, e0, q, rfl, ⟨ys, seqT_same rm_le hq⟩, for_tup (xs := ys) Pv h0 (fun i σ' H' _ p => seqT_same rm_le (seqT_same (kp i σ' H' p) hq)) tn (by rw [l]; exact after)⟩
/-- .., told of the heap ahead of the loop -/
theorem for_D0 {g : TG} {tb : TS} {v : V} {d : PyData} {es : List PyData} (e0 : σ[i]? = some (some v)) (h : Dp K (rmL S H) v d) (hr : rowOf d = some es) (Pv : Nat → L2.St → Hp → Prop) (h0 : Pv 0 σ H) (kp : ∀ i σ' H', Pv i σ' H' → Same (rmL S H) (rmL S H'))
    (turn : ∀ i e y σ' H', es[i]? = some e → Dp K (rmL S H) y e → Pv i σ' H' → g y σ' H' fun σ2 H2 => tb { D with nx := Pv (i + 1), ct := Pv (i + 1), bk := D.nx } σ2 H2) (after : ∀ σ' H', Pv es.length σ' H' → D.nx σ' H') : tFor (iRow K (tVar i)) g tb D σ H := by
  obtain ⟨q, ys, rfl, hq, ha⟩ := row_len h hr
  have l := dps_len ha
  have tn : ∀ i x σ' H', ys[i]? = some x → Pv i σ' H' → g x σ' H' fun σ2 H2 => tb { D with nx := Pv (i + 1), ct := Pv (i + 1), bk := D.nx } σ2 H2 := fun i x σ' H' hx p => by
    obtain ⟨e, he, hd⟩ := dps_get ha hx
    exact turn i e x σ' H' he hd p
  rcases hq with hq | hq
  · exact .inl ⟨_, e0, q, rfl, ⟨ys, Same.seq rm_le hq⟩, for_list (xs := ys) Pv h0 (fun i σ' H' _ p => Same.seq rm_le (Same.seq (kp i σ' H' p) hq)) tn (by rw [l]; exact after)⟩
  · exact .inr ⟨_, e0, q, rfl, ⟨ys, seqT_same rm_le hq⟩, for_tup (xs := ys) Pv h0 (fun i σ' H' _ p => seqT_same rm_le (seqT_same (kp i σ' H' p) hq)) tn (by rw [l]; exact after)⟩
/-- for x in a new list -/
theorem for_L {te : TE} {g : TG} {tb : TS} {es : List PyData} (A : Alive S H) (h : MkX K S H σ te es) (Pv : Hp → Nat → L2.St → Hp → Prop) (h0 : ∀ Hs, Same H Hs → Pv Hs 0 σ Hs) (kp : ∀ Hs i σ' H', Same H Hs → Pv Hs i σ' H' → Same (rmL S Hs) (rmL S H'))
    (turn : ∀ Hs i e y σ' H', Same H Hs → es[i]? = some e → Dp K (rmL S H') y e → Pv Hs i σ' H' → g y σ' H' fun σ2 H2 => tb { D with nx := Pv Hs (i + 1), ct := Pv Hs (i + 1), bk := D.nx } σ2 H2) (after : ∀ Hs σ' H', Same H Hs → Pv Hs es.length σ' H' → D.nx σ' H') : tFor (iList K te) g tb D σ H :=
  h H _ (Same.refl H) fun L us H1 s1 hL hus => by
    have s2 := new_same hL (.lst us)
    have sS := s1.trans s2
    have l := dps_len hus
    have hR : rmL S (L2.upd H1 L (.lst us)) L = some (.lst us) := rm_new (A.same s1) hL
    refine ⟨L, rfl, ⟨us, SqL.of upd_same⟩, for_list (xs := us) (Pv (L2.upd H1 L (.lst us))) (h0 _ sS) (fun i σ' H' _ p => SqL.of (rm_of (kp _ i σ' H' sS p _ _ hR)).2) (fun i x σ' H' hx p => ?_) (by rw [l]; exact fun σ' H' => after _ σ' H' sS)⟩
    obtain ⟨e, he, hd⟩ := dps_get hus hx
    exact turn _ i e x σ' H' sS he (dp_same (kp _ i σ' H' sS p) (dp_same (rm_same s2) hd)) p
theorem seq_for {w : TI} {g : TG} {tb : TS} (h : tFor w g tb { D with nx := u D } σ H) : tSeq (tFor w g tb) u D σ H := h
end
end Q
set_option Elab.async false
set_option linter.all false
set_option maxRecDepth 100000
set_option maxHeartbeats 4000000
/-! ### dicts of written keys -/
namespace Q
open PySem L2 XD
abbrev kz (ks : List Key) (vs : List V) : List (Key × V) := ks.zip vs
theorem kz_val : ∀ {ks : List Key} {vs : List V} {i : Nat} {k : Key} {v : V}, ks.Nodup → ks[i]? = some k → vs[i]? = some v → valV (kz ks vs) k = some v
  | [], _, _, _, _, _, h, _ => by cases h
  | k0 :: ks, [], _, _, _, _, _, h => by cases h
  | k0 :: ks, v0 :: vs, 0, k, v, _, h, g => by
    cases h
    cases g
    exact valV_pos rfl
  | k0 :: ks, v0 :: vs, i + 1, k, v, nd, h, g => by
    have h : ks[i]? = some k := h
    have n : ¬ (k0, v0).1 = k := fun z => by
      have z : k0 = k := z
      subst z
      exact (List.nodup_cons.mp nd).1 (List.mem_of_getElem? h)
    show valV ((k0, v0) :: kz ks vs) k = some v
    rw [valV_neg n]
    exact kz_val (List.nodup_cons.mp nd).2 h g
theorem putK_eq {k : Key} {v y : V} {r : List (Key × V)} (h : k ∉ r.map (·.1)) : putK ((k, v) :: r) k y = (k, y) :: r := by
  have e : (((k, v) :: r).any fun kv => decide (kv.1 = k)) = true := by
    rw [List.any_cons, decide_eq_true rfl, Bool.true_or]
  unfold putK
  rw [if_pos e, List.map_cons, if_pos rfl]
  congr 1
  refine (List.map_congr_left fun p hp => ?_).trans (List.map_id r)
  have n : ¬ p.1 = k := fun z => h (by rw [← z]; exact List.mem_map_of_mem hp)
  rw [if_neg n]
  rfl
theorem putK_ne {k0 k : Key} {v y : V} {r : List (Key × V)} (h : ¬ k0 = k) : putK ((k0, v) :: r) k y = (k0, v) :: putK r k y := by
  unfold putK
  rw [List.any_cons, decide_eq_false h, Bool.false_or]
  by_cases e : (r.any fun kv => decide (kv.1 = k)) = true
  · rw [if_pos e, if_pos e, List.map_cons, if_neg h]
  · rw [if_neg e, if_neg e, List.cons_append]
theorem zip_fst : ∀ {ks : List Key} {vs : List V} {k : Key}, k ∈ (kz ks vs).map (·.1) → k ∈ ks
  | [], _, _, h => by cases h
  | _ :: _, [], _, h => by cases h
  | k0 :: ks, v0 :: vs, k, h => by
    rcases List.mem_cons.mp h with h | h
    · exact List.mem_cons.mpr (.inl h)
    · exact List.mem_cons_of_mem _ (zip_fst h)
theorem kz_put : ∀ {ks : List Key} {vs : List V} {i : Nat} {k : Key} {y : V}, ks.Nodup → ks[i]? = some k → i < vs.length → putK (kz ks vs) k y = kz ks (vs.set i y)
  | [], _, _, _, _, _, h, _ => by cases h
  | k0 :: ks, [], _, _, _, _, _, h => absurd h (Nat.not_lt_zero _)
  | k0 :: ks, v0 :: vs, 0, k, y, nd, h, _ => by
    cases h
    exact putK_eq fun z => (List.nodup_cons.mp nd).1 (zip_fst z)
  | k0 :: ks, v0 :: vs, i + 1, k, y, nd, h, g => by
    have h : ks[i]? = some k := h
    have n : ¬ k0 = k := fun z => by
      subst z
      exact (List.nodup_cons.mp nd).1 (List.mem_of_getElem? h)
    show putK ((k0, v0) :: kz ks vs) k y = (k0, v0) :: kz ks (vs.set i y)
    rw [putK_ne n, kz_put (List.nodup_cons.mp nd).2 h (Nat.lt_of_succ_lt_succ g)]
theorem valV_none : ∀ {r : List (Key × V)} {k : Key}, k ∉ r.map (·.1) → valV r k = none
  | [], _, _ => valV_nil
  | p :: r, k, h => by
    rw [valV_neg fun z => h (by rw [← z]; exact List.mem_cons_self)]
    exact valV_none fun z => h (List.mem_cons_of_mem _ z)
theorem merge_app : ∀ {more acc : List (Key × V)}, ((acc ++ more).map (·.1)).Nodup → mergeK acc more = acc ++ more
  | [], acc, _ => (List.append_nil acc).symm
  | p :: r, acc, nd => by
    have n : p.1 ∉ acc.map (·.1) := fun z => by
      rw [List.map_append, List.nodup_append] at nd
      exact nd.2.2 _ z _ List.mem_cons_self rfl
    show mergeK (putK acc p.1 p.2) r = _
    rw [putK_new _ (valV_none n)]
    have e : (acc ++ [(p.1, p.2)]) ++ r = acc ++ p :: r := by rw [List.append_assoc] <;> rfl
    rw [merge_app (by rw [e]; exact nd), e]
theorem zip_keys : ∀ {ks : List Key} {vs : List V}, vs.length = ks.length → (kz ks vs).map (·.1) = ks
  | [], _, _ => rfl
  | _ :: _, [], h => by cases h
  | k0 :: ks, v0 :: vs, h => congrArg (k0 :: ·) (zip_keys (Nat.succ.inj h))
theorem kz_merge {ks : List Key} {vs : List V} (nd : ks.Nodup) (h : vs.length = ks.length) : mergeK [] (kz ks vs) = kz ks vs := merge_app (by rw [List.nil_append, zip_keys h]; exact nd)
theorem kz_get {H : Hp} {a : Addr} {ks : List Key} {vs : List V} {i : Nat} {k : Key} {v : V} (h : H a = some (.dK (kz ks vs))) (nd : ks.Nodup) (hk : ks[i]? = some k) (hv : vs[i]? = some v) : DGet H a (kV k) (some v) := by
  rw [← kz_val nd hk hv]
  exact DGet.k h
theorem kz_dput {H : Hp} {a : Addr} {ks : List Key} {vs : List V} {i : Nat} {k : Key} {y : V} (h : H a = some (.dK (kz ks vs))) (nd : ks.Nodup) (hk : ks[i]? = some k) (hi : i < vs.length) (hl : ks.length ≤ 1000) : DPut H a (kV k) y (upd H a (.dK (kz ks (vs.set i y)))) := by
  rw [← kz_put nd hk hi]
  exact DPut.k h (small1000 (by rw [List.length_zip]; omega))
end Q
set_option Elab.async false
set_option linter.all false
set_option maxRecDepth 100000
set_option maxHeartbeats 4000000
/-! ### _is_act, over any data -/
namespace Q
open PySem L2 XD
/-- x[lo:hi] of a list or a tuple -/
def rSlB (K : PySem.W.Frag) : V → Option Int → Option Int → Hp → VK → Prop := fun x lo hi H Q => rSlA K x lo hi H Q ∨ rSlL K x lo hi H Q
theorem sl_bothK {X : Cx} (K : PySem.W.Frag) (h : X.K = K) : SlR X (rSlB K) := by
  subst h
  intro pins s σ H x v vl vu lo hi sl Q I rx hs pl pu h
  rcases h with h | h
  · exact sl_tupA pins s σ H x v vl vu lo hi sl Q I rx hs pl pu h
  · exact sl_list pins s σ H x v vl vu lo hi sl Q I rx hs pl pu h
theorem op_inDKA {X : Cx} (K : PySem.W.Frag) (h : X.K = K) (hu : X.A.units + 65 < cLine) : OpR X (compareOp .In) (rInD K) := by
  subst h
  exact op_inD hu
def isK (x : Str) (d : PyData) : Bool := PyData.eqv d (.str x)
def dropOk (t : List (Str × List Str)) : List PyData → Bool
  | [a] => stands (t.map (·.1)) a
  | _ => false
def actOf (t : List (Str × List Str)) (k : PyData) (r : List PyData) : Bool :=
  if (isK "yes" k || isK "no" k) = true then decide (r.length = 0) else if isK "drop" k = true then dropOk t r else (isK "set" k || isK "not" k) && areFacts t (.tuple [.list r])
def isAct (t : List (Str × List Str)) (d : PyData) : Bool := match rowOf d with
  | some (k :: r) => actOf t k r
  | _ => false
theorem cut1 (y : V) (ys : List V) : cutV (y :: ys) (some 1) none = ys := by
  have e1 : HT.sIx (y :: ys).length 0 (some 1) = 1 := by
    have := HT.sIx_nat (y :: ys).length 0 1
    rw [List.length_cons] at this ⊢
    rw [Nat.min_eq_left (by omega)] at this
    exact this
  unfold cutV
  rw [e1, HT.sIx_none, List.drop_one, List.tail_cons, List.length_cons, Nat.add_sub_cancel, List.take_length]
/-- what is in it can be compared -/
def AOk (d : PyData) : Prop := ∀ xs, rowOf d = some xs → xs.length ≤ 1000 ∧ ∀ x ∈ xs, SeqAt.shaped x = true
def NStr (t : List (Str × List Str)) : Prop := ∀ n ∈ t.map (·.1), PyData.strOk n = true
theorem areF_row {t : List (Str × List Str)} {a b : PyData} (h : rowOf a = rowOf b) : areFacts t (.tuple [a]) = areFacts t (.tuple [b]) := by
  have e : pairOf a = pairOf b := by
    unfold pairOf
    rw [h]
  have g : ∀ seen, goFacts t seen [a] = goFacts t seen [b] := fun seen => by
    conv => lhs; unfold goFacts
    conv => rhs; unfold goFacts
    rw [e]
  show (decide ([a].length ≤ t.length) && goFacts t [] [a]) = (decide ([b].length ≤ t.length) && goFacts t [] [b])
  rw [g] <;> rfl
theorem fok_row {a : PyData} {r : List PyData} (h : rowOf a = some r) (hs : ∀ x ∈ r, SeqAt.shaped x = true) : FOk (.tuple [a]) := fun fs e f hf x y ep => by
  cases e
  rw [List.mem_singleton.mp hf] at ep
  unfold pairOf at ep
  rw [h] at ep
  match r, ep with
  | [u, w], ep =>
    cases ep
    exact hs _ (List.mem_cons_of_mem _ (List.mem_singleton.mpr rfl))
def spIsAct (K : PySem.W.Frag) : Sp := fun vs H Q _ => ∃ (p : Addr) (t : List (Str × List Str)) (v : V) (d : PyData), vs = [.ref p, v] ∧ TabAt K H p t ∧ NStr t ∧ Dp K H v d ∧ AOk d ∧ ∀ H', Same H H' → Q (.bl (isAct t d)) H'
abbrev nIsAct : List Str := ["fields", "act", "kind", "name", "_"]
theorem strs_shaped {ws : List Str} (h : ∀ w ∈ ws, PyData.strOk w = true) : SeqAt.shaped (.list (ws.map PyData.str)) = true := by
  unfold SeqAt.shaped
  have h1 := lay_strs ws h
  have h2 : ∀ ws : List Str, PyData.depthAll (ws.map PyData.str) = 0 := by
    intro ws
    induction ws with
    | nil => rfl
    | cons w ws ih => rw [List.map_cons, PyData.depthAll, ih] <;> rfl
  rw [PyData.canLay0, h1, Bool.true_and]
  refine decide_eq_true ?_
  rw [PyData.depth, h2]
  decide
section
variable {P : Program} {w : World} {K : PySem.W.Frag} {mg : Str → Option Value} {base : Heap}
theorem scIsAct : FnScope nIsAct ["fields", "act"] (defScope sIsAct) := ⟨rfl, rfl, rfl, by decide +kernel, rfl, by decide +kernel, by decide +kernel⟩
theorem ok_isact {f : Addr} {fd : FuncData} (F : Fun K "_is_act" "_is_act" sIsAct f fd) (T : Bb mg) (KR : Kn P w K mg base 1 "is_row" ["thing"] (spIsRow K)) (KF : Kn P w K mg base 3 "are_facts" ["fields", "facts"] (spAreFacts K)) : FnOk P w K mg base CX0 4 f fd ["fields", "act"] (spIsAct K) := by
  obtain ⟨fR, fdR, GR, kR, bR, mR⟩ := KR.ex
  obtain ⟨fF, fdF, GF, kF, bF, mF⟩ := KF.ex
  refine F.ok scIsAct (fun vs H Q E h => ?_) (fun cdv A outer s H vs Q E hr h => ?_)
  · obtain ⟨p, t, v, d, rfl, _⟩ := h
    rfl
  have hu2 : (A.deeper (PyProof.Rows.envOfC "_is_act" (defScope sIsAct) s.heap.objs.size f cdv)).units + 65 < cLine := by
    have := hr.un
    omega
  have hu : (A.deeper (PyProof.Rows.envOfC "_is_act" (defScope sIsAct) s.heap.objs.size f cdv)).units + 64 < cLine := by omega
  have hr1 := hr.mono (show 1 ≤ 3 by decide)
  refine ⟨_, pss_cons (ps_if (PW.pt (pw_or (pt_not (pt_val (pe_call GR hr1 rfl mR kR bR .nil pass0 (pa_cons (pv 1) pa_nil)))) (pw_or1 (pt_cmpR op_eq (pe_callB call_len_seq rfl T.len PySem.boot_len (pa_cons (pv 1) pa_nil)) pe_int (nomark _))))) (pss_one (ps_ret pe_bl)) pss_nil)
    (pss_cons (ps_set (i := 2) scIsAct.nd rfl (.inl rfl) (pe_ix (ix_both K rfl) (pv 1) pe_int (fun _ _ => rfl)))
    (pss_cons (ps_if (PW.pt (pw_or (pt_cmpR (op_eqDK K rfl hu) (pv 2) pe_str (nomark _)) (pw_or1 (pt_cmpR (op_eqDK K rfl hu) (pv 2) pe_str (nomark _))))) (pss_one (ps_ret (pe_cmpR op_eq (pe_callB call_len_seq rfl T.len PySem.boot_len (pa_cons (pv 1) pa_nil)) pe_int (nomark _)))) pss_nil)
    (pss_cons (ps_if (pt_cmpR (op_eqDK K rfl hu) (pv 2) pe_str (nomark _)) (pss_one (ps_ret (pe_and (pe_cmpR op_eq (pe_callB call_len_seq rfl T.len PySem.boot_len (pa_cons (pv 1) pa_nil)) pe_int (nomark _))
      (pe_one (pe_cmpR (op_inDKA K rfl hu2) (pe_ix (ix_both K rfl) (pv 1) pe_int (fun _ _ => rfl)) (pe_lc (own := [("name", 3), ("_", 4)]) (g := gRow K 2 (gCons (gName 3) (gCons (gName 4) gNil))) (tt := tYes) (by rfl) scIsAct.nd (pi_row (pv 0)) (blkOk_by (N := nIsAct) (sc := defScope sIsAct) (by decide +kernel))
        (fun _ _ _ _ _ => pg_row rfl (pgs_cons (pg_name (i := 3) scIsAct.nd rfl (.inl rfl)) (pgs_cons (pg_name (i := 4) scIsAct.nd rfl (.inl rfl)) pgs_nil))) (fun _ _ _ _ _ => pts_nil) (fun _ _ _ _ _ => pv 3)) (by with_unfolding_all rfl)))))) pss_nil)
    (pss_one (ps_ret (pe_and (pe_or (pe_cmpR (op_eqDK K rfl hu) (pv 2) pe_str (nomark _)) (pe_one (pe_cmpR (op_eqDK K rfl hu) (pv 2) pe_str (nomark _)))) (pe_one (pe_call GF hr rfl mF kF bF .nil pass0 (pa_cons (pv 0) (pa_cons (pe_tup (pa_cons (pe_slice (sl_bothK K rfl) (pv 1) (po_some pe_int) po_none) pa_nil)) pa_nil)))))))))), ?_⟩
  obtain ⟨p, t, v, d, rfl, ht, hn, hd, ho, k⟩ := h
  refine ⟨_, rfl, v, d, rfl, hd, fun H1 s1 => ⟨_, rfl, ?_⟩⟩
  cases e : rowOf d with
  | none =>
    have e1 : isRow d = false := by
      unfold isRow
      rw [e] <;> rfl
    rw [e1]
    refine iteT (iteT (q_is ?_ (k H1 s1)))
    unfold isAct
    rw [e]
  | some xs =>
    have e1 : isRow d = true := by
      unfold isRow
      rw [e] <;> rfl
    rw [e1]
    obtain ⟨h1000, hsh⟩ := ho xs e
    obtain ⟨q, ys, rfl, hq, ha⟩ := row_len (dp_same s1 hd) e
    have hl := dps_len ha
    refine iteF ⟨_, rfl, q, ys, rfl, hq, rfl, _, rfl, ?_⟩
    cases hxs : xs with
    | nil =>
      subst hxs
      have : ys = [] := List.eq_nil_of_length_eq_zero hl
      subst this
      refine iteDT (by rfl) (q_is ?_ (k H1 s1))
      unfold isAct
      rw [e]
    | cons kd r =>
    subst hxs
    cases ha with
    | @cons yk yr _ _ hk hr' =>
    have lr := dps_len hr'
    have ea : isAct t d = actOf t kd r := by
      unfold isAct
      rw [e]
    have len1 : decide (V.int (((yk :: yr).length : Nat) : Int) = V.int 1) = decide (r.length = 0) := decide_eq_decide.mpr ⟨fun z => by
      have := V.int.inj z
      rw [List.length_cons] at this
      omega, fun z => by rw [List.length_cons, lr, z] <;> rfl⟩
    have len2 : decide (V.int (((yk :: yr).length : Nat) : Int) = V.int 2) = decide (r.length = 1) := decide_eq_decide.mpr ⟨fun z => by
      have := V.int.inj z
      rw [List.length_cons] at this
      omega, fun z => by rw [List.length_cons, lr, z] <;> rfl⟩
    have sk := hsh kd List.mem_cons_self
    have ss : ∀ x : Str, PyData.strOk x = true → SeqAt.shaped (.str x) = true := fun x h => by
      unfold SeqAt.shaped
      rw [PyData.canLay0, h, Bool.true_and, PyData.depth]
      exact decide_eq_true (Nat.zero_le _)
    have k : ∀ H', Same H1 H' → Q (.bl (isAct t d)) H' := fun H' s => k H' (s1.trans s)
    have ht := (show TabAt K H1 p t by
      obtain ⟨ps, kvs, z1, z2, z3⟩ := ht
      exact ⟨ps, kvs, z1.same s1, z2.same s1, z3⟩)
    rw [ea] at k
    refine iteDF (fun z => ?_) (nxt ?_)
    · have := V.int.inj z
      rw [List.length_cons] at this
      omega
    refine ⟨_, rfl, ix_row hq (at_of (j := 0) rfl (by rfl)) ?_⟩
    try dsimp only [gName]
    unfold actOf isK at k
    have oy : PyData.strOk "yes" = true := by decide +kernel
    have on_ : PyData.strOk "no" = true := by decide +kernel
    have od : PyData.strOk "drop" = true := by decide +kernel
    have os : PyData.strOk "set" = true := by decide +kernel
    have ot : PyData.strOk "not" = true := by decide +kernel
    -- yes, no
    refine ⟨_, rfl, kd, .str "yes", hk, .str _, sk, ss _ oy, _, rfl, ?_⟩
    cases ey : PyData.eqv kd (.str "yes") with
    | true =>
      rw [ey, Bool.true_or, if_pos rfl] at k
      exact iteT (iteT ⟨_, rfl, q, _, rfl, hq, rfl, q_is len1 (k _ (Same.refl _))⟩)
    | false =>
    refine iteF ⟨_, rfl, kd, .str "no", hk, .str _, sk, ss _ on_, _, rfl, ?_⟩
    cases en : PyData.eqv kd (.str "no") with
    | true =>
      rw [ey, en, Bool.false_or, if_pos rfl] at k
      exact iteT ⟨_, rfl, q, _, rfl, hq, rfl, q_is len1 (k _ (Same.refl _))⟩
    | false =>
    rw [ey, en, Bool.false_or, if_neg Bool.false_ne_true] at k
    refine iteF (nxt ?_)
    -- drop
    refine ⟨_, rfl, kd, .str "drop", hk, .str _, sk, ss _ od, _, rfl, ?_⟩
    cases ed : PyData.eqv kd (.str "drop") with
    | true =>
      rw [ed, if_pos rfl] at k
      refine iteT ⟨_, rfl, q, _, rfl, hq, rfl, _, rfl, ?_⟩
      rw [len2]
      cases hr2 : r with
      | nil =>
        subst hr2
        exact iteF (k _ (Same.refl _))
      | cons a r2 =>
      subst hr2
      cases hr3 : r2 with
      | cons b r3 =>
        subst hr3
        have : decide ((a :: b :: r3).length = 1) = false := decide_eq_false (by rw [List.length_cons, List.length_cons]; omega)
        rw [this]
        exact iteF (k _ (Same.refl _))
      | nil =>
      subst hr3
      cases hr' with
      | @cons ya yr2 _ _ hya hz =>
      cases hz
      refine iteT ⟨_, rfl, ix_row hq (by rfl) ?_⟩
      obtain ⟨ps, kvs, hz, hT, htn, htm⟩ := ht
      have hlen : (ps.map V.ref).length = t.length := by rw [List.length_map, hT.len.1]
      refine lc_g (ys := ps.map V.ref) (fun i v R => ∃ n ws, t[i]? = some (n, ws) ∧ v = .str n) (fun _ => true) (fun i v R R' s h => h) (fun Q' z => ⟨_, rfl, z⟩) (.inr hz.sqT) (by rw [hlen]; exact htm) (fun D i y H4 yes no AD s4 s5 hy hyes hno => ?_) (fun D H4 zs hD s4 hz4 hP => ?_)
      · obtain ⟨q1, v1, n, ws, rfl, e1, e2, e3⟩ := hT.at hy
        refine .inl ⟨q1, _, rfl, seqT_same s4 e2, rfl, .str n, _, rfl, .ref v1, [], rfl, rfl, rfl, ?_⟩
        dsimp only [tYes]
        exact iteT ⟨_, rfl, hyes rfl _ _ (Same.refl _) ⟨n, ws, e1, rfl⟩⟩
      · have ez : zs = (t.map (·.1)).map V.str := by
          rw [List.filter_eq_self.mpr (fun _ _ => rfl), hlen] at hP
          refine List.ext_getElem? fun i => ?_
          by_cases hi : i < t.length
          · have hl2 := prd_len hP
            rw [List.length_range] at hl2
            obtain ⟨j, hj, n, ws, g1, g2⟩ := prd_at hP (List.getElem?_eq_getElem (l := zs) (i := i) (by omega))
            rw [List.getElem?_range hi] at hj
            cases hj
            rw [List.getElem?_eq_getElem (by omega), g2, List.getElem?_map, List.getElem?_map, g1] <;> rfl
          · have hl2 := prd_len hP
            rw [List.length_range] at hl2
            rw [List.getElem?_eq_none (by omega), List.getElem?_eq_none (by rw [List.length_map, List.length_map]; omega)]
        rw [ez] at hz4
        refine ⟨a, (t.map (·.1)).map PyData.str, dp_same s4 hya, .lst (SqL.of hz4) (dps_strs _), hsh a (List.mem_cons_of_mem _ List.mem_cons_self), strs_shaped (ws := t.map Prod.fst) hn, ?_⟩
        exact k _ s4
    | false =>
    rw [ed, if_neg Bool.false_ne_true] at k
    refine iteF (nxt ?_)
    -- set, not
    have call : ∀ {σ : L2.St} {R : VK}, σ = [some (.ref p), some (.ref q), some yk, none, none] → (∀ H', Same H1 H' → R (.bl (areFacts t (.tuple [.list r]))) H') → tCall (spAreFacts K) [] E0 (tCons (tVar 0) (tCons (tTup (tCons (tSl (rSlB K) (tVar 1) (tPart (tC (.int 1))) tNoPart) tNil)) tNil)) σ H1 R := fun {σ R} hσ hR => by
      subst hσ
      refine ⟨_, rfl, _, rfl, _, rfl, ?_⟩
      unfold tNoPart
      have hx : ∀ x ∈ r, SeqAt.shaped x = true := fun x h => hsh x (List.mem_cons_of_mem _ h)
      rcases hq with hq | hq
      · refine .inr ⟨q, _, rfl, hq, fun z hz => ?_⟩
        rw [cut1]
        have s2 := new_same hz (.lst yr)
        have dz : Dp K (L2.upd H1 z (.lst yr)) (.ref z) (.list r) := .lst (SqL.of upd_same) (dps_same s2 hr')
        generalize L2.upd H1 z (.lst yr) = H2 at s2 dz
        refine ⟨by show 1 ≤ sizeLine; decide, fun w hw => ?_⟩
        have s3 := new_same hw (.tup [V.ref z])
        have s13 := s2.trans s3
        refine ⟨p, t, .ref w, .tuple [.list r], rfl, ?_, .tup (.inl (.inl upd_same)) (.cons (dp_same s3 dz) .nil), fok_row rfl hx, fun H' s' => hR H' (s13.trans s')⟩
        obtain ⟨ps, kvs, z1, z2, z3⟩ := ht
        exact ⟨ps, kvs, z1.same s13, z2.same s13, z3⟩
      · refine .inl ⟨q, _, rfl, hq, fun z => ?_, fun _ z hz => ?_⟩
        · have := z.1
          rw [show HT.sIx (yk :: yr).length 0 (some 1) = min 1 (yk :: yr).length from HT.sIx_nat _ 0 1, List.length_cons] at this
          omega
        rw [cut1]
        have s2 := new_same hz (.tup yr)
        have dz : Dp K (L2.upd H1 z (.tup yr)) (.ref z) (.tuple r) := .tup (.inl (.inl upd_same)) (dps_same s2 hr')
        generalize L2.upd H1 z (.tup yr) = H2 at s2 dz
        refine ⟨by show 1 ≤ sizeLine; decide, fun w hw => ?_⟩
        have s3 := new_same hw (.tup [V.ref z])
        have s13 := s2.trans s3
        refine ⟨p, t, .ref w, .tuple [.tuple r], rfl, ?_, .tup (.inl (.inl upd_same)) (.cons (dp_same s3 dz) .nil), fok_row rfl hx, fun H' s' => ?_⟩
        · obtain ⟨ps, kvs, z1, z2, z3⟩ := ht
          exact ⟨ps, kvs, z1.same s13, z2.same s13, z3⟩
        · rw [areF_row (t := t) (a := .tuple r) (b := .list r) rfl]
          exact hR H' (s13.trans s')
    refine ⟨_, rfl, kd, .str "set", hk, .str _, sk, ss _ os, _, rfl, ?_⟩
    cases es : PyData.eqv kd (.str "set") with
    | true =>
      rw [es, Bool.true_or, Bool.true_and] at k
      exact iteT ⟨_, rfl, iteT (call rfl k)⟩
    | false =>
    refine iteF ⟨_, rfl, kd, .str "not", hk, .str _, sk, ss _ ot, _, rfl, ?_⟩
    cases eo : PyData.eqv kd (.str "not") with
    | true =>
      rw [es, eo, Bool.false_or, Bool.true_and] at k
      exact iteT (call rfl k)
    | false =>
      rw [es, eo, Bool.false_or, Bool.false_and] at k
      exact iteF (k _ (Same.refl _))
end
end Q
set_option Elab.async false
set_option linter.all false
set_option maxRecDepth 100000
set_option maxHeartbeats 4000000
/-! ### is_text, over any data -/
namespace Q
open PySem L2 XD
/-- a string of words with one blank between -/
def text (x : Str) : Bool := (Txt.split x " ").all word
def isText : PyData → Bool
  | .str x => text x
  | _ => false
/-- .. of which the parts are -/
def wordsOf (x : Str) : List Str := Txt.split x " "
theorem words_le_ (x : Str) : (Txt.split x " ").length ≤ x.length + 2 := PyProof.Rows.split_le x " "
def Short9 : PyData → Prop
  | .str s => s.length ≤ 900
  | _ => True
def spIsText (K : PySem.W.Frag) : Sp := fun vs H Q _ => ∃ (v : V) (d : PyData), vs = [v] ∧ Dp K H v d ∧ Short9 d ∧ ∀ H', Same H H' → Q (.bl (isText d)) H'
section
variable {P : Program} {w : World} {K : PySem.W.Frag} {mg : Str → Option Value} {base : Heap}
theorem scIsText : FnScope ["thing", "word"] ["thing"] (defScope sIsText) := ⟨rfl, rfl, rfl, by decide +kernel, rfl, by decide +kernel, by decide +kernel⟩
theorem ok_istext {f : Addr} {fd : FuncData} (F : Fun K "is_text" "is_text" sIsText f fd) (T : Bb mg) (KW : Kn P w K mg base 2 "is_word" ["thing"] (spIsWord K)) : FnOk P w K mg base CX0 3 f fd ["thing"] (spIsText K) := by
  obtain ⟨fW, fdW, GW, kW, bW, mW⟩ := KW.ex
  refine F.ok scIsText (fun vs H Q E h => ?_) (fun cdv A outer s H vs Q E hr h => ?_)
  · obtain ⟨v, d, rfl, _⟩ := h
    rfl
  obtain ⟨v, d, rfl, hd, hs, k⟩ := h
  have vs_ : PySem.bootBuiltins "str" = some (.type "str") := by decide +kernel
  refine ⟨_, pss_one (ps_ret (pe_and (pe_isi T.isi T.str vs_ (pv 0)) (pe_one (pe_callB (cr_all (by rfl)) rfl T.all (by decide +kernel) (pa_cons (pe_lc (own := [("word", 1)]) (g := gName 1) (tt := tYes) (by rfl) scIsText.nd (pi_list (pe_m1 PySem.F.slot_str_split PySem.F.type_str_split mt_split (pv 0) pe_str)) (blkOk_by (N := ["thing", "word"]) (sc := defScope sIsText) (by decide +kernel))
      (fun _ _ _ _ _ => pg_name (i := 1) scIsText.nd rfl (.inl rfl)) (fun _ _ _ _ _ => pts_nil) (fun _ _ _ _ _ => pe_call GW hr rfl mW kW bW .nil pass0 (pa_cons (pv 1) pa_nil))) pa_nil))))), ?_⟩
  have ki := kit_str (K := K) (dp_no_dict hd)
  refine ⟨_, rfl, _, _, _, _, _, rfl, .ty _, tyD hd, ki, _, rfl, ?_⟩
  cases hd with
  | str x =>
    have hx : x.length ≤ 900 := hs
    refine iteT ?_
    unfold tCB
    show tLc (iList K _) (gName 1) tYes (tCall (spIsWord K) [] E0 (tCons (tVar 1) tNil)) [1] _ H _
    refine ⟨_, rfl, ⟨_, rfl⟩, x, " ", rfl, rfl, by decide +kernel, Nat.le_of_lt (small1000 (by omega)), fun p hp => ⟨p, rfl, ⟨_, SqL.of upd_same⟩, fun D hD => ?_⟩⟩
    have s1 := new_same hp (.lst ((Txt.split x " ").map V.str))
    have hp1 := upd_same (H := H) (a := p) (o := .lst ((Txt.split x " ").map V.str))
    have hk : ∀ y ∈ Txt.split x " ", y.length ≤ x.length := fun y hy => PyProof.Rows.part_short hy
    have hl := words_le_ x
    generalize L2.upd H p (.lst ((Txt.split x " ").map V.str)) = H1 at hD s1 hp1
    have et : text x = (Txt.split x " ").all word := rfl
    show ∃ W : Nat → Nat → Hp → Prop, _
    have k' : ∀ H', Same H1 H' → Q (.bl ((Txt.split x " ").all word)) H' := fun H' s => k H' (s1.trans s)
    generalize Txt.split x " " = ys at hp1 hk hl k'
    refine lc_it (walk_list (xs := ys.map V.str)) (fun i H' => H' D = some (.lst (((ys.take i).map word).map V.bl)) ∧ Same H1 H') ⟨upd_same, new_same hD _⟩ (fun i H' _ hP => hP.2.seq (SqL.of hp1)) (fun i x H2 H3 hi hP hY => ?_) (fun H' hP => ?_)
    · obtain ⟨rfl, hx⟩ := hY
      rw [List.getElem?_map] at hx
      obtain ⟨y, hy, rfl⟩ := Option.map_eq_some_iff.mp hx
      have := hk y (List.mem_of_getElem? hy)
      have hi := (List.getElem?_eq_some_iff.mp hy).1
      refine ⟨rfl, ?_⟩
      unfold tYes
      refine iteT ⟨_, rfl, .str y, .str y, rfl, .str y, (by show y.length ≤ 1000000; omega), fun H4 s4 => ⟨_, s4 _ _ hP.1, small1000 ?_, ?_, fun b o q => ?_⟩⟩
      · rw [List.length_map, List.length_map, List.length_take]
        omega
      · rw [upd_same, take_one hy, List.map_append, List.map_append]
        rfl
      · rw [upd_ne (ne_of_none q hD)]
        exact s4 _ _ (hP.2 _ _ q)
    · obtain ⟨hL, s2⟩ := hP
      rw [List.length_map, List.take_of_length_le (Nat.le_refl _)] at hL
      refine ⟨D, _, rfl, SqL.of hL, ?_⟩
      refine q_is ?_ (k' _ s2)
      rw [List.all_map]
      rfl
  | _ => exact iteF (k _ (Same.refl _))
end
end Q
set_option Elab.async false
set_option linter.all false
set_option maxRecDepth 100000
set_option maxHeartbeats 4000000
/-! ### _is_hearing, over any data -/
namespace Q
open PySem L2 XD
def hearPair (p : PyData) : Bool := match pairOf p with
  | some (a, b) => isWord a && isWord b
  | none => false
def isHearing (d : PyData) : Bool := match rowOf d with
  | some ps => ps.all hearPair
  | none => false
def HShort (d : PyData) : Prop := ∀ ps, rowOf d = some ps → ps.length ≤ 1000 ∧ ∀ p ∈ ps, ∀ a b, pairOf p = some (a, b) → Short a ∧ Short b
def spIsHearing (K : PySem.W.Frag) : Sp := fun vs H Q _ => ∃ (v : V) (d : PyData), vs = [v] ∧ Dp K H v d ∧ HShort d ∧ ∀ H', Same H H' → Q (.bl (isHearing d)) H'
theorem pair_row2 {g a b : PyData} (h : pairOf g = some (a, b)) : rowOf g = some [a, b] := by
  unfold pairOf at h
  cases e : rowOf g with
  | none =>
    rw [e] at h
    cases h
  | some xs =>
    rw [e] at h
    match xs, h with
    | [x, y], h =>
      cases h
      rfl
theorem pair_none {g : PyData} (h : isPair g = false) : pairOf g = none := by
  cases e : pairOf g with
  | none => rfl
  | some p =>
    obtain ⟨a, b⟩ := p
    unfold isPair at h
    rw [pair_row2 e] at h
    cases h
end Q
set_option Elab.async false
set_option linter.all false
set_option maxRecDepth 100000
set_option maxHeartbeats 4000000
/-! ### _table, over what is a hearing -/
namespace Q
open PySem L2 XD
/-- the pairs of a hearing -/
def wordOf : PyData → Str
  | .str s => s
  | _ => Str.empty
def earOf (p : PyData) : Str × Str := match pairOf p with
  | some (a, b) => (wordOf a, wordOf b)
  | none => (Str.empty, Str.empty)
def earsOf (d : PyData) : List (Str × Str) := match rowOf d with
  | some ps => ps.map earOf
  | none => []
/-- the dict in which they are looked up -/
def HTblAt (H : Hp) (D : Addr) (es : List (Str × Str)) : Prop := H D = some (.dT (putAll (es.map keyOf) (.bl true)))
def spTableH (K : PySem.W.Frag) : Sp := fun vs H Q _ => ∃ (v : V) (d : PyData), vs = [v] ∧ Dp K H v d ∧ HShort d ∧ isHearing d = true ∧ ∀ D H', H D = none → Same H H' → HTblAt H' D (earsOf d) → Q (.ref D) H'
theorem ret_dcT {w : TI} {g : TG} {tt : TT} {tk te : TE} {vs : List Nat} {D : Ends} {σ : L2.St} {H : Hp} (h : XK.tDcT w g tt tk te vs σ H D.rt) : tRet (XK.tDcT w g tt tk te vs) D σ H := h
end Q
set_option Elab.async false
set_option linter.all false
set_option maxRecDepth 100000
set_option maxHeartbeats 4000000
/-! ### _can_be -/
namespace Q
open PySem L2 XD
def oneCan (es : List (Str × Str)) (p : Str × Str) : Bool := decide (p.1 = p.2) || decide (p ∈ es)
def canBe (es : List (Str × Str)) (l r : List Str) : Bool := decide (l.length = r.length) && (l.zip r).all (oneCan es)
def spCanBe (K : PySem.W.Frag) : Sp := fun vs H Q _ => ∃ (D p q : Addr) (es : List (Str × Str)) (l r : List Str), vs = [.ref D, .ref p, .ref q] ∧ HTblAt H D es ∧ SqL K H p (l.map V.str) ∧ SqL K H q (r.map V.str) ∧ l.length ≤ 1000 ∧ r.length ≤ 1000 ∧ ∀ H', Same H H' → Q (.bl (canBe es l r)) H'
theorem len_neq (n m : Nat) : (!decide (V.int (n : Int) = V.int (m : Int))) = !decide (n = m) := by
  congr 1
  rw [Bool.eq_iff_iff, decide_eq_true_eq, decide_eq_true_eq]
  exact ⟨fun h => by have := V.int.inj h; omega, fun h => by rw [h]⟩
abbrev nCan : List Str := ["table", "said", "other", "one", "two"]
end Q
set_option Elab.async false
set_option linter.all false
set_option maxRecDepth 100000
set_option maxHeartbeats 4000000
/-! ### heard_as, over any data -/
namespace Q
open PySem L2 XD
/-- what is known of BadValue -/
structure Bh (K : PySem.W.Frag) (mg : Str → Option Value) (CV : Addr) : Prop where
  v : ∃ fI qual, XM.XcT K CV fI "at" qual
  gv : mg "BadValue" = some (.ref CV)
def bad3 (CV : Addr) (i : Int) (H : Hp) (E : XK) : Prop := ∀ dd H', Same H H' → H' dd = none → E (.ref CV) (some dd) (L2.upd H' dd (.xd [("at", .int i)]))
def spHeardAs (K : PySem.W.Frag) (CV : Addr) : Sp := fun vs H Q E => ∃ (v u o : V) (d du d2 : PyData), vs = [v, u, o] ∧ Dp K H v d ∧ Dp K H u du ∧ Dp K H o d2 ∧ HShort d ∧ Short9 du ∧ Short9 d2 ∧ (isHearing d = false → bad3 CV 0 H E) ∧ (isHearing d = true → isText du = false → bad3 CV 1 H E) ∧
  (isHearing d = true → isText du = true → isText d2 = false → bad3 CV 2 H E) ∧ (isHearing d = true → isText du = true → isText d2 = true → ∀ H', Same H H' → Q (.bl (canBe (earsOf d) (wordsOf (wordOf du)) (wordsOf (wordOf d2)))) H')
theorem nx3 {D : Ends} {σ : L2.St} {H : Hp} (h : D.nx σ H) : tNext D σ H := h
theorem Fun_okH3 {P : Program} {w : World} {K : PySem.W.Frag} {mg : Str → Option Value} {base : Heap} {x qual : Str} {st : Stmt} {f : Addr} {fd : FuncData} {N ps : List Str} {k : Nat} {sp : Sp} (F : Fun K x qual st f fd) (S : FnScope N ps (defScope st)) (len : ∀ vs H Q E, sp vs H Q E → vs.length = ps.length)
    (hbody : ∀ (cdv : Value) (A : Around) (outer : List Env) (s : Shared) (H : Hp) (vs : List V) (Q : VK) (E : XK), Room k (A.deeper (PyProof.Rows.envOfC qual (defScope st) s.heap.objs.size f cdv)) → sp vs H Q E →
      ∃ t, PSs (cxOf (L2N.CX P w) P w K mg base N qual (defScope st) f cdv A outer s H E) (defBody st) t ∧ t { nx := fun _ H' => Q .non H', rt := Q } (L2.start N vs) H) :
    FnOk P w K mg base (L2N.CX P w) (k + 1) f fd ps sp := by
  obtain ⟨oc, od, kV, doc, pm, an, cdv, ct, osl, rfl, lk, hcd⟩ := F.ex
  exact fn_of lk hcd S len fun A outer s H vs Q E hr hsp => hbody cdv A outer s H vs Q E hr hsp
end Q
set_option Elab.async false
set_option linter.all false
set_option maxRecDepth 100000
set_option maxHeartbeats 4000000
/-! ### _is_phrase, over any data -/
namespace Q
open PySem L2 XD
def isPhrase (t : List (Str × List Str)) (d : PyData) : Bool := match pairOf d with
  | some (x, a) => isText x && (decide ((wordsOf (wordOf x)).length ≤ 6) && isAct t a)
  | none => false
def POk (d : PyData) : Prop := ∀ x a, pairOf d = some (x, a) → Short9 x ∧ AOk a
structure Pc (mg : Str → Option Value) : Prop where
  mw : ∃ t, mg "MOST_WORDS_OF_TEXT" = some (.int 6 t)
  mp : ∃ t, mg "MOST_PHRASES" = some (.int 60 t)
theorem tabS {K : PySem.W.Frag} {H H' : Hp} {p : Addr} {t : List (Str × List Str)} (s : Same H H') (h : TabAt K H p t) : TabAt K H' p t := by
  obtain ⟨ps, kvs, z1, z2, z3⟩ := h
  exact ⟨ps, kvs, z1.same s, z2.same s, z3⟩
def spIsPhrase (K : PySem.W.Frag) : Sp := fun vs H Q _ => ∃ (p : Addr) (t : List (Str × List Str)) (v : V) (d : PyData), vs = [.ref p, v] ∧ TabAt K H p t ∧ NStr t ∧ Dp K H v d ∧ POk d ∧ ∀ H', Same H H' → Q (.bl (isPhrase t d)) H'
section
variable {P : Program} {w : World} {K : PySem.W.Frag} {mg : Str → Option Value} {base : Heap}
theorem scIsPhrase : FnScope ["fields", "phrase"] ["fields", "phrase"] (defScope sIsPhrase) := ⟨rfl, rfl, rfl, by decide +kernel, rfl, by decide +kernel, by decide +kernel⟩
theorem ok_isphrase {f : Addr} {fd : FuncData} (F : Fun K "_is_phrase" "_is_phrase" sIsPhrase f fd) (T : Bb mg) (C : Pc mg) (KP : Kn P w K mg base 2 "is_pair" ["thing"] (spIsPair K)) (KT : Kn P w K mg base 3 "is_text" ["thing"] (spIsText K)) (KA : Kn P w K mg base 4 "_is_act" ["fields", "act"] (spIsAct K)) :
    FnOk P w K mg base CX0 5 f fd ["fields", "phrase"] (spIsPhrase K) := by
  obtain ⟨fP, fdP, GP, kP, bP, mP⟩ := KP.ex
  obtain ⟨fT, fdT, GT, kT, bT, mT⟩ := KT.ex
  obtain ⟨fA, fdA, GA, kA, bA, mA⟩ := KA.ex
  obtain ⟨tW, hW⟩ := C.mw
  refine F.ok scIsPhrase (fun vs H Q E h => ?_) (fun cdv A outer s H vs Q E hr h => ?_)
  · obtain ⟨p, t, v, d, rfl, _⟩ := h
    rfl
  have hr2 := hr.mono (show 2 ≤ 4 by decide)
  have hr3 := hr.mono (show 3 ≤ 4 by decide)
  refine ⟨_, pss_cons (ps_if (PW.pt (pw_or (pt_not (pt_val (pe_call GP hr2 rfl mP kP bP .nil pass0 (pa_cons (pv 1) pa_nil)))) (pw_or1 (pt_not (pt_val (pe_call GT hr3 rfl mT kT bT .nil pass0 (pa_cons (pe_ix (ix_both K rfl) (pv 1) pe_int (fun _ _ => rfl)) pa_nil))))))) (pss_one (ps_ret pe_bl)) pss_nil)
    (pss_one (ps_ret (pe_and (pe_cmpR op_le (pe_callB call_len_seq rfl T.len PySem.boot_len (pa_cons (pe_m1 PySem.F.slot_str_split PySem.F.type_str_split mt_split (pe_ix (ix_both K rfl) (pv 1) pe_int (fun _ _ => rfl)) pe_str) pa_nil)) (pe_glob (v := .int 6) (by rfl) hW ⟨_, rfl⟩) (nomark _))
      (pe_one (pe_call GA hr rfl mA kA bA .nil pass0 (pa_cons (pv 0) (pa_cons (pe_ix (ix_both K rfl) (pv 1) pe_int (fun _ _ => rfl)) pa_nil))))))), ?_⟩
  obtain ⟨p, t, v, d, rfl, ht, hn, hd, ho, k⟩ := h
  refine ⟨_, rfl, v, d, rfl, hd, fun H1 s1 => ⟨_, rfl, ?_⟩⟩
  unfold isPhrase at k
  cases ep : pairOf d with
  | none =>
    rw [ep] at k
    have e1 : isPair d = false := by
      cases e : isPair d with
      | false => rfl
      | true =>
        obtain ⟨a, b, z, _⟩ := pair_yes e
        rw [ep] at z
        cases z
    rw [e1]
    exact iteT (iteT (k H1 s1))
  | some xa =>
    obtain ⟨x, a⟩ := xa
    rw [ep] at k
    obtain ⟨o1, o2⟩ := ho x a ep
    have e1 : isPair d = true := by
      unfold isPair
      rw [pair_row2 ep] <;> rfl
    rw [e1]
    obtain ⟨q, vx, va, rfl, hq, hx, ha⟩ := pair_at (dp_same s1 hd) ep
    refine iteF ⟨_, rfl, ix_row hq (by rfl) ⟨vx, x, rfl, hx, o1, fun H2 s2 => ⟨_, rfl, ?_⟩⟩⟩
    have k : ∀ H', Same H2 H' → Q (.bl (isText x && (decide ((wordsOf (wordOf x)).length ≤ 6) && isAct t a))) H' := fun H' s => k H' ((s1.trans s2).trans s)
    cases et : isText x with
    | false =>
      rw [et, Bool.false_and] at k
      exact iteT (k _ (Same.refl _))
    | true =>
      rw [et, Bool.true_and] at k
      refine iteF (nxt ?_)
      obtain ⟨z, rfl⟩ : ∃ z, x = .str z := by
        cases x <;> first | exact ⟨_, rfl⟩ | cases et
      cases hx
      have hz : z.length ≤ 900 := o1
      have hq2 : SqL K H2 q [.str z, va] ∨ SqT K H2 q [.str z, va] := hq.elim (fun z => .inl (s2.seq z)) (fun z => .inr (seqT_same s2 z))
      refine ⟨_, rfl, ix_row hq2 (by rfl) ⟨⟨_, rfl⟩, z, " ", rfl, rfl, by decide +kernel, Nat.le_of_lt (small1000 (by omega)), fun R hR => ?_⟩⟩
      have s3 := new_same hR (.lst ((Txt.split z " ").map V.str))
      have hR3 := upd_same (H := H2) (a := R) (o := .lst ((Txt.split z " ").map V.str))
      generalize L2.upd H2 R (.lst ((Txt.split z " ").map V.str)) = H3 at s3 hR3
      refine ⟨R, _, rfl, .inl (SqL.of hR3), _, _, rfl, rfl, _, rfl, ?_⟩
      have hq3 : SqL K H3 q [.str z, va] ∨ SqT K H3 q [.str z, va] := hq2.elim (fun z => .inl (s3.seq z)) (fun z => .inr (seqT_same s3 z))
      have el : ((Txt.split z " ").map V.str).length = (wordsOf (wordOf (.str z))).length := List.length_map _
      rw [el]
      by_cases h6 : (wordsOf (wordOf (.str z))).length ≤ 6
      · rw [decide_eq_true h6, Bool.true_and] at k
        refine iteDT (by omega) ⟨_, rfl, _, rfl, ix_row hq3 (by rfl) ⟨p, t, va, a, rfl, tabS ((s1.trans s2).trans s3) ht, hn, dp_same (s2.trans s3) ha, o2, fun H' s' => k H' (s3.trans s')⟩⟩
      · rw [decide_eq_false h6, Bool.false_and] at k
        exact iteDF (by omega) (k _ s3)
end
end Q
set_option Elab.async false
set_option linter.all false
set_option maxRecDepth 100000
set_option maxHeartbeats 4000000
/-! A dict whose keys are tuples of texts, numbers, None and tuples of such: {}, k in d, k not in d, d[k] = v for a new key. -/
namespace XN
open PySem PySem.Spec PyProof.Rows L2
mutual
/-- the value is such a key -/
inductive NK (K : PySem.W.Frag) (H : Hp) : V → NestedKey → Prop
  | non : NK K H .non .none
  | int (i : Int) : NK K H (.int i) (.num i)
  | str (x : Str) : NK K H (.str x) (.text x)
  | tup {p : Addr} {vs : List V} {ks : List NestedKey} : SqT K H p vs → NKs K H vs ks → NK K H (.ref p) (.tup ks)
inductive NKs (K : PySem.W.Frag) (H : Hp) : List V → List NestedKey → Prop
  | nil : NKs K H [] []
  | cons {v : V} {vs : List V} {k : NestedKey} {ks : List NestedKey} : NK K H v k → NKs K H vs ks → NKs K H (v :: vs) (k :: ks)
end
section
variable {X : Cx} {pins : List (Addr × Obj)} {σ : L2.St} {H : Hp} {s : Shared}
mutual
theorem nk_is (I : Inv X pins σ H s) : ∀ (k : NestedKey) (v : V) (u : Value), NK X.K H v k → RelV v u → NestedIs s.heap k u
  | .none, _, _, h, r => by
    cases h
    cases r
    exact .none
  | .num i, _, _, h, r => by
    cases h
    obtain ⟨t, rfl⟩ := r
    exact .int i t
  | .text x, _, _, h, r => by
    cases h
    obtain ⟨t, rfl⟩ := r
    exact .text x t
  | .tup ks, _, _, h, r => by
    cases h with
    | tup hq ha =>
      cases r
      obtain ⟨its, rv, ⟨o, ho, hc, n, hd⟩, _⟩ := I.tuple hq
      exact .tup ho hc hd (by simpa using nks_are I ks _ its ha rv)
theorem nks_are (I : Inv X pins σ H s) : ∀ (ks : List NestedKey) (vs : List V) (us : List Value), NKs X.K H vs ks → Vals vs us → NestedAll s.heap ks us
  | [], _, _, h, r => by
    cases h
    cases r
    exact .nil
  | k :: ks, _, _, h, r => by
    cases h with
    | cons h1 h2 =>
      cases r with
      | cons r1 r2 => exact .cons (nk_is I k _ _ h1 r1) (nks_are I ks _ _ h2 r2)
end
end
section
variable {K : PySem.W.Frag} {H H' : Hp}
mutual
theorem nk_imp (f : ∀ p xs, SqT K H p xs → SqT K H' p xs) : ∀ (k : NestedKey) (v : V), NK K H v k → NK K H' v k
  | .none, _, h => by
    cases h
    exact .non
  | .num i, _, h => by
    cases h
    exact .int i
  | .text x, _, h => by
    cases h
    exact .str x
  | .tup ks, _, h => by
    cases h with
    | tup hq ha => exact .tup (f _ _ hq) (nks_imp f ks _ ha)
theorem nks_imp (f : ∀ p xs, SqT K H p xs → SqT K H' p xs) : ∀ (ks : List NestedKey) (vs : List V), NKs K H vs ks → NKs K H' vs ks
  | [], _, h => by
    cases h
    exact .nil
  | k :: ks, _, h => by
    cases h with
    | cons h1 h2 => exact .cons (nk_imp f k _ h1) (nks_imp f ks _ h2)
end
theorem sqT_put {d : Addr} {φ : Heap → Prop} {o : HO} (hd : H d = some (.ext φ)) : ∀ p xs, SqT K H p xs → SqT K (upd H d o) p xs := fun p xs h => by
  rcases h with h | h
  · have n : p ≠ d := fun e => by
      rcases h with h | ⟨u, h⟩ <;> rw [e, hd] at h <;> cases h
    rcases h with h | ⟨u, h⟩
    · exact .inl (.inl (by rw [upd_ne n]; exact h))
    · exact .inl (.inr ⟨u, by rw [upd_ne n]; exact h⟩)
  · exact .inr h
end
/-- the dict's own object -/
def Rw (d : Addr) (es : Array DictEntry) : Heap → Prop := fun h => ∃ o ep, h.get? d = some o ∧ o.ExactDict ∧ o.data = .dict es ep
theorem rw_ok {P : Program} {w : World} {H : Hp} {h : Heap} {d : Addr} {es : Array DictEntry} (r : Rw d es h) : ObjOk P w H h d (.ext (Rw d es)) := by
  obtain ⟨o, ep, ho, x, e⟩ := id r
  exact ⟨r, ⟨o, ho⟩, fun h1 h2 ⟨o1, ep1, q1, x1, e1⟩ k => ⟨o1, ep1, k o1 q1, x1, e1⟩⟩
/-- such a dict: its keys and values, in the sequence in which they came -/
def DictN (P : Program) (w : World) (K : PySem.W.Frag) (H : Hp) (d : Addr) (kvs : List (NestedKey × V)) : Prop :=
  (d == sysModules) = false ∧ ∃ (es : Array DictEntry) (xs : List (NestedKey × Addr × Value)), H d = some (.ext (Rw d es)) ∧ es.toList = xs.map (entryOfKey (nestedKind P w)) ∧
    Paired (fun (p : NestedKey × V) (x : NestedKey × Addr × Value) => p.1 = x.1 ∧ NK K H (.ref x.2.1) x.1 ∧ x.1.depth ≤ 8 ∧ RelV p.2 x.2.2) kvs xs ∧ (xs.map (·.1)).Nodup
theorem DictN.same {P : Program} {w : World} {K : PySem.W.Frag} {H H' : Hp} {d : Addr} {kvs : List (NestedKey × V)} (f : ∀ p xs, SqT K H p xs → SqT K H' p xs) (e : ∀ o, H d = some o → H' d = some o) (h : DictN P w K H d kvs) : DictN P w K H' d kvs := by
  obtain ⟨h0, es, xs, h1, h2, h3, h4⟩ := h
  exact ⟨h0, es, xs, e _ h1, h2, L2.Paired.mapP h3 fun p x ⟨a, b, c, r⟩ => ⟨a, nk_imp f _ _ b, c, r⟩, h4⟩
section
variable {X : Cx} {pins : List (Addr × Obj)} {σ : L2.St} {H : Hp} {s : Shared} {d : Addr} {kvs : List (NestedKey × V)}
theorem dict_of (I : Inv X pins σ H s) (h : DictN X.prog X.w X.K H d kvs) : ∃ (es : Array DictEntry) (xs : List (NestedKey × Addr × Value)), H d = some (.ext (Rw d es)) ∧ s.heap.DictOfH (nestedKind X.prog X.w) d xs ∧
    Paired (fun (p : NestedKey × V) (x : NestedKey × Addr × Value) => p.1 = x.1 ∧ NK X.K H (.ref x.2.1) x.1 ∧ x.1.depth ≤ 8 ∧ RelV p.2 x.2.2) kvs xs := by
  obtain ⟨h0, es, xs, h1, h2, h3, h4⟩ := h
  obtain ⟨⟨o, ep, ho, ex, e⟩, _⟩ := (show ObjOk X.prog X.w H s.heap d (.ext (Rw d es)) from I.hok d _ h1)
  refine ⟨es, xs, h1, ⟨o, es, ep, ho, ex, e, h2, fun x hx => ?_, h4⟩, h3⟩
  obtain ⟨i, hi, rfl⟩ := List.mem_iff_getElem.mp hx
  have all : ∀ {kvs : List (NestedKey × V)} {xs : List (NestedKey × Addr × Value)}, Paired (fun (p : NestedKey × V) (x : NestedKey × Addr × Value) => p.1 = x.1 ∧ NK X.K H (.ref x.2.1) x.1 ∧ x.1.depth ≤ 8 ∧ RelV p.2 x.2.2) kvs xs → ∀ x ∈ xs, NK X.K H (.ref x.2.1) x.1 ∧ x.1.depth ≤ 8 := by
    intro kvs xs h
    induction h with
    | nil => intro x hx; exact absurd hx List.not_mem_nil
    | cons a b ih =>
      intro x hx
      rcases List.mem_cons.mp hx with rfl | hx
      · exact ⟨a.2.1, a.2.2.1⟩
      · exact ih x hx
  obtain ⟨g1, g2⟩ := all h3 _ (List.getElem_mem hi)
  exact ⟨nk_is I _ _ _ g1 rfl, g2⟩
theorem at_key {R : NestedKey × V → NestedKey × Addr × Value → Prop} (hR : ∀ p x, R p x → p.1 = x.1) : ∀ {kvs : List (NestedKey × V)} {xs : List (NestedKey × Addr × Value)}, Paired R kvs xs → ∀ k, (atKey xs k).isSome = decide (k ∈ kvs.map (·.1)) := by
  intro kvs xs h k
  induction h with
  | nil => rfl
  | @cons p x l m a b ih =>
    have e := hR _ _ a
    by_cases q : x.1 = k
    · have : atKey (x :: m) k = some x.2 := by simp [atKey, q]
      rw [this]
      have : k ∈ (p :: l).map (·.1) := by rw [List.map_cons, e, q]; exact List.mem_cons_self
      rw [decide_eq_true this] <;> rfl
    · have : atKey (x :: m) k = atKey m k := by simp [atKey, q]
      rw [this, ih]
      refine decide_eq_decide.mpr ⟨fun z => List.mem_cons_of_mem _ z, fun z => ?_⟩
      rw [List.map_cons] at z
      rcases List.mem_cons.mp z with z | z
      · exact absurd (e ▸ z.symm) q
      · exact z
end
/-! ### the rules -/
def tDNewN (P : Program) (w : World) (K : PySem.W.Frag) : TE := fun _ H Q => ∀ d o, H d = none → DictN P w K (upd H d o) d [] → Q (.ref d) (upd H d o)
def rInN (P : Program) (w : World) (K : PySem.W.Frag) (neg : Bool) : R2 := fun x y H Q => ∃ (p d : Addr) (k : NestedKey) (kvs : List (NestedKey × V)), x = .ref p ∧ y = .ref d ∧ NK K H (.ref p) k ∧ k.depth ≤ 8 ∧ DictN P w K H d kvs ∧ Q (.bl (if neg = true then !decide (k ∈ kvs.map (·.1)) else decide (k ∈ kvs.map (·.1)))) H
def rSetN (P : Program) (w : World) (K : PySem.W.Frag) : V → V → V → Hp → (Hp → Prop) → Prop := fun o i v H Q => ∃ (d p : Addr) (k : NestedKey) (kvs : List (NestedKey × V)), o = .ref d ∧ i = .ref p ∧ NK K H (.ref p) k ∧ k.depth ≤ 8 ∧ DictN P w K H d kvs ∧ k ∉ kvs.map (·.1) ∧ kvs.length < sizeLine ∧
  ∀ u, DictN P w K (upd H d u) d (kvs ++ [(k, v)]) → Q (upd H d u)
section
variable {X : Cx} {pos : Pos}
theorem pe_dnewN (P : Program) (w : World) (K : PySem.W.Frag) (e1 : X.prog = P) (e2 : X.w = w) (e3 : X.K = K) : PE X (.Dict [] [] pos) (tDNewN P w K) := by
  subst e1 e2 e3
  refine ⟨fun pins s σ H Q I h => wpAny_Dict_empty ?_⟩
  have r : Rw s.heap.objs.size #[] (s.heap.push { cls := .type "dict", data := .dict #[] }) := by
    obtain ⟨o, es, ep, h1, h2, h3, h4, _⟩ := (Heap.DictOfH.new (knd := nestedKind X.prog X.w) s.heap)
    have : es = #[] := by
      have h4 : es.toList = [] := h4
      exact Array.toList_eq_nil_iff.mp h4
    subst this
    exact ⟨o, ep, h1, h2, h3⟩
  refine ⟨.ref s.heap.objs.size, _, I.laid (a := s.heap.objs.size) (o := .ext (Rw s.heap.objs.size #[])) (t' := s.toks) (fun _ _ q => Heap.get?_push_of_some _ q) (Nat.le_refl _) (rw_ok r), rfl, h _ _ (I.hok.fresh (Nat.le_refl _)) ⟨?_, #[], [], upd_same, rfl, .nil, List.nodup_nil⟩⟩
  have := I.big
  exact beq_eq_false_iff_ne.mpr (Ne.symm (Nat.ne_of_lt this))
theorem op_inN (hu : X.A.units + 64 < cLine) (P : Program) (w : World) (K : PySem.W.Frag) (e1 : X.prog = P) (e2 : X.w = w) (e3 : X.K = K) : OpR X (compareOp .In) (rInN P w K false) := by
  subst e1 e2 e3
  intro pins s σ H x y v u Q I rx ry h
  obtain ⟨p, d, k, kvs, rfl, rfl, hk, dp, hd, q⟩ := h
  cases rx
  cases ry
  obtain ⟨es, xs, h1, h2, h3⟩ := dict_of I hd
  refine wpAny_in_heap (knd := nestedKind X.prog X.w) (k := k) ?_ ⟨nk_is I _ _ _ hk rfl, dp⟩ hd.1 h2 ⟨.bl _, H, I.tok _, rfl, ?_⟩
  · show X.A.units + 1 + 8 < cLine
    omega
  · rw [at_key (fun p x h => h.1) h3]
    exact q
theorem set_N (hu : X.A.units + 64 < cLine) (P : Program) (w : World) (K : PySem.W.Frag) (e1 : X.prog = P) (e2 : X.w = w) (e3 : X.K = K) : PSet X (rSetN P w K) := by
  subst e1 e2 e3
  intro pins s σ H o i v ov iv u Q I ro ri rv h
  obtain ⟨d, p, k, kvs, rfl, rfl, hk, dp, hd, nk, few, q⟩ := h
  cases ro
  cases ri
  obtain ⟨es, xs, h1, h2, h3⟩ := dict_of I hd
  have lx : xs.length < sizeLine := by
    rw [← Paired.length h3]
    exact few
  have hn : (atKey xs k).isSome = false := by
    rw [at_key (fun p x h => h.1) h3]
    exact decide_eq_false nk
  have es_ : storedH xs k p u = xs ++ [(k, p, u)] := by
    unfold storedH
    rw [if_neg (by rw [hn]; exact Bool.false_ne_true)]
  refine wpAny_setItem_heap (knd := nestedKind X.prog X.w) (k := k) (hsz := Nat.le_of_lt lx) ?_ ⟨nk_is I _ _ _ hk rfl, dp⟩ h2 fun h' hm hs => ?_
  · show X.A.units + 1 + 8 < cLine
    omega
  rw [es_] at hm
  obtain ⟨ob, es', ep', g1, g2, g3, g4, g5, g6⟩ := hm
  have J := d_write (ob := .ext (Rw d es')) (t' := s.toks + (nestedKind X.prog X.w).draws k) I (by rw [h1]; exact True.intro) hs ⟨ob, g1⟩ (rw_ok ⟨ob, ep', g1, g2, g3⟩)
  refine ⟨_, J, q _ ⟨hd.1, es', xs ++ [(k, p, u)], upd_same, g4, ?_, g6⟩⟩
  have put : ∀ {v : V} {k : NestedKey}, NK X.K H v k → NK X.K (upd H d (.ext (Rw d es'))) v k := fun h => nk_imp (sqT_put h1) _ _ h
  have app : ∀ {l : List (NestedKey × V)} {m : List (NestedKey × Addr × Value)}, Paired (fun (p : NestedKey × V) (x : NestedKey × Addr × Value) => p.1 = x.1 ∧ NK X.K H (.ref x.2.1) x.1 ∧ x.1.depth ≤ 8 ∧ RelV p.2 x.2.2) l m →
      Paired (fun (p : NestedKey × V) (x : NestedKey × Addr × Value) => p.1 = x.1 ∧ NK X.K (upd H d (.ext (Rw d es'))) (.ref x.2.1) x.1 ∧ x.1.depth ≤ 8 ∧ RelV p.2 x.2.2) (l ++ [(k, v)]) (m ++ [(k, p, u)]) := by
    intro l m h
    induction h with
    | nil => exact .cons ⟨rfl, put hk, dp, rv⟩ .nil
    | cons a b ih => exact .cons ⟨a.1, put a.2.1, a.2.2.1, a.2.2.2⟩ ih
  exact app h3
end
end XN
set_option Elab.async false
set_option linter.all false
set_option maxRecDepth 100000
set_option maxHeartbeats 4000000
/-! ### check_phrases, over any data -/
namespace Q
open PySem L2 XD XN
theorem eqv_str {d : PyData} {x : Str} (h : PyData.eqv d (.str x) = true) : d = .str x := by
  cases d <;> simp [PyData.eqv] at h
  rw [h]
/-- an act is of texts -/
theorem act_strs {t : List (Str × List Str)} {d : PyData} (h : isAct t d = true) : ∃ ws : List Str, rowOf d = some (ws.map PyData.str) ∧ ws.length ≤ 3 := by
  unfold isAct at h
  cases e : rowOf d with
  | none =>
    rw [e] at h
    cases h
  | some xs =>
    rw [e] at h
    cases xs with
    | nil => cases h
    | cons k r =>
      have h : actOf t k r = true := h
      unfold actOf at h
      by_cases h1 : (isK "yes" k || isK "no" k) = true
      · rw [if_pos h1] at h
        have hr : r = [] := List.eq_nil_of_length_eq_zero (of_decide_eq_true h)
        subst hr
        rw [Bool.or_eq_true] at h1
        rcases h1 with h1 | h1
        · rw [eqv_str h1]
          exact ⟨["yes"], rfl, by decide⟩
        · rw [eqv_str h1]
          exact ⟨["no"], rfl, by decide⟩
      · rw [if_neg h1] at h
        by_cases h2 : isK "drop" k = true
        · rw [if_pos h2] at h
          match r, h with
          | [a], h =>
            obtain ⟨w, rfl, _⟩ := stands_str (show stands (t.map (·.1)) a = true from h)
            rw [eqv_str h2]
            exact ⟨["drop", w], rfl, Nat.le_of_ble_eq_true rfl⟩
        · rw [if_neg h2, Bool.and_eq_true] at h
          obtain ⟨h3, h4⟩ := h
          obtain ⟨kx, rfl⟩ : ∃ x, k = .str x := by
            rw [Bool.or_eq_true] at h3
            exact h3.elim (fun z => ⟨_, eqv_str z⟩) fun z => ⟨_, eqv_str z⟩
          have h5 : goFacts t [] [.list r] = true := by
            have h4 : (decide ([PyData.list r].length ≤ t.length) && goFacts t [] [.list r]) = true := h4
            rw [Bool.and_eq_true] at h4
            exact h4.2
          cases ep : pairOf (.list r) with
          | none =>
            rw [go_none ep] at h5
            cases h5
          | some ab =>
            obtain ⟨a, b⟩ := ab
            cases ea : isStr a with
            | false =>
              rw [go_nostr ep ea] at h5
              cases h5
            | true =>
              obtain ⟨n, rfl⟩ : ∃ n, a = .str n := by
                cases a <;> first | exact ⟨_, rfl⟩ | cases ea
              cases el : look n t with
              | none =>
                rw [go_new ep el] at h5
                cases h5
              | some ws =>
                rw [go_old ep el, Bool.and_eq_true, Bool.and_eq_true] at h5
                obtain ⟨w, rfl, _⟩ := stands_str h5.2.1
                have hr : rowOf (.list r) = some [.str n, .str w] := pair_row2 ep
                have hr : r = [.str n, .str w] := Option.some.inj hr
                rw [hr]
                exact ⟨[kx, n, w], rfl, Nat.le_of_ble_eq_true rfl⟩
/-- the key under which a phrase is kept -/
def leafK : PyData → NestedKey
  | .str s => .text s
  | _ => .none
def keyOfP (p : PyData) : NestedKey := match pairOf p with
  | some (x, a) => .tup [.text (wordOf x), .tup (((rowOf a).getD []).map leafK)]
  | none => .none
def isPhrases (t : List (Str × List Str)) (d : PyData) : Bool := match rowOf d with
  | some ps => decide (1 ≤ ps.length) && (decide (ps.length ≤ 60) && (ps.all (isPhrase t) && decide (ps.map keyOfP).Nodup))
  | none => false
def PsOk (d : PyData) : Prop := ∀ ps, rowOf d = some ps → ps.length ≤ 1000 ∧ ∀ p ∈ ps, POk p
theorem nks_strs {K : PySem.W.Frag} {H : Hp} : ∀ ws : List Str, NKs K H (ws.map V.str) (ws.map NestedKey.text)
  | [] => .nil
  | w :: ws => .cons (.str w) (nks_strs ws)
theorem depth_texts : ∀ ws : List Str, NestedKey.depthAll (ws.map NestedKey.text) = 0
  | [] => rfl
  | w :: ws => by rw [List.map_cons, NestedKey.depthAll, depth_texts ws] <;> rfl
theorem key_depth (x : Str) (ws : List Str) : (NestedKey.tup [.text x, .tup (ws.map NestedKey.text)]).depth ≤ 8 := by
  simp only [NestedKey.depth, NestedKey.depthAll, depth_texts]
  decide
theorem leaf_texts : ∀ ws : List Str, (ws.map PyData.str).map leafK = ws.map NestedKey.text := fun ws => by
  rw [List.map_map] <;> rfl
theorem dps_inv {K : PySem.W.Frag} {H : Hp} : ∀ {vs : List V} {ws : List Str}, DpAll K H vs (ws.map PyData.str) → vs = ws.map V.str
  | _, [], h => by
    cases h
    rfl
  | _, w :: ws, h => by
    cases h with
    | cons a b =>
      cases a
      rw [dps_inv b] <;> rfl
theorem rTup_any {K : PySem.W.Frag} {pa : Addr} {zs : List V} {H : Hp} {Q : VK} (h : SqL K H pa zs ∨ SqT K H pa zs) (k : ∀ a2 H', Same H H' → SqT K H' a2 zs → Q (.ref a2) H') : rTupZ K [.ref pa] H Q := by
  rcases h with h | h
  · exact ⟨pa, zs, rfl, .inl ⟨h, fun l o hl ho => k l _ (new_same hl _) (.inl (.inr ⟨o, upd_same⟩))⟩⟩
  · exact ⟨pa, zs, rfl, .inr ⟨h, k pa H (Same.refl H) h⟩⟩
def spCheck (K : PySem.W.Frag) (C CV : Addr) : Sp := fun vs H Q E => ∃ (x pf pr : Addr) (t : List (Str × List Str)) (v : V) (d : PyData), vs = [.ref x, v] ∧ FormAt C H x pf pr ∧ TabAt K H pf t ∧ NStr t ∧ Dp K H v d ∧ PsOk d ∧ (isPhrases t d = false → bad3 CV 1 H E) ∧ (isPhrases t d = true → ∀ H', Same H H' → Q .non H')
abbrev nCheck : List Str := ["form", "phrases", "found", "phrase", "text", "act", "kept"]
section
variable {P : Program} {w : World} {K : PySem.W.Frag} {mg : Str → Option Value} {base : Heap}
theorem scCheck : FnScope nCheck ["form", "phrases"] (defScope sCheckPhrases) := ⟨rfl, rfl, rfl, by decide +kernel, rfl, by decide +kernel, by decide +kernel⟩
theorem ok_check {f C CV : Addr} {fd : FuncData} (F : Fun K "check_phrases" "check_phrases" sCheckPhrases f fd) (T : Bb mg) (Cc : Pc mg) (Z : Fk P w K mg base C) (R : Bh K mg CV) (KR : Kn P w K mg base 1 "is_row" ["thing"] (spIsRow K)) (KP : Kn P w K mg base 5 "_is_phrase" ["fields", "phrase"] (spIsPhrase K)) :
    FnOk P w K mg base (L2N.CX P w) 6 f fd ["form", "phrases"] (spCheck K C CV) := by
  obtain ⟨fR, fdR, GR, kR, bR, mR⟩ := KR.ex
  obtain ⟨fP, fdP, GP, kP, bP, mP⟩ := KP.ex
  obtain ⟨fG, fdG, GG, bG, mG⟩ := Z.gf
  obtain ⟨fIv, qv, XV⟩ := R.v
  obtain ⟨tP, hP⟩ := Cc.mp
  have vt_ : PySem.bootBuiltins "tuple" = some (.type "tuple") := by decide +kernel
  refine Fun_okH3 F scCheck (fun vs H Q E h => ?_) (fun cdv A outer s H vs Q E hr h => ?_)
  · obtain ⟨x, pf, pr, t, v, d, rfl, _⟩ := h
    rfl
  have hu : (A.deeper (PyProof.Rows.envOfC "check_phrases" (defScope sCheckPhrases) s.heap.objs.size f cdv)).units + 64 < cLine := by
    have := hr.un
    omega
  have hr1 := hr.mono (show 1 ≤ 5 by decide)
  refine ⟨_, pss_cons (ps_if (PW.pt (pw_or (pt_not (pt_val (pe_call GR hr1 rfl mR kR bR .nil pass0 (pa_cons (pv 1) pa_nil)))) (pw_or1 (pt_not (pt_chain op_le op_le pe_int (pe_callB call_len_seq rfl T.len PySem.boot_len (pa_cons (pv 1) pa_nil)) (pe_glob (v := .int 60) (by rfl) hP ⟨_, rfl⟩))))))
      (pss_one (L2N.ps_raise rfl (L2N.takes_of rfl rfl rfl rfl) (XM.pmk XV R.gv hr (pa_cons pe_int pa_nil)))) pss_nil)
    (pss_cons (ps_set (i := 2) scCheck.nd rfl (.inl rfl) (pe_dnewN P w K rfl rfl rfl))
    (pss_one (ps_for (L2.passes_of rfl) rfl (pi_row (pv 1)) (pg_name (i := 3) scCheck.nd rfl (.inl rfl))
      (pss_cons (ps_if (pt_not (pt_val (pe_call GP hr rfl mP kP bP .nil pass0 (pa_cons (pe_meth0 (pv 0) Z.fc.cl mG GG hr1 bG .nil pass0) (pa_cons (pv 3) pa_nil))))) (pss_one (L2N.ps_raise rfl (L2N.takes_of rfl rfl rfl rfl) (XM.pmk XV R.gv hr (pa_cons pe_int pa_nil)))) pss_nil)
      (pss_cons (ps_asg (pv 3) (pg_row rfl (pgs_cons (pg_name (i := 4) scCheck.nd rfl (.inl rfl)) (pgs_cons (pg_name (i := 5) scCheck.nd rfl (.inl rfl)) pgs_nil))))
      (pss_cons (ps_set (i := 6) scCheck.nd rfl (.inl rfl) (pe_tup (pa_cons (pv 4) (pa_cons (pe_callTy (call_tupK K rfl) rfl T.tup vt_ (pa_cons (pv 5) pa_nil)) pa_nil))))
      (pss_cons (ps_if (pt_cmpR (op_inN hu P w K rfl rfl rfl) (pv 6) (pv 2) (by with_unfolding_all rfl)) (pss_one (L2N.ps_raise rfl (L2N.takes_of rfl rfl rfl rfl) (XM.pmk XV R.gv hr (pa_cons pe_int pa_nil)))) pss_nil)
      (pss_one (ps_asg pe_bl (pg_sub (pv 2) (pv 6) (set_N hu P w K rfl rfl rfl))))))))))), ?_⟩
  obtain ⟨x, pf, pr, t, v, d, rfl, ⟨dx, hx⟩, hT, hn, hd, ho, kno, kyes⟩ := h
  refine ⟨_, rfl, v, d, rfl, hd, fun H1 s1 => ⟨_, rfl, ?_⟩⟩
  cases e : rowOf d with
  | none =>
    rw [isRow_no e]
    have bad : isPhrases t d = false := by
      unfold isPhrases
      rw [e]
    exact iteT (iteT ⟨_, rfl, fun dd hdd => kno bad dd H1 s1 hdd⟩)
  | some ps =>
    rw [isRow_of e]
    obtain ⟨h1000, hps⟩ := ho ps e
    obtain ⟨q, ys, rfl, hq, ha⟩ := row_len (dp_same s1 hd) e
    have hl := dps_len ha
    have eq0 : isPhrases t d = (decide (1 ≤ ps.length) && (decide (ps.length ≤ 60) && (ps.all (isPhrase t) && decide (ps.map keyOfP).Nodup))) := by
      unfold isPhrases
      rw [e]
    refine iteF ⟨_, rfl, q, ys, rfl, hq, _, _, rfl, rfl, _, rfl, ?_⟩
    by_cases c1 : ¬ 1 ≤ ps.length
    · rw [decide_eq_false c1, Bool.false_and] at eq0
      exact iteDF (by omega) ⟨_, rfl, iteT ⟨_, rfl, fun dd hdd => kno eq0 dd H1 s1 hdd⟩⟩
    have c1 := Decidable.not_not.mp c1
    rw [decide_eq_true c1, Bool.true_and] at eq0
    refine iteDT (by omega) ⟨_, _, rfl, rfl, _, rfl, ?_⟩
    by_cases c6 : ¬ ps.length ≤ 60
    · rw [decide_eq_false c6, Bool.false_and] at eq0
      rw [decide_eq_false (by omega : ¬ (ys.length : Int) ≤ 60)]
      exact iteT ⟨_, rfl, fun dd hdd => kno eq0 dd H1 s1 hdd⟩
    have c6 := Decidable.not_not.mp c6
    rw [decide_eq_true c6, Bool.true_and] at eq0
    rw [decide_eq_true (by omega : (ys.length : Int) ≤ 60)]
    refine iteF (nx3 ?_)
    intro D o hD hN
    have s2 := new_same hD o
    generalize L2.upd H1 D o = H2 at hN s2
    show tFor (iRow K (tVar 1)) (gName 3) _ _ _ _
    refine for_row (ys := ys) (H0 := H1) (fun i σ H' => ∃ (f3 f4 f5 f6 : Option V) (kvs : List (NestedKey × V)), σ = [some (.ref x), some (.ref q), some (.ref D), f3, f4, f5, f6] ∧ DictN P w K H' D kvs ∧ kvs.map (·.1) = (ps.take i).map keyOfP ∧ (ps.take i).all (isPhrase t) = true ∧ ((ps.take i).map keyOfP).Nodup ∧ Same H1 H')
      (fun Q' z => ⟨_, rfl, z⟩) hq ⟨_, _, _, _, [], rfl, hN, rfl, rfl, List.nodup_nil, s2⟩ ?_ ?_ ?_
    · rintro i σ H' ⟨_, _, _, _, _, _, _, _, _, _, z⟩
      exact z
    · rintro i y σ H3 hi ⟨f3, f4, f5, f6, kvs, rfl, g1, g2, g3, g4, g5⟩ hy
      obtain ⟨g, hg, hgp⟩ := dps_get ha hy
      have hgm := List.mem_of_getElem? hg
      try dsimp only [gName]
      refine ⟨_, rfl, x, dx, _, rfl, (s1.trans g5) _ _ hx, noF, x, pf, pr, rfl, ⟨dx, (s1.trans g5) _ _ hx⟩, _, rfl, pf, t, y, g, rfl, tabS (s1.trans g5) hT, hn, dp_same g5 hgp, hps g hgm, fun H4 s4 => ⟨_, rfl, ?_⟩⟩
      have s14 := g5.trans s4
      cases ep : isPhrase t g with
      | false =>
        have bad : isPhrases t d = false := by
          rw [eq0]
          have : ps.all (isPhrase t) = false := List.all_eq_false.mpr ⟨g, hgm, by rw [ep]; exact Bool.false_ne_true⟩
          rw [this, Bool.false_and]
        exact iteT ⟨_, rfl, fun dd hdd => kno bad dd H4 (s1.trans s14) hdd⟩
      | true =>
      refine iteF (nx3 ?_)
      -- what it is
      obtain ⟨z, a, ws, pg, ra, lw⟩ : ∃ (z : Str) (a : PyData) (ws : List Str), pairOf g = some (.str z, a) ∧ rowOf a = some (ws.map PyData.str) ∧ ws.length ≤ 3 := by
        unfold isPhrase at ep
        cases pg : pairOf g with
        | none =>
          rw [pg] at ep
          cases ep
        | some xa =>
          obtain ⟨xx, a⟩ := xa
          rw [pg] at ep
          have ep : (isText xx && (decide ((wordsOf (wordOf xx)).length ≤ 6) && isAct t a)) = true := ep
          rw [Bool.and_eq_true, Bool.and_eq_true] at ep
          obtain ⟨z, rfl⟩ : ∃ z, xx = .str z := by
            cases xx <;> first | exact ⟨_, rfl⟩ | cases ep.1
          obtain ⟨ws, h1, h2⟩ := act_strs ep.2.2
          exact ⟨z, a, ws, rfl, h1, h2⟩
      have ek : keyOfP g = .tup [.text z, .tup (ws.map NestedKey.text)] := by
        unfold keyOfP
        rw [pg]
        show NestedKey.tup [.text (wordOf (.str z)), .tup (((rowOf a).getD []).map leafK)] = _
        rw [ra, Option.getD_some, leaf_texts] <;> rfl
      obtain ⟨q1, vx, va, rfl, hq1, hxz, hva⟩ := pair_at (dp_same s14 hgp) pg
      cases hxz
      obtain ⟨pa, zs, rfl, hzq, hzs⟩ := row_len hva ra
      have ez := dps_inv hzs
      subst ez
      have asg : ∀ Q' : L2.St → Hp → Prop, Q' [some (.ref x), some (.ref q), some (.ref D), some (.ref q1), some (.str z), some (.ref pa), f6] H4 →
          gRow K 2 (gCons (gName 4) (gCons (gName 5) gNil)) (.ref q1) [some (.ref x), some (.ref q), some (.ref D), some (.ref q1), f4, f5, f6] H4 Q' := fun Q' u => by
        rcases hq1 with hq1 | hq1
        · exact .inr ⟨q1, [.str z, .ref pa], rfl, hq1, rfl, .str z, [.ref pa], rfl, .ref pa, [], rfl, rfl, u⟩
        · exact .inl ⟨q1, [.str z, .ref pa], rfl, hq1, rfl, .str z, [.ref pa], rfl, .ref pa, [], rfl, rfl, u⟩
      refine ⟨_, rfl, asg _ ?_⟩
      refine ⟨_, rfl, _, rfl, ?_⟩
      dsimp only [tNil]
      refine rTup_any hzq fun a2 H5 s5 ha2 => ?_
      refine ⟨by show 2 ≤ sizeLine; decide, fun kp hkp => ?_⟩
      have s6 := new_same hkp (.tup [V.str z, V.ref a2])
      have hk6 := upd_same (H := H5) (a := kp) (o := .tup [V.str z, V.ref a2])
      have s36 := (s4.trans s5).trans s6
      have nk : NK K (L2.upd H5 kp (.tup [V.str z, V.ref a2])) (.ref kp) (keyOfP g) := by
        rw [ek]
        exact .tup (.inl (.inl hk6)) (.cons (.str z) (.cons (.tup (seqT_same s6 ha2) (nks_strs ws)) .nil))
      generalize L2.upd H5 kp (.tup [V.str z, V.ref a2]) = H6 at s6 hk6 s36 nk
      have dk : (keyOfP g).depth ≤ 8 := by
        rw [ek]
        exact key_depth z ws
      have g1' : DictN P w K H6 D kvs := g1.same (fun p xs h => seqT_same s36 h) fun o h => s36 _ _ h
      have s16 := g5.trans s36
      have ti : ps.take (i + 1) = ps.take i ++ [g] := take_one hg
      try dsimp only [gName]
      refine ⟨_, rfl, _, rfl, kp, D, keyOfP g, kvs, rfl, rfl, nk, dk, g1', _, rfl, ?_⟩
      rw [if_neg Bool.false_ne_true]
      by_cases hin : keyOfP g ∈ kvs.map (·.1)
      · rw [decide_eq_true hin]
        have bad : isPhrases t d = false := by
          rw [eq0]
          have : ¬ (ps.map keyOfP).Nodup := fun nd => by
            have h1 : ((ps.take (i + 1)).map keyOfP).Nodup := by
              rw [List.map_take]
              exact List.Nodup.sublist (List.take_sublist _ _) nd
            rw [ti, List.map_append, List.nodup_append] at h1
            rw [g2] at hin
            exact h1.2.2 _ hin _ (List.mem_singleton.mpr rfl) rfl
          rw [decide_eq_false this, Bool.and_false]
        exact iteT ⟨_, rfl, fun dd hdd => kno bad dd H6 (s1.trans s16) hdd⟩
      · rw [decide_eq_false hin]
        refine iteF (nx3 ?_)
        have few : kvs.length < sizeLine := by
          have := congrArg List.length g2
          rw [List.length_map, List.length_map, List.length_take] at this
          exact small1000 (by omega)
        refine ⟨_, rfl, _, rfl, D, kp, keyOfP g, kvs, rfl, rfl, nk, dk, g1', hin, few, fun u hN' => ?_⟩
        refine ⟨_, _, _, _, kvs ++ [(keyOfP g, .bl true)], rfl, hN', ?_, ?_, ?_, fun b ob hb => ?_⟩
        · rw [ti, List.map_append, List.map_append, g2] <;> rfl
        · rw [ti, List.all_append, g3, List.all_cons, ep] <;> rfl
        · rw [ti, List.map_append, List.nodup_append]
          refine ⟨g4, List.nodup_cons.mpr ⟨List.not_mem_nil, List.nodup_nil⟩, fun k1 h1 k2 h2 => ?_⟩
          rw [List.map_singleton, List.mem_singleton] at h2
          rw [h2]
          intro z
          rw [g2] at hin
          exact hin (z ▸ h1)
        · have n : b ≠ D := fun z => by
            rw [z, hD] at hb
            cases hb
          rw [upd_ne n]
          exact s16 _ _ hb
    · rintro σ H3 ⟨f3, f4, f5, f6, kvs, rfl, g1, g2, g3, g4, g5⟩
      rw [List.take_of_length_le (by omega)] at g3 g4
      refine kyes ?_ H3 (s1.trans g5)
      rw [eq0, g3, decide_eq_true g4] <;> rfl
end
end Q
set_option Elab.async false
set_option linter.all false
set_option maxRecDepth 100000
set_option maxHeartbeats 4000000
/-! ### k07 to k09: the flow, a dict of seven keys -/
namespace Q
open PySem L2 XD
def k7 : List Key := [.inr "cells", .inr "at", .inr "value", .inr "left", .inr "mixed", .inr "count", .inr "seed"]
theorem k7_nd : k7.Nodup := by decide +kernel
abbrev v7 (c : Addr) (p v l m n s : Int) : List V := [.ref c, .int p, .int v, .int l, .int m, .int n, .int s]
structure F7 (H : Hp) (a c : Addr) (ns : List Int) (p v l m n s : Int) : Prop where
  at_ : H a = some (.dK (kz k7 (v7 c p v l m n s)))
  ls : H c = some (.lst (ns.map V.int))
  pos : 0 ≤ p
def Fl7 (c : Addr) (H : Hp) (a : Addr) : Prop := ∃ ns p v l m n s, F7 H a c ns p v l m n s
theorem F7.ne {H : Hp} {a c : Addr} {ns : List Int} {p v l m n s : Int} (F : F7 H a c ns p v l m n s) : c ≠ a := fun e => by
  have h := F.ls
  rw [e, F.at_] at h
  cases h
theorem F7.put {H : Hp} {a c : Addr} {ns : List Int} {p v l m n s : Int} (F : F7 H a c ns p v l m n s) (p' v' l' m' n' s' : Int) (h : 0 ≤ p') : F7 (upd H a (.dK (kz k7 (v7 c p' v' l' m' n' s')))) a c ns p' v' l' m' n' s' := ⟨upd_same, by rw [upd_ne F.ne]; exact F.ls, h⟩
theorem flo7 {a c : Addr} : Flo [a, c] (fun H => Fl7 c H a) := by
  refine ⟨fun {H} h x hx => ?_, fun {H H'} hx h => ?_⟩
  · obtain ⟨ns, p, v, l, m, n, s, F⟩ := h
    rcases List.mem_cons.mp hx with e | e
    · rw [e, F.at_]
      exact fun z => by cases z
    · rw [List.mem_singleton.mp e, F.ls]
      exact fun z => by cases z
  · obtain ⟨ns, p, v, l, m, n, s, F⟩ := h
    exact ⟨ns, p, v, l, m, n, s, (hx a List.mem_cons_self).trans F.at_, (hx c (List.mem_cons_of_mem _ (List.mem_singleton.mpr rfl))).trans F.ls, F.pos⟩
theorem F7.get {H : Hp} {a c : Addr} {ns : List Int} {p v l m n s : Int} (F : F7 H a c ns p v l m n s) (i : Nat) {k : Key} {x : V} (hk : k7[i]? = some k) (hv : (v7 c p v l m n s)[i]? = some x) : DGet H a (kV k) (some x) := kz_get F.at_ k7_nd hk hv
theorem F7.d1 {H : Hp} {a c : Addr} {ns : List Int} {p v l m n s y : Int} (F : F7 H a c ns p v l m n s) : DPut H a (.str "at") (.int y) (upd H a (.dK (kz k7 (v7 c y v l m n s)))) := kz_dput (i := 1) (y := .int y) F.at_ k7_nd rfl (Nat.le_of_ble_eq_true rfl) (by decide)
theorem F7.d2 {H : Hp} {a c : Addr} {ns : List Int} {p v l m n s y : Int} (F : F7 H a c ns p v l m n s) : DPut H a (.str "value") (.int y) (upd H a (.dK (kz k7 (v7 c p y l m n s)))) := kz_dput (i := 2) (y := .int y) F.at_ k7_nd rfl (Nat.le_of_ble_eq_true rfl) (by decide)
theorem F7.d3 {H : Hp} {a c : Addr} {ns : List Int} {p v l m n s y : Int} (F : F7 H a c ns p v l m n s) : DPut H a (.str "left") (.int y) (upd H a (.dK (kz k7 (v7 c p v y m n s)))) := kz_dput (i := 3) (y := .int y) F.at_ k7_nd rfl (Nat.le_of_ble_eq_true rfl) (by decide)
theorem F7.d4 {H : Hp} {a c : Addr} {ns : List Int} {p v l m n s y : Int} (F : F7 H a c ns p v l m n s) : DPut H a (.str "mixed") (.int y) (upd H a (.dK (kz k7 (v7 c p v l y n s)))) := kz_dput (i := 4) (y := .int y) F.at_ k7_nd rfl (Nat.le_of_ble_eq_true rfl) (by decide)
theorem F7.d5 {H : Hp} {a c : Addr} {ns : List Int} {p v l m n s y : Int} (F : F7 H a c ns p v l m n s) : DPut H a (.str "count") (.int y) (upd H a (.dK (kz k7 (v7 c p v l m y s)))) := kz_dput (i := 5) (y := .int y) F.at_ k7_nd rfl (Nat.le_of_ble_eq_true rfl) (by decide)
theorem F7.d6 {H : Hp} {a c : Addr} {ns : List Int} {p v l m n s y : Int} (F : F7 H a c ns p v l m n s) : DPut H a (.str "seed") (.int y) (upd H a (.dK (kz k7 (v7 c p v l m n y)))) := kz_dput (i := 6) (y := .int y) F.at_ k7_nd rfl (Nat.le_of_ble_eq_true rfl) (by decide)
abbrev Bs7 (a c : Addr) (H : Hp) : Hp := rmL [a, c] H
theorem b7_a {a c : Addr} {H : Hp} {o : HO} : Bs7 a c (upd H a o) = Bs7 a c H := rm_put List.mem_cons_self
structure Be7 (mg : Str → Option Value) : Prop where
  int : mg "int" = none
  list : mg "list" = none
  len : mg "len" = none
  abs : mg "abs" = none
  range : mg "range" = none
  tup : mg "tuple" = none
  isi : mg "isinstance" = none
  str : mg "str" = none
  bool : mg "bool" = none
def spStart7 (K : PySem.W.Frag) : Sp := fun vs H Q _ => ∃ (sc : Addr) (ns : List Int), vs = [.ref sc] ∧ SqL K H sc (ns.map V.int) ∧ ∀ a c H', Same H H' → Fl7 c H' a → Q (.ref a) H'
def spDraw7 : Sp := fun vs H Q _ => ∃ (a c : Addr) (n : Nat), vs = [.ref a, .int n] ∧ Fl7 c H a ∧ 1 ≤ n ∧ n ≤ 1000000 ∧ ∀ (r : Nat) (H' : Hp), r < n → Fl7 c H' a → Same (Bs7 a c H) (Bs7 a c H') → Q (.int r) H'
abbrev nSt7 : List Str := ["script", "seed", "cell"]
abbrev nDr7 : List Str := ["state", "many", "cell", "number", "digit"]
theorem few7 {n : Nat} (h : n ≤ 1000000) : ((n : Int)).natAbs < 2 ^ 200 := by
  have : (1000001 : Nat) < 2 ^ 200 := by decide
  omega
section
variable {P : Program} {w : World} {K : PySem.W.Frag} {mg : Str → Option Value} {base : Heap}
theorem scSt7 : FnScope nSt7 ["script"] (defScope sLStart) := ⟨rfl, rfl, rfl, by decide +kernel, rfl, by decide +kernel, by decide +kernel⟩
theorem scDr7 : FnScope nDr7 ["state", "many"] (defScope sLDraw) := ⟨rfl, rfl, rfl, by decide +kernel, rfl, by decide +kernel, by decide +kernel⟩
theorem ok_start7 {f : Addr} {fd : FuncData} (F : Fun K "_law_start" "_law_start" sLStart f fd) (T : Be7 mg) : FnOk P w K mg base CX0 1 f fd ["script"] (spStart7 K) := by
  refine F.ok scSt7 (fun vs H Q E h => ?_) (fun cdv A outer s H vs Q E hr h => ?_)
  · obtain ⟨sc, ns, rfl, _⟩ := h
    rfl
  have vl_ : PySem.bootBuiltins "list" = some (.type "list") := by decide +kernel
  refine ⟨_, pss_cons (ps_set (i := 1) scSt7.nd rfl (.inl rfl) pe_int)
    (pss_cons (ps_for PassesOwn.never rfl (pi_row (pv 0)) (pg_name (i := 2) scSt7.nd rfl (.inl rfl))
      (pss_one (ps_set (i := 1) scSt7.nd rfl (.inl rfl) (pe_op op_mod (pe_callTy call_int1 rfl T.int (by decide +kernel) (pa_cons (pe_op op_add (pe_op op_mul (pv 1) pe_int) (pv 2)) pa_nil)) pe_int))))
    (pss_one (ps_ret (pe_disp (pps_cons pe_str (pe_callTy call_list_of (by rfl) T.list vl_ (pa_cons (pv 0) pa_nil)) (pps_cons pe_str pe_int (pps_cons pe_str (pv 1) (pps_cons pe_str pe_int (pps_cons pe_str pe_int (pps_cons pe_str pe_int (pps_cons pe_str (pv 1) pps_nil))))))) rfl rfl (by simp) (by decide))))), ?_⟩
  obtain ⟨sc, ns, rfl, hs, k⟩ := h
  try simp only [L2.start, gName, List.map_cons, List.map_nil, List.length_cons, List.length_nil, Nat.reduceAdd, Nat.reduceSub, List.replicate_succ, List.replicate_zero, List.cons_append, List.nil_append, List.set_cons_succ, List.set_cons_zero]
  refine for_row (ys := ns.map V.int) (H0 := H) (fun i σ H' => ∃ (x : Int) (g2 : Option V), σ = [some (.ref sc), some (.int x), g2] ∧ Same H H') (fun Q' z => ⟨_, rfl, z⟩) (.inl hs) ⟨_, _, rfl, Same.refl _⟩ (fun i σ H' ⟨_, _, _, z⟩ => z) ?_ ?_
  · rintro i y σ H' hi ⟨x, g2, rfl, s1⟩ hy
    rw [List.getElem?_map] at hy
    obtain ⟨z, hz, rfl⟩ := Option.map_eq_some_iff.mp hy
    try simp only [gName, List.set_cons_succ, List.set_cons_zero]
    refine ⟨_, rfl, _, _, rfl, rfl, .inr ⟨by decide, by decide⟩, _, rfl, _, _, rfl, rfl, .inl ⟨_, rfl, _, _, rfl, rfl, (by show (0 : Int) < 1000003; decide), ?_⟩⟩
    exact ⟨_, _, rfl, s1⟩
  · rintro σ H' ⟨x, g2, rfl, s1⟩
    refine fun a ha => ?_
    have s2 := s1.trans (new_same ha (.dK []))
    refine ⟨_, rfl, sc, _, rfl, .inl (s2.seq hs), fun c hc => ⟨_, rfl, _, rfl, ?_⟩⟩
    have nc : c ≠ a := fun e => by
      rw [e, upd_same] at hc
      cases hc
    refine ⟨by rw [upd_ne nc.symm, upd_same], kz k7 (v7 c 0 x 0 1 0 x), rfl, (by show 7 ≤ 15; decide), ?_⟩
    rw [kz_merge k7_nd rfl]
    refine k a c _ (fun y o e => ?_) ⟨ns, 0, x, 0, 1, 0, x, upd_same, by rw [upd_ne nc, upd_same], Int.le_refl 0⟩
    have hc' : H' c = none := by
      rwa [upd_ne nc] at hc
    rw [upd_ne (ne_of_none (s1 _ _ e) ha), upd_ne (ne_of_none (s1 _ _ e) hc'), upd_ne (ne_of_none (s1 _ _ e) ha)]
    exact s1 _ _ e
theorem ok_draw7 {f : Addr} {fd : FuncData} (F : Fun K "_law_draw" "_law_draw" sLDraw f fd) (T : Be7 mg) : FnOk P w K mg base CX0 1 f fd ["state", "many"] spDraw7 := by
  refine F.ok scDr7 (fun vs H Q E h => ?_) (fun cdv A outer s H vs Q E hr h => ?_)
  · obtain ⟨a, c, n, rfl, _⟩ := h
    rfl
  have hu1 : (A.deeper (PyProof.Rows.envOfC "_law_draw" (defScope sLDraw) s.heap.objs.size f cdv)).units + 1 < cLine := by
    have := hr.un
    omega
  refine ⟨_, pss_cons (ps_dput hu1 (pv 0) pe_str (pe_op op_add (pe_dget hu1 (pv 0) pe_str (fun _ _ => rfl)) pe_int) rfl)
    (pss_cons (ps_if (pt_cmpR op_eq (pe_dget hu1 (pv 0) pe_str (fun _ _ => rfl)) pe_int (nomark _)) (pss_cons (ps_dput hu1 (pv 0) pe_str pe_int rfl)
    (pss_cons (ps_dput hu1 (pv 0) pe_str pe_int rfl)
    (pss_cons (ps_dput hu1 (pv 0) pe_str (pe_dget hu1 (pv 0) pe_str (fun _ _ => rfl)) rfl)
    (pss_one (ps_if (pt_cmpR op_lt (pe_dget hu1 (pv 0) pe_str (fun _ _ => rfl)) (pe_callB call_len_seq (by rfl) T.len PySem.boot_len (pa_cons (pe_dget hu1 (pv 0) pe_str (fun _ _ => rfl)) pa_nil)) (nomark _)) (pss_cons (ps_set (i := 2) scDr7.nd rfl (.inl rfl) (pe_ix (ix_both K rfl) (pe_dget hu1 (pv 0) pe_str (fun _ _ => rfl)) (pe_dget hu1 (pv 0) pe_str (fun _ _ => rfl)) (fun _ _ => rfl)))
    (pss_cons (ps_dput hu1 (pv 0) pe_str (pe_op op_add (pe_dget hu1 (pv 0) pe_str (fun _ _ => rfl)) pe_int) rfl)
    (pss_cons (ps_dput hu1 (pv 0) pe_str (pe_op op_fdiv (pe_callB call_abs rfl T.abs (by decide +kernel) (pa_cons (pv 2) pa_nil)) pe_int) rfl)
    (pss_cons (ps_dput hu1 (pv 0) pe_str (pe_op op_mod (pe_callTy call_int1 rfl T.int (by decide +kernel) (pa_cons (pv 2) pa_nil)) pe_int) rfl)
    (pss_one (ps_dput hu1 (pv 0) pe_str (pe_op op_sub pe_int (pe_op op_mul pe_int (pe_dget hu1 (pv 0) pe_str (fun _ _ => rfl)))) rfl)))))) pss_nil))))) pss_nil)
    (pss_cons (ps_dput hu1 (pv 0) pe_str (pe_op op_sub (pe_dget hu1 (pv 0) pe_str (fun _ _ => rfl)) pe_int) rfl)
    (pss_cons (ps_if (pt_cmpR op_eq (pe_dget hu1 (pv 0) pe_str (fun _ _ => rfl)) pe_int (nomark _)) (pss_cons (ps_set (i := 3) scDr7.nd rfl (.inl rfl) (pe_op op_mod (pe_callTy call_int1 rfl T.int (by decide +kernel) (pa_cons (pe_op op_add (pe_dget hu1 (pv 0) pe_str (fun _ _ => rfl)) (pe_op op_mul pe_int (pe_dget hu1 (pv 0) pe_str (fun _ _ => rfl)))) pa_nil)) pe_int))
    (pss_cons (ps_set (i := 3) scDr7.nd rfl (.inl rfl) (pe_op op_mod (pe_callTy call_int1 rfl T.int (by decide +kernel) (pa_cons (pe_op op_add (pe_op op_mul (pv 3) (pv 3)) (pe_op op_mul pe_int (pe_dget hu1 (pv 0) pe_str (fun _ _ => rfl)))) pa_nil)) pe_int))
    (pss_one (ps_ret (pe_op op_mod (pe_callTy call_int1 rfl T.int (by decide +kernel) (pa_cons (pe_op op_fdiv (pe_op op_mod (pe_callTy call_int1 rfl T.int (by decide +kernel) (pa_cons (pe_op op_mul (pv 3) pe_int) pa_nil)) pe_int) pe_int) pa_nil)) (pv 1)))))) pss_nil)
    (pss_cons (ps_set (i := 4) scDr7.nd rfl (.inl rfl) (pe_op op_mod (pe_callTy call_int1 rfl T.int (by decide +kernel) (pa_cons (pe_dget hu1 (pv 0) pe_str (fun _ _ => rfl)) pa_nil)) (pv 1)))
    (pss_cons (ps_dput hu1 (pv 0) pe_str (pe_op op_fdivW (pe_dget hu1 (pv 0) pe_str (fun _ _ => rfl)) (pv 1)) rfl)
    (pss_cons (ps_if (pt_cmpR op_eq (pe_dget hu1 (pv 0) pe_str (fun _ _ => rfl)) pe_int (nomark _)) (pss_one (ps_dput hu1 (pv 0) pe_str pe_int rfl)) pss_nil)
    (pss_one (ps_ret (pv 4))))))))), ?_⟩
  obtain ⟨a, c, n, rfl, Fl, hn1, hn, k⟩ := h
  have hpos : (0 : Int) < (n : Int) := by omega
  have fin : ∀ (z : Int) (H' : Hp), Fl7 c H' a → Same (Bs7 a c H) (Bs7 a c H') → Q (.int (z % (n : Int))) H' := fun z H' F s => by
    have h0 := Int.emod_nonneg z (Int.ne_of_gt hpos)
    have h1 := Int.emod_lt_of_pos z hpos
    have e : z % (n : Int) = (((z % (n : Int)).toNat : Nat) : Int) := by omega
    rw [e]
    exact k _ H' (by omega) F s
  obtain ⟨ns, p, v, l, m, q, sd, Z⟩ := Fl
  have p0 := Z.pos
  have Z1 := Z.put p v l m (q + 1) sd p0
  try simp only [L2.start, gName, List.map_cons, List.map_nil, List.length_cons, List.length_nil, Nat.reduceAdd, Nat.reduceSub, List.replicate_succ, List.replicate_zero, List.cons_append, List.nil_append, List.set_cons_succ, List.set_cons_zero]
  refine ⟨_, rfl, a, _, rfl, Z.get 5 rfl rfl, _, _, rfl, rfl, _, rfl, a, _, rfl, Z.d5, ?_⟩
  dsimp only
  have S1 : Same (Bs7 a c H) (Bs7 a c (L2.upd H a (.dK (kz k7 (v7 c p v l m (q + 1) sd))))) := by
    rw [b7_a]
    exact Same.refl _
  generalize L2.upd H a (.dK (kz k7 (v7 c p v l m (q + 1) sd))) = H1 at Z1 S1
  refine seq_cut (fun σ H2 => ∃ g2 g3 g4, σ = [some (.ref a), some (.int n), g2, g3, g4] ∧ Fl7 c H2 a ∧ Same (Bs7 a c H) (Bs7 a c H2)) ?_ (fun join => ?_)
  · clear Z Z1 S1 p0
    rintro σ H2 ⟨g2, g3, g4, rfl, ⟨ns, p, v, l, m, q, sd, Z⟩, S2⟩
    have p0 := Z.pos
    have Z1 := Z.put p v (l - 1) m q sd p0
    refine ⟨_, rfl, a, _, rfl, Z.get 3 rfl rfl, _, _, rfl, rfl, _, rfl, a, _, rfl, Z.d3, ?_⟩
    dsimp only
    replace S2 : Same (Bs7 a c H) (Bs7 a c (L2.upd H2 a (.dK (kz k7 (v7 c p v (l - 1) m q sd))))) := by
      rw [b7_a]
      exact S2
    generalize L2.upd H2 a (.dK (kz k7 (v7 c p v (l - 1) m q sd))) = H3 at Z1 S2
    refine ⟨_, rfl, a, _, rfl, Z1.get 4 rfl rfl, rfl, _, rfl, iteB (fun e => ?_) (fun e => nxt ?_)⟩
    · refine ⟨_, rfl, a, _, rfl, Z1.get 2 rfl rfl, _, rfl, a, _, rfl, Z1.get 5 rfl rfl, _, _, rfl, rfl, .inl ⟨by decide, by decide⟩, _, _, rfl, rfl, .inl ⟨_, rfl, _, _, rfl, rfl, (by show (0 : Int) < 1000003; decide), ?_⟩⟩
      generalize (v + 7919 * q) = y
      have y0 := Int.emod_nonneg y (show (1000003 : Int) ≠ 0 by decide)
      have y1 := Int.emod_lt_of_pos y (show (0 : Int) < 1000003 by decide)
      generalize y % 1000003 = z at y0 y1
      try simp only [gName, List.set_cons_succ, List.set_cons_zero]
      refine ⟨_, rfl, _, rfl, _, _, rfl, rfl, .inl ⟨?_, ?_⟩, _, rfl, a, _, rfl, Z1.get 5 rfl rfl, _, _, rfl, rfl, .inl ⟨by decide, by decide⟩, _, _, rfl, rfl, .inl ⟨_, rfl, _, _, rfl, rfl, (by show (0 : Int) < 998244353; decide), ?_⟩⟩
      · have : (-(2 ^ 64) : Int) ≤ 0 := by decide
        omega
      · have : (1000003 : Int) < 2 ^ 64 := by decide
        omega
      try simp only [gName, List.set_cons_succ, List.set_cons_zero]
      refine ⟨_, rfl, _, _, rfl, rfl, .inr ⟨by decide, by decide⟩, .inl ⟨_, rfl, _, _, rfl, rfl, (by show (0 : Int) < 2147483647; decide), _, _, rfl, rfl, ⟨by decide, by decide⟩, .inl ⟨_, rfl, _, rfl, _, _, rfl, rfl, hpos, ?_⟩⟩⟩
      exact fin _ _ ⟨_, _, _, _, _, _, _, Z1⟩ S2
    · refine ⟨_, rfl, a, _, rfl, Z1.get 2 rfl rfl, .inl ⟨_, rfl, _, rfl, _, _, rfl, rfl, hpos, ?_⟩⟩
      try simp only [gName, List.set_cons_succ, List.set_cons_zero]
      have Z2 := Z1.put p (v / (n : Int)) (l - 1) m q sd p0
      have Z3 := Z2.put p (v / (n : Int)) 0 m q sd p0
      have wd : CDivW v (n : Int) := wide_div hpos (few7 (by omega)) (by decide) (by decide)
      refine ⟨_, rfl, a, _, rfl, Z1.get 2 rfl rfl, _, rfl, _, _, rfl, rfl, wd, _, rfl, a, _, rfl, Z1.d2, ?_⟩
      dsimp only
      replace S2 : Same (Bs7 a c H) (Bs7 a c (L2.upd H3 a (.dK (kz k7 (v7 c p (v / (n : Int)) (l - 1) m q sd))))) := by
        rw [b7_a]
        exact S2
      generalize L2.upd H3 a (.dK (kz k7 (v7 c p (v / (n : Int)) (l - 1) m q sd))) = H4 at Z2 S2 Z3
      refine ⟨_, rfl, a, _, rfl, Z2.get 2 rfl rfl, rfl, _, rfl, iteB (fun e => ?_) (fun e => nxt ?_)⟩
      · refine ⟨_, rfl, a, _, rfl, Z2.d3, ?_⟩
        dsimp only
        refine ⟨_, rfl, fin _ _ ⟨_, _, _, _, _, _, _, Z3⟩ ?_⟩
        rw [b7_a]
        exact S2
      · exact ⟨_, rfl, fin _ _ ⟨_, _, _, _, _, _, _, Z2⟩ S2⟩
  · refine ⟨_, rfl, a, _, rfl, Z1.get 3 rfl rfl, rfl, _, rfl, iteB (fun e => ?_) (fun e => join _ _ ⟨_, _, _, rfl, ⟨_, _, _, _, _, _, _, Z1⟩, S1⟩)⟩
    have Z2 := Z1.put p v 60 m (q + 1) sd p0
    have Z3 := Z2.put p v 60 1 (q + 1) sd p0
    have Z4 := Z3.put p sd 60 1 (q + 1) sd p0
    refine ⟨_, rfl, a, _, rfl, Z1.d3, ?_⟩
    refine ⟨_, rfl, a, _, rfl, Z2.d4, ?_⟩
    refine ⟨_, rfl, a, _, rfl, Z3.get 6 rfl rfl, _, rfl, a, _, rfl, Z3.d2, ?_⟩
    dsimp only
    have S4 : Same (Bs7 a c H) (Bs7 a c (L2.upd (L2.upd (L2.upd H1 a (.dK (kz k7 (v7 c p v 60 m (q + 1) sd)))) a (.dK (kz k7 (v7 c p v 60 1 (q + 1) sd)))) a (.dK (kz k7 (v7 c p sd 60 1 (q + 1) sd))))) := by
      rw [b7_a, b7_a, b7_a]
      exact S1
    generalize L2.upd (L2.upd (L2.upd H1 a (.dK (kz k7 (v7 c p v 60 m (q + 1) sd)))) a (.dK (kz k7 (v7 c p v 60 1 (q + 1) sd)))) a (.dK (kz k7 (v7 c p sd 60 1 (q + 1) sd))) = H4 at Z4 S4
    refine ⟨_, rfl, a, _, rfl, Z4.get 1 rfl rfl, _, rfl, a, _, rfl, Z4.get 0 rfl rfl, c, _, rfl, .inl (SqL.of Z4.ls), _, _, rfl, rfl, _, rfl, iteB (fun e => ?_) (fun e => nxt (join _ _ ⟨_, _, _, rfl, ⟨_, _, _, _, _, _, _, Z4⟩, S4⟩))⟩
    have lt : p < (ns.length : Int) := by
      have := of_decide_eq_true e
      rw [List.length_map] at this
      exact this
    obtain ⟨j, rfl⟩ : ∃ j : Nat, p = (j : Int) := ⟨p.toNat, by omega⟩
    have ej : ns[j]? = some ns[j] := List.getElem?_eq_getElem (by omega)
    generalize ns[j] = z at ej
    refine ⟨_, rfl, a, _, rfl, Z4.get 0 rfl rfl, _, rfl, a, _, rfl, Z4.get 1 rfl rfl, ix_row (.inl (SqL.of Z4.ls)) (at_of rfl (by rw [List.getElem?_map, ej] <;> rfl)) ?_⟩
    try simp only [gName, List.set_cons_succ, List.set_cons_zero]
    generalize ey : (if z < 0 then -z else z) = y
    have Z5 := Z4.put ((j : Int) + 1) sd 60 1 (q + 1) sd (by omega)
    have Z6 := Z5.put ((j : Int) + 1) (y / 2) 60 1 (q + 1) sd (by omega)
    have Z7 := Z6.put ((j : Int) + 1) (y / 2) 60 (z % 2) (q + 1) sd (by omega)
    have Z8 := Z7.put ((j : Int) + 1) (y / 2) (60 - 48 * (z % 2)) (z % 2) (q + 1) sd (by omega)
    refine ⟨_, rfl, a, _, rfl, Z4.get 1 rfl rfl, _, _, rfl, rfl, _, rfl, a, _, rfl, Z4.d1, ?_⟩
    refine ⟨_, rfl, _, rfl, _, _, rfl, rfl, ⟨by decide, by decide⟩, _, rfl, a, _, rfl, Z5.d2, ?_⟩
    rw [ey]
    refine ⟨_, rfl, .inl ⟨_, rfl, _, _, rfl, rfl, (by show (0 : Int) < 2; decide), _, rfl, a, _, rfl, Z6.d4, ?_⟩⟩
    refine ⟨_, rfl, a, _, rfl, Z7.get 4 rfl rfl, _, _, rfl, rfl, .inl ⟨by decide, by decide⟩, _, _, rfl, rfl, _, rfl, a, _, rfl, Z7.d3, ?_⟩
    refine join _ _ ⟨_, _, _, rfl, ⟨_, _, _, _, _, _, _, Z8⟩, ?_⟩
    rw [b7_a, b7_a, b7_a, b7_a]
    exact S4
end
end Q
set_option Elab.async false
set_option linter.all false
set_option maxRecDepth 100000
set_option maxHeartbeats 4000000
/-! ### data layer over any flow -/
namespace Q
open PySem L2 XD
/-- draw(state, n), whatever the state is -/
def DrawOk (sp : Sp) (S0 : List Addr) (Fl : Hp → Prop) (a : Addr) : Prop := ∀ (n : Nat) (H : Hp) (Q : VK) (E : XK), 1 ≤ n → n ≤ 1000000 → Fl H → (∀ (r : Nat) H', r < n → Fl H' → Same (rmL S0 H) (rmL S0 H') → Q (.int r) H') → sp [.ref a, .int (n : Int)] H Q E
abbrev rLenF (K : PySem.W.Frag) : List V → Hp → VK → Prop := fun xs H Q => ∃ p ys, xs = [.ref p] ∧ (SqL K H p ys ∨ SqT K H p ys) ∧ Q (.int ys.length) H
section
variable {K : PySem.W.Frag} {sp : Sp} {a : Addr} {S0 : List Addr} {Fl : Hp → Prop} {R0 : Hp} {S : List Addr} {vs : List V} {ds : List PyData} {H : Hp} {σ : L2.St} {Q : VK} {i j : Nat}
theorem asg_C {v : V} {u : TS} {D : Ends} (h : u D (σ.set i (some v)) H) : tSeq (tAsg (tC v) (gName i)) u D σ H := h
theorem drawF {n : Nat} (DO : DrawOk sp S0 Fl a) (B : Blk K S0 Fl R0 S vs ds H) (hj : σ[j]? = some (some (.ref a))) (h1 : Nat.ble 1 n = true) (h2 : Nat.ble n 1000000 = true) (k : ∀ (r : Nat) H', r < n → Blk K S0 Fl R0 S vs ds H' → Same (rmL S0 H) (rmL S0 H') → Q (.int r) H') : tCall sp [] E0 (tCons (tVar j) (tCons (tC (.int (n : Int))) tNil)) σ H Q :=
  ⟨_, hj, DO n H _ _ (Nat.le_of_ble_eq_true h1) (Nat.le_of_ble_eq_true h2) B.fl fun r H' hr F s => k r H' hr (B.move F s) s⟩
/-- .., n in a slot -/
theorem drawV {n : Nat} (DO : DrawOk sp S0 Fl a) (B : Blk K S0 Fl R0 S vs ds H) (hj : σ[j]? = some (some (.ref a))) (hi : σ[i]? = some (some (.int (n : Int)))) (h1 : 1 ≤ n) (h2 : n ≤ 1000000) (k : ∀ (r : Nat) H', r < n → Blk K S0 Fl R0 S vs ds H' → Same (rmL S0 H) (rmL S0 H') → Q (.int r) H') : tCall sp [] E0 (tCons (tVar j) (tCons (tVar i) tNil)) σ H Q :=
  ⟨_, hj, _, hi, DO n H _ _ h1 h2 B.fl fun r H' hr F s => k r H' hr (B.move F s) s⟩
theorem drawL {v : V} {d : PyData} {es : List PyData} (DO : DrawOk sp S0 Fl a) (B : Blk K S0 Fl R0 S vs ds H) (hi : σ[i]? = some (some v)) (hj : σ[j]? = some (some (.ref a))) (hd : Dp K (rmL S H) v d) (hr : rowOf d = some es) (h1 : 1 ≤ es.length) (h2 : es.length ≤ 1000)
    (k : ∀ (r : Nat) H', r < es.length → Blk K S0 Fl R0 S vs ds H' → Same (rmL S0 H) (rmL S0 H') → Q (.int r) H') : tCall sp [] E0 (tCons (tVar j) (tCons (tCB (rLenF K) (tCons (tVar i) tNil)) tNil)) σ H Q := by
  obtain ⟨q, ys, rfl, hq, ha⟩ := row_len hd hr
  have l := dps_len ha
  exact ⟨_, hj, _, hi, q, ys, rfl, lift_row hq, DO ys.length H _ _ (by omega) (by omega) B.fl fun r H' hr F s => k r H' (by omega) (B.move F s) s⟩
/-- xs[draw(state, len(xs))], xs as data -/
theorem pickF {v : V} {d : PyData} {es : List PyData} (DO : DrawOk sp S0 Fl a) (B : Blk K S0 Fl R0 S vs ds H) (hi : σ[i]? = some (some v)) (hj : σ[j]? = some (some (.ref a))) (hd : Dp K (rmL S H) v d) (hr : rowOf d = some es) (h1 : 1 ≤ es.length) (h2 : es.length ≤ 1000)
    (k : ∀ (r : Nat) e y H', es[r]? = some e → Blk K S0 Fl R0 S (y :: vs) (e :: ds) H' → Same (rmL S0 H) (rmL S0 H') → Q y H') : tOp (rBoth K) (tVar i) (tCall sp [] E0 (tCons (tVar j) (tCons (tCB (rLenF K) (tCons (tVar i) tNil)) tNil))) σ H Q :=
  ⟨_, hi, drawL DO B hi hj hd hr h1 h2 fun r H' hr' B' s => ix_D (dp_same (rm_more B.sub s) hd) hr hr' fun e y e1 hy => k r e y H' e1 (B'.add hy) s⟩
/-- x.append(v), v there -/
theorem rApp_X {L : Addr} {es : List PyData} {v : V} {d : PyData} (B : Blk K S0 Fl R0 S vs ds H) (hL : Lx K S L es H) (hS : L ∈ S) (h0 : L ∉ S0) (hv : Dp K (rmL S H) v d) (hl : es.length ≤ 900)
    (k : ∀ o, Blk K S0 Fl R0 S vs ds (upd H L o) → Lx K S L (es ++ [d]) (upd H L o) → Q .non (upd H L o)) : rAppend (.ref L) [v] H Q := by
  obtain ⟨us, h1, h2⟩ := hL
  have l := dps_len h2
  refine ⟨L, us, v, rfl, rfl, h1, small1000 (by omega), k _ (B.put hS h0) ⟨us ++ [v], upd_same, ?_⟩⟩
  rw [rm_put hS]
  exact dps_app h2 (.cons hv .nil)
theorem Lx.lst {L : Addr} {es : List PyData} (h : Lx K S L es H) : ∃ us, SqL K H L us := by
  obtain ⟨us, e, _⟩ := h
  exact ⟨us, SqL.of e⟩
/-- a list that is done, as data -/
theorem Lx.dp {L : Addr} {es : List PyData} (h : Lx K S L es H) (sub : ∀ x ∈ S0, x ∈ S) (h0 : L ∉ S0) : Dp K (rmL S0 H) (.ref L) (.list es) := by
  obtain ⟨us, e, hu⟩ := h
  exact .lst (SqL.of ((rm_at h0).trans e)) (dps_same (rm_sub sub) hu)
/-- a list of texts that is done -/
theorem Lx.strs {L : Addr} {ws : List Str} (h : Lx K S L (ws.map PyData.str) H) : H L = some (.lst (ws.map V.str)) := by
  obtain ⟨us, e, hu⟩ := h
  rw [dps_str hu] at e
  exact e
/-- for x in a tuple that an expression gave -/
theorem forT_D {g : TG} {tb : TS} {D : Ends} {v : V} {es : List PyData} (h : Dp K (rmL S H) v (.tuple es)) (Pv : Nat → L2.St → Hp → Prop) (h0 : Pv 0 σ H) (kp : ∀ i σ' H', Pv i σ' H' → Same (rmL S H) (rmL S H'))
    (turn : ∀ i e y σ' H', es[i]? = some e → Dp K (rmL S H') y e → Pv i σ' H' → g y σ' H' fun σ2 H2 => tb { D with nx := Pv (i + 1), ct := Pv (i + 1), bk := D.nx } σ2 H2) (after : ∀ σ' H', Pv es.length σ' H' → D.nx σ' H') :
    ∃ a, v = .ref a ∧ (∃ xs, SqT K H a xs) ∧ ∃ W : Nat → Nat → L2.St → Hp → Prop, (∃ m, W 0 m σ H) ∧ ∀ i m σ H, W i m σ H →
      ((Itt K a).stop i H ∧ D.nx σ H) ∨ ((Itt K a).go i H ∧ ∃ N : L2.St → Hp → Prop, (∀ σ' H', N σ' H' → ∃ m', m' < m ∧ W (i + 1) m' σ' H') ∧ ∀ x H', (Itt K a).yld i H x H' → g x σ H' fun σ2 H2 => tb { D with nx := N, ct := N, bk := D.nx } σ2 H2) := by
  obtain ⟨q, ys, rfl, hq, ha⟩ := TD.of h
  have l := dps_len ha
  refine ⟨q, rfl, ⟨ys, seqT_same rm_le hq⟩, for_tup (xs := ys) Pv h0 (fun i σ' H' _ p => seqT_same rm_le (seqT_same (kp i σ' H' p) hq)) (fun i x σ' H' hx p => ?_) (by rw [l]; exact after)⟩
  obtain ⟨e, he, hd⟩ := dps_get ha hx
  exact turn i e x σ' H' he (dp_same (kp i σ' H' p) hd) p
theorem forL_D {g : TG} {tb : TS} {D : Ends} {v : V} {es : List PyData} (h : Dp K (rmL S H) v (.list es)) (Pv : Nat → L2.St → Hp → Prop) (h0 : Pv 0 σ H) (kp : ∀ i σ' H', Pv i σ' H' → Same (rmL S H) (rmL S H'))
    (turn : ∀ i e y σ' H', es[i]? = some e → Dp K (rmL S H') y e → Pv i σ' H' → g y σ' H' fun σ2 H2 => tb { D with nx := Pv (i + 1), ct := Pv (i + 1), bk := D.nx } σ2 H2) (after : ∀ σ' H', Pv es.length σ' H' → D.nx σ' H') :
    ∃ a, v = .ref a ∧ (∃ xs, SqL K H a xs) ∧ ∃ W : Nat → Nat → L2.St → Hp → Prop, (∃ m, W 0 m σ H) ∧ ∀ i m σ H, W i m σ H →
      ((Itl K a).stop i H ∧ D.nx σ H) ∨ ((Itl K a).go i H ∧ ∃ N : L2.St → Hp → Prop, (∀ σ' H', N σ' H' → ∃ m', m' < m ∧ W (i + 1) m' σ' H') ∧ ∀ x H', (Itl K a).yld i H x H' → g x σ H' fun σ2 H2 => tb { D with nx := N, ct := N, bk := D.nx } σ2 H2) := by
  cases h with
  | @lst q ys _ hq ha =>
    have l := dps_len ha
    refine ⟨q, rfl, ⟨ys, Same.seq rm_le hq⟩, for_list (xs := ys) Pv h0 (fun i σ' H' _ p => Same.seq rm_le (Same.seq (kp i σ' H' p) hq)) (fun i x σ' H' hx p => ?_) (by rw [l]; exact after)⟩
    obtain ⟨e, he, hd⟩ := dps_get ha hx
    exact turn i e x σ' H' he (dp_same (kp i σ' H' p) hd) p
/-- t[l:h] of a tuple -/
theorem sl_D {v : V} {es : List PyData} {l h : Nat} (A : Alive S H) (hv : Dp K (rmL S H) v (.tuple es)) (hl : l ≤ es.length) (k : ∀ u H', Same H H' → Dp K (rmL S H') u (.tuple ((es.drop l).take (h - l))) → Q u H') : rSlA K v (some (l : Int)) (some (h : Int)) H Q := by
  obtain ⟨q, ys, rfl, hq, ha⟩ := TD.of hv
  have ln := dps_len ha
  have e1 : HT.sIx ys.length 0 (some (l : Int)) = l := by rw [HT.sIx_nat, Nat.min_eq_left (by omega)]
  have e2 : HT.sIx ys.length ys.length (some (h : Int)) = min h ys.length := HT.sIx_nat _ _ _
  have cut : cutV ys (some (l : Int)) (some (h : Int)) = (ys.drop l).take (h - l) := by
    unfold cutV
    rw [e1, e2]
    by_cases g : h ≤ ys.length
    · rw [Nat.min_eq_left g]
    · rw [Nat.min_eq_right (by omega), List.take_of_length_le (by rw [List.length_drop]; exact Nat.le_refl _), List.take_of_length_le (by rw [List.length_drop]; omega)]
  have dd : DpAll K (rmL S H) ((ys.drop l).take (h - l)) ((es.drop l).take (h - l)) := dps_take _ (dps_drop l ha)
  refine ⟨q, ys, rfl, seqT_same rm_le hq, fun z => k _ H (Same.refl H) ?_, fun _ p hp => ?_⟩
  · rw [e1, e2] at z
    obtain ⟨z1, z2⟩ := z
    subst z1
    have g1 : (es.drop 0).take (h - 0) = es := by
      rw [List.drop_zero, Nat.sub_zero, List.take_of_length_le]
      omega
    rw [g1]
    exact hv
  · have s := new_same hp (.tup (cutV ys (some (l : Int)) (some (h : Int))))
    refine k _ _ s (.tup (.inl (.inl (rm_new A hp))) ?_)
    rw [cut]
    exact dps_same (rm_same (new_same hp _)) dd
/-- a comprehension over a tuple that is written -/
theorem mx_lcT {H0 : Hp} {t0 : TE} {g : TG} {tt : TT} {te : TE} {ws : List Nat} {ds es : List PyData} (sel : Nat → Bool) (f : Nat → PyData) (A : Alive S H0) (h : MkD K S H0 σ t0 (.tuple ds)) (hl : ds.length ≤ 1000)
    (he : ((List.range ds.length).filter sel).map f = es)
    (turn : ∀ (i : Nat) (v : V) (e : PyData) (D : Addr) (H : Hp) (yes : VK) (no : Hp → Prop), ds[i]? = some e → Dp K (rmL (D :: S) H) v e → Alive (D :: S) H → Same (rmL S H0) (rmL (D :: S) H) → Same H0 H →
      (sel i = true → ∀ y H', Same H H' → Dp K (rmL (D :: S) H') y (f i) → yes y H') → (sel i = false → ∀ H', Same H H' → no H') →
      g v (wipe σ ws) H fun σ2 H2 => wipe σ2 ws = wipe σ ws ∧ tt σ2 H2 fun b H3 => if b = true then te σ2 H3 yes else no H3) : MkX K S H0 σ (tLc (iTup K t0) g tt te ws) es := fun H Q s k =>
  h H _ s fun v H1 s1 hv => by
    obtain ⟨q, ys, rfl, hq, ha⟩ := TD.of hv
    have ly := dps_len ha
    have hqf := seqT_same rm_le hq
    refine ⟨q, rfl, ⟨ys, hqf⟩, fun D hD => ?_⟩
    have sD : ∀ {H' : Hp}, Same H1 H' → Same (rmL S H1) (rmL (D :: S) H') := fun s' => same_in hD s'
    refine lc_tup (xs := ys) (fun i H' => ∃ zs, H' D = some (.lst zs) ∧ DpAll K (rmL (D :: S) H') zs (((List.range i).filter sel).map f) ∧ Same H1 H') ⟨[], upd_same, .nil, new_same hD _⟩ (fun i H' _ ⟨_, _, _, z⟩ => seqT_same z hqf) (fun i x H' hx ⟨zs, z1, z2, z3⟩ => ?_) (fun H' ⟨zs, z1, z2, z3⟩ => ?_)
    · obtain ⟨e, he', hd⟩ := dps_get ha hx
      have il := (List.getElem?_eq_some_iff.mp hx).1
      have zl := dps_len z2
      have rl : (((List.range i).filter sel).map f).length ≤ i := by
        rw [List.length_map]
        refine Nat.le_trans (List.length_filter_le _ _) ?_
        rw [List.length_range]
        exact Nat.le_refl _
      refine turn i x e D H' _ _ he' (dp_same (sD z3) hd) (fun y hy => ?_) ((rm_same (s.trans s1)).trans (sD z3)) ((s.trans s1).trans z3) (fun hs y H4 s4 hy => ⟨zs, s4 _ _ z1, small1000 (by omega), zs ++ [y], upd_same, ?_, fun b o z => ?_⟩) (fun hs H4 s4 => ⟨zs, s4 _ _ z1, ?_, z3.trans s4⟩)
      · rcases List.mem_cons.mp hy with rfl | hy
        · rw [z1]
          exact fun z => by cases z
        · exact ((A.same (s.trans s1)).same z3) y hy
      · rw [rm_put List.mem_cons_self, range_filter, if_pos hs, List.map_append]
        exact dps_app (dps_same (rm_same s4) z2) (.cons hy .nil)
      · rw [upd_ne (ne_of_none z hD)]
        exact s4 _ _ (z3 _ _ z)
      · rw [range_filter, if_neg (by rw [hs]; exact Bool.false_ne_true), List.append_nil]
        exact dps_same (rm_same s4) z2
    · have z2 : DpAll K (rmL (D :: S) H') zs es := by
        rw [← he, ← ly]
        exact z2
      have := k D zs (rmL [D] H') ((s1.trans (same_rm1 hD z3))) rm_gone (by rw [rm_rm]; exact z2)
      rw [rm_back z1] at this
      exact this
end
end Q
set_option Elab.async false
set_option linter.all false
set_option maxRecDepth 100000
set_option maxHeartbeats 4000000
/-! ### k07 to k09: words -/
namespace Q
open PySem L2 XD
theorem nodup_snoc {α : Type} {l : List α} {x : α} (h : l.Nodup) (n : x ∉ l) : (l ++ [x]).Nodup := by
  rw [List.nodup_append]
  exact ⟨h, List.nodup_cons.mpr ⟨List.not_mem_nil, List.nodup_nil⟩, fun y hy z hz e => n (by rw [← List.mem_singleton.mp hz, ← e]; exact hy)⟩
theorem inV_mem {x : Str} {ws : List Str} : inV (V.str x) (ws.map V.str) = true ↔ x ∈ ws := by
  unfold inV
  rw [List.any_map, List.any_eq_true]
  constructor
  · rintro ⟨y, hy, e⟩
    have e : eqV (V.str y) (V.str x) = true := e
    have e : y = x := by simpa [eqV] using e
    rw [← e]
    exact hy
  · intro h
    exact ⟨x, h, by show eqV (V.str x) (V.str x) = true; simp [eqV]⟩
theorem flat_strs (ws : List Str) : (ws.map V.str).all flatV = true := List.all_eq_true.mpr fun x hx => by
  obtain ⟨w, _, rfl⟩ := List.mem_map.mp hx
  rfl
abbrev abc7 : Str := "abcdefghijklmnopqrstuvwxyz"
theorem abc7_at : ∀ c, c < 26 → atI abc7.cps.toList ((c : Nat) : Int) = some (97 + c) ∧ az (97 + c) = true := by decide +kernel
theorem abc7_ix : ∀ c, c < 26 → Builtin.Str.occurrences abc7 ⟨#[97 + c]⟩ 0 abc7.length 1 = [c] := by decide +kernel
theorem abc7_len : abc7.length = 26 := rfl
theorem draw7_ok {a c : Addr} : DrawOk spDraw7 [a, c] (fun H => Fl7 c H a) a := fun n H Q E h1 h2 F k => ⟨a, c, n, rfl, F, h1, h2, k⟩
abbrev Bl7 (K : PySem.W.Frag) (a c : Addr) := Blk K [a, c] (fun H => Fl7 c H a)
/-- one of these many places is free -/
theorem some_free {α : Type} {ws : List α} (f : Nat → α) {k : Nat} (hk : ws.length ≤ k) (inj : ∀ i j, i ≤ k → j ≤ k → f i = f j → i = j) (all : ∀ i, i < k → f i ∈ ws) (h : f k ∈ ws) : False := by
  have nd : ((List.range (k + 1)).map f).Nodup := by
    rw [List.nodup_iff_pairwise_ne, List.pairwise_map]
    refine (List.nodup_iff_pairwise_ne.mp List.nodup_range).imp_of_mem fun {x y} hx hy n z => n (inj x y ?_ ?_ z)
    · have := List.mem_range.mp hx
      omega
    · have := List.mem_range.mp hy
      omega
  have sub : (List.range (k + 1)).map f ⊆ ws := fun x hx => by
    obtain ⟨i, hi, rfl⟩ := List.mem_map.mp hx
    have := List.mem_range.mp hi
    by_cases e : i = k
    · rw [e]
      exact h
    · exact all i (by omega)
  have := nd.length_le_of_subset sub
  rw [List.length_map, List.length_range] at this
  omega
/-- a word with another last sign -/
def lastL (x : Str) (i : Nat) : Str := ⟨((tlx x).dropLast ++ [97 + i % 26]).toArray⟩
theorem tl_last (x : Str) (i : Nat) : tlx (lastL x i) = (tlx x).dropLast ++ [97 + i % 26] := rfl
theorem last_word {x : Str} (h : word x = true) (i : Nat) : word (lastL x i) = true := by
  obtain ⟨w1, w8, wa⟩ := word_iff.mp h
  refine word_of (tl_last x i) ?_ ?_ ?_
  · rw [List.length_append, List.length_singleton]
    omega
  · rw [List.length_append, List.length_singleton, List.length_dropLast]
    omega
  · rw [List.all_append, List.dropLast_eq_take, all_take wa]
    show (true && (az (97 + i % 26) && true)) = true
    rw [(abc7_at (i % 26) (Nat.mod_lt _ (by decide))).2]
    rfl
theorem last_last (x : Str) (i j : Nat) : lastL (lastL x i) j = lastL x j := tlx_inj (by rw [tl_last, tl_last, tl_last, List.dropLast_concat])
theorem last_inj {x : Str} {i j : Nat} (h : lastL x i = lastL x j) : i % 26 = j % 26 := by
  have e := congrArg tlx h
  rw [tl_last, tl_last] at e
  have := (List.cons.inj (List.append_cancel_left e)).1
  omega
theorem word_last {x : Str} (h : word x = true) : ∃ i, i < 26 ∧ x = lastL x i ∧ (tlx x).getLast? = some (97 + i) := by
  obtain ⟨w1, w8, wa⟩ := word_iff.mp h
  have hne : tlx x ≠ [] := fun z => by rw [z] at w1; cases w1
  have hl := List.getLast_mem hne
  have := az_iff (List.all_eq_true.mp wa _ hl)
  refine ⟨(tlx x).getLast hne - 97, by omega, tlx_inj ?_, ?_⟩
  · rw [tl_last]
    have e : 97 + ((tlx x).getLast hne - 97) % 26 = (tlx x).getLast hne := by omega
    rw [e]
    exact (List.dropLast_concat_getLast hne).symm
  · rw [List.getLast?_eq_some_getLast hne]
    congr 1
    omega
theorem at_last {α : Type} {l : List α} {x : α} : atI (l ++ [x]) (-1) = some x := by
  have e : ixN (l ++ [x]).length (-1) = some l.length := by
    unfold ixN
    rw [List.length_append, List.length_singleton]
    simp
    omega
  show (ixN (l ++ [x]).length (-1)).bind _ = _
  rw [e]
  show (l ++ [x])[l.length]? = some x
  simp
theorem cut_last (x : Str) : tlx (cutS x none (some (-1))) = (tlx x).dropLast := by
  have e : HT.sIx x.length x.length (some (-1)) = x.length - 1 := by
    show (if (-1 : Int) < 0 then (-1 + (x.length : Int)).toNat else min (-1 : Int).toNat x.length) = x.length - 1
    rw [if_pos (by decide)]
    omega
  have l0 := tlx_len x
  show ((tlx x).drop (HT.sIx x.length 0 none)).take (HT.sIx x.length x.length (some (-1)) - HT.sIx x.length 0 none) = (tlx x).dropLast
  rw [e, show HT.sIx x.length 0 none = 0 from rfl, List.drop_zero, Nat.sub_zero, List.dropLast_eq_take, l0]
theorem len_app7 (x y : Str) : (x ++ y).length = x.length + y.length := PySem.strLen_append x y
theorem put7_word {x : Str} {n c : Nat} (hw : word x = true) (hc : az c = true) (hn : n < x.length) : word (cutS x none (some (n : Int)) ++ (⟨#[c]⟩ : Str) ++ cutS x (some ((n : Int) + 1)) none) = true := by
  obtain ⟨w1, w8, wa⟩ := word_iff.mp hw
  have l0 := tlx_len x
  have e3 : tlx (cutS x (some ((n : Int) + 1)) none) = (tlx x).drop (n + 1) := tlx_from x (n + 1)
  refine word_of (l := (tlx x).take n ++ [c] ++ (tlx x).drop (n + 1)) (by rw [tlx_app, tlx_app, tlx_to, e3, tlx_one]) ?_ ?_ ?_
  · simp only [List.length_append, List.length_singleton]
    omega
  · simp only [List.length_append, List.length_singleton, List.length_take, List.length_drop]
    omega
  · rw [List.all_append, List.all_append, all_take wa, all_drop wa]
    simp [hc]
def spWords7 (K : PySem.W.Frag) : Sp := fun vs H Q _ => ∃ (a c : Addr) (n m : Nat), vs = [.ref a, .int n, .int m] ∧ Fl7 c H a ∧ n ≤ 20 ∧ 1 ≤ m ∧ m ≤ 8 ∧
  ∀ (L : Addr) (ws : List Str) (H' : Hp), H L = none → Bs7 a c H' L = some (.lst (ws.map V.str)) → ws.length = n → Wds ws → Fl7 c H' a → Same (Bs7 a c H) (Bs7 a c H') → Q (.ref L) H'
abbrev nWd7 : List Str := ["state", "many", "most", "letters", "words", "k", "long", "number", "word", "place", "again"]
section
variable {P : Program} {w : World} {K : PySem.W.Frag} {mg : Str → Option Value} {base : Heap}
theorem scWd7 : FnScope nWd7 ["state", "many", "most"] (defScope sLWords) := ⟨rfl, rfl, rfl, by decide +kernel, rfl, by decide +kernel, by decide +kernel⟩
theorem ok_words7 {f : Addr} {fd : FuncData} (F : Fun K "_law_words" "_law_words" sLWords f fd) (T : Be7 mg) (KD : Kn P w K mg base 1 "_law_draw" ["state", "many"] spDraw7) : FnOk P w K mg base CX0 2 f fd ["state", "many", "most"] (spWords7 K) := by
  obtain ⟨fD, fdD, GD, kD, bD, mD⟩ := KD.ex
  refine F.ok scWd7 (fun vs H Q E h => ?_) (fun cdv A outer s H vs Q E hr h => ?_)
  · obtain ⟨a, c, n, m, rfl, _⟩ := h
    rfl
  refine ⟨_, pss_cons (ps_set (i := 3) scWd7.nd rfl (.inl rfl) pe_str)
    (pss_cons (ps_set (i := 4) scWd7.nd rfl (.inl rfl) (pe_lst pa_nil))
    (pss_cons (ps_for PassesOwn.never rfl (pi_range1 rfl T.range (pa_cons (pv 1) pa_nil)) (pg_name (i := 5) scWd7.nd rfl (.inl rfl))
      (pss_cons (ps_set (i := 6) scWd7.nd rfl (.inl rfl) (pe_op op_add pe_int (pe_call GD hr (by rfl) mD kD bD .nil pass0 (pa_cons (pv 0) (pa_cons (pv 2) pa_nil)))))
    (pss_cons (ps_set (i := 7) scWd7.nd rfl (.inl rfl) (pe_call GD hr (by rfl) mD kD bD .nil pass0 (pa_cons (pv 0) (pa_cons pe_int pa_nil))))
    (pss_cons (ps_set (i := 7) scWd7.nd rfl (.inl rfl) (pe_op op_add (pv 7) (pe_op op_mul pe_int (pe_call GD hr (by rfl) mD kD bD .nil pass0 (pa_cons (pv 0) (pa_cons pe_int pa_nil))))))
    (pss_cons (ps_set (i := 8) scWd7.nd rfl (.inl rfl) pe_str)
    (pss_cons (ps_for PassesOwn.never rfl (pi_range1 rfl T.range (pa_cons (pv 6) pa_nil)) (pg_name (i := 9) scWd7.nd rfl (.inl rfl))
      (pss_cons (ps_set (i := 8) scWd7.nd rfl (.inl rfl) (pe_op op_add_str (pv 8) (pe_ix ix_str (pv 3) (pe_op op_mod (pe_callTy call_int1 rfl T.int (by decide +kernel) (pa_cons (pv 7) pa_nil)) pe_int) (fun _ _ => rfl))))
    (pss_one (ps_set (i := 7) scWd7.nd rfl (.inl rfl) (pe_op op_fdiv (pv 7) pe_int)))))
    (pss_cons (ps_if (PW.pt (pw_and (pt_cmpR op_gt (pv 5) pe_int (nomark _)) (pw_and1 (pt_cmpR op_eq (pe_call GD hr (by rfl) mD kD bD .nil pass0 (pa_cons (pv 0) (pa_cons pe_int pa_nil))) pe_int (nomark _))))) (pss_cons (ps_set (i := 9) scWd7.nd rfl (.inl rfl) (pe_call GD hr (by rfl) mD kD bD .nil pass0 (pa_cons (pv 0) (pa_cons (pe_callB call_len_str (by rfl) T.len PySem.boot_len (pa_cons (pe_ix (ix_both K rfl) (pv 4) pe_int (fun _ _ => rfl)) pa_nil)) pa_nil))))
    (pss_one (ps_set (i := 8) scWd7.nd rfl (.inl rfl) (pe_op op_add_str (pe_op op_add_str (pe_slice sl_str (pe_ix (ix_both K rfl) (pv 4) pe_int (fun _ _ => rfl)) po_none (po_some (pv 9))) (pe_ix ix_str (pv 8) pe_int (fun _ _ => rfl))) (pe_slice sl_str (pe_ix (ix_both K rfl) (pv 4) pe_int (fun _ _ => rfl)) (po_some (pe_op op_add (pv 9) pe_int)) po_none))))) pss_nil)
    (pss_cons (ps_for PassesOwn.never rfl (pi_range1 rfl T.range (pa_cons (pv 5) pa_nil)) (pg_name (i := 10) scWd7.nd rfl (.inl rfl))
      (pss_one (ps_if (pt_cmpR op_in_seq (pv 8) (pv 4) (by with_unfolding_all rfl)) (pss_one (ps_set (i := 8) scWd7.nd rfl (.inl rfl) (pe_op op_add_str (pe_slice sl_str (pv 8) po_none (po_some (pe_un un_neg pe_int))) (pe_ix ix_str (pv 3) (pe_op op_mod (pe_op op_add (pe_m1 PySem.F.slot_str_index PySem.F.type_str_index mt_sindex (pv 3) (pe_ix ix_str (pv 8) (pe_un un_neg pe_int) (fun _ _ => rfl))) pe_int) pe_int) (fun _ _ => rfl))))) pss_nil)))
    (pss_one (ps_expr (pe_bm PySem.F.plainAttrs_list PySem.F.slot_list_append PySem.F.type_list_append mt_append (pv 4) (pa_cons (pv 8) pa_nil))))))))))))
    (pss_one (ps_ret (pv 4))))), ?_⟩
  obtain ⟨a, c, n, m, rfl, Fl, hn, m1, m8, k⟩ := h
  have B : Bl7 K a c _ _ _ _ H := Blk.new flo7 Fl .nil
  try simp only [L2.start, gName, List.map_cons, List.map_nil, List.length_cons, List.length_nil, Nat.reduceAdd, Nat.reduceSub, List.replicate_succ, List.replicate_zero, List.cons_append, List.nil_append, List.set_cons_succ, List.set_cons_zero]
  refine asg_C ?_
  try simp only [gName, List.set_cons_succ, List.set_cons_zero]
  refine asg_X B (mx_lst (es := []) (by rfl) mkl_nil) fun L oL H1 s1 nL n0 nS B XL => ?_
  have hL0 : H L = none := by
    cases e : H L with
    | none => rfl
    | some o =>
      have := s1 _ _ e
      rw [nL] at this
      cases this
  try simp only [gName, List.set_cons_succ, List.set_cons_zero]
  have big : (1001 : Int) < 2 ^ 62 := by decide
  have small : -(2 ^ 62 : Int) ≤ 0 := by decide
  refine ⟨_, rfl, _, rfl, by omega, by omega, ?_⟩
  rw [Int.toNat_natCast]
  refine for_range (lo := 0) (n := n) (fun i σ H' => ∃ (ws : List Str) (f5 f6 f7 f8 f9 f10 : Option V), σ = [some (.ref a), some (.int n), some (.int m), some (.str abc7), some (.ref L), f5, f6, f7, f8, f9, f10] ∧ Bl7 K a c (rmL [a, c] H) [L, a, c] [] [] H' ∧ Lx K [L, a, c] L (ws.map PyData.str) H' ∧ ws.length = i ∧ Wds ws)
    ⟨[], _, _, _, _, _, _, rfl, B, XL, rfl, List.nodup_nil, fun x hx => absurd hx List.not_mem_nil⟩ ?_ ?_
  · clear B XL s1 nL
    rintro i σ H2 hi ⟨ws, f5, f6, f7, f8, f9, f10, rfl, B, XL, lw, W⟩
    have ei : (0 : Int) + (i : Int) = ((i : Nat) : Int) := by omega
    rw [ei]
    try simp only [gName, List.set_cons_succ, List.set_cons_zero]
    refine drawV (i := 2) draw7_ok B rfl rfl m1 (by omega) fun r1 H3 hr1 B s3 => ⟨_, _, rfl, rfl, ?_⟩
    replace XL := XL.move B.sub n0 s3
    try simp only [gName, List.set_cons_succ, List.set_cons_zero]
    refine drawF (n := 456976) draw7_ok B rfl rfl rfl fun r2 H4 _ B s4 => ?_
    replace XL := XL.move B.sub n0 s4
    try simp only [gName, List.set_cons_succ, List.set_cons_zero]
    refine ⟨_, rfl, drawF (n := 456976) draw7_ok B rfl rfl rfl fun r3 H5 _ B s5 => ⟨_, _, rfl, rfl, .inl ⟨by decide, by decide⟩, _, _, rfl, rfl, ?_⟩⟩
    replace XL := XL.move B.sub n0 s5
    try simp only [gName, List.set_cons_succ, List.set_cons_zero]
    clear s3 s4 s5
    -- the signs
    refine asg_C ?_
    try simp only [gName, List.set_cons_succ, List.set_cons_zero]
    refine ⟨_, rfl, _, rfl, by omega, by omega, ?_⟩
    have en : ((1 : Int) + (r1 : Int)).toNat = r1 + 1 := by omega
    rw [en]
    refine for_range (lo := 0) (n := r1 + 1) (fun q σ H' => ∃ (z : Int) (x : Str) (f9 : Option V), σ = [some (.ref a), some (.int n), some (.int m), some (.str abc7), some (.ref L), some (.int (i : Nat)), some (.int (1 + (r1 : Int))), some (.int z), some (.str x), f9, f10] ∧ (tlx x).length = q ∧ (tlx x).all az = true ∧ Bl7 K a c (rmL [a, c] H) [L, a, c] [] [] H' ∧ Lx K [L, a, c] L (ws.map PyData.str) H')
      ⟨_, _, _, rfl, rfl, rfl, B, XL⟩ ?_ ?_
    · clear B XL
      rintro q σ H6 hq ⟨z, x, f9, rfl, l1, l2, B, XL⟩
      have z0 := Int.emod_nonneg z (show (26 : Int) ≠ 0 by decide)
      have z1 := Int.emod_lt_of_pos z (show (0 : Int) < 26 by decide)
      obtain ⟨d, hd⟩ : ∃ d : Nat, z % 26 = (d : Int) := ⟨(z % 26).toNat, by omega⟩
      obtain ⟨e1, e2⟩ := abc7_at d (by omega)
      have xl := tlx_len x
      try simp only [gName, List.set_cons_succ, List.set_cons_zero]
      refine ⟨_, rfl, _, rfl, _, rfl, .inl ⟨_, rfl, _, _, rfl, rfl, (by show (0 : Int) < 26; decide), abc7, _, 97 + d, rfl, rfl, (by show 26 ≤ sizeLine; decide), ?_, _, _, rfl, rfl, le_line (by show x.length + 1 ≤ 1000; omega), ?_⟩⟩
      · show atI abc7.cps.toList (z % 26) = _
        rw [hd]
        exact e1
      try simp only [gName, List.set_cons_succ, List.set_cons_zero]
      refine ⟨_, rfl, _, _, rfl, rfl, ⟨by decide, by decide⟩, ?_⟩
      refine ⟨_, _, _, rfl, ?_, ?_, B, XL⟩
      · rw [tlx_app, tlx_one, List.length_append, l1] <;> rfl
      · rw [tlx_app, tlx_one, List.all_append, l2]
        show (true && (az (97 + d) && true)) = true
        rw [e2]
        rfl
    · clear B XL
      rintro σ H6 ⟨z, x, f9, rfl, l1, l2, B, XL⟩
      have wx : word x = true := word_of rfl (by omega) (by omega) l2
      clear l1 l2
      try dsimp only
      refine seq_cut (fun σ H' => ∃ (x : Str) (f9 : Option V), σ = [some (.ref a), some (.int n), some (.int m), some (.str abc7), some (.ref L), some (.int (i : Nat)), some (.int (1 + (r1 : Int))), some (.int z), some (.str x), f9, f10] ∧ word x = true ∧ Bl7 K a c (rmL [a, c] H) [L, a, c] [] [] H' ∧ Lx K [L, a, c] L (ws.map PyData.str) H') ?_ (fun join => ?_)
      · clear B XL wx x
        rintro σ H7 ⟨x, f9, rfl, wx, B, XL⟩
        refine ⟨_, rfl, _, rfl, by omega, by omega, ?_⟩
        rw [Int.toNat_natCast]
        obtain ⟨x0, hx0, ex0, _⟩ := word_last wx
        refine for_range (lo := 0) (n := i) (fun q σ H' => ∃ (j : Nat) (f10 : Option V), σ = [some (.ref a), some (.int n), some (.int m), some (.str abc7), some (.ref L), some (.int (i : Nat)), some (.int (1 + (r1 : Int))), some (.int z), some (.str (lastL x (x0 + j))), f9, f10] ∧ j ≤ q ∧ (∀ h < j, lastL x (x0 + h) ∈ ws) ∧ (lastL x (x0 + j) ∈ ws → j = q) ∧ Bl7 K a c (rmL [a, c] H) [L, a, c] [] [] H' ∧ Lx K [L, a, c] L (ws.map PyData.str) H')
          ⟨0, _, by rw [Nat.add_zero, ← ex0], Nat.le_refl _, fun h z => absurd z (Nat.not_lt_zero _), fun _ => rfl, B, XL⟩ ?_ ?_
        · clear B XL
          rintro q σ H8 hq ⟨j, f10, rfl, jq, j1, j2, B, XL⟩
          try simp only [gName, List.set_cons_succ, List.set_cons_zero]
          obtain ⟨us, eL, hus⟩ := id XL
          have hus := dps_str hus
          subst hus
          refine ⟨_, rfl, _, rfl, L, _, rfl, .inl (SqL.of eL), rfl, flat_strs ws, _, rfl, iteB (fun e => ?_) (fun e => nxt ?_)⟩
          · have hin := inV_mem.mp (show inV (V.str (lastL x (x0 + j))) (ws.map V.str) = true from e)
            have ejq := j2 hin
            subst ejq
            have wl := last_word wx (x0 + j)
            obtain ⟨w1, w8, wa⟩ := word_iff.mp wl
            have tl := tl_last x (x0 + j)
            have xl := tlx_len (lastL x (x0 + j))
            have at_ : atI (lastL x (x0 + j)).cps.toList (-1) = some (97 + (x0 + j) % 26) := by
              show atI (tlx (lastL x (x0 + j))) (-1) = _
              rw [tl]
              exact at_last
            have cut : cutS (lastL x (x0 + j)) none (some (-1)) ++ (⟨#[97 + (x0 + (j + 1)) % 26]⟩ : Str) = lastL x (x0 + (j + 1)) := by
              refine tlx_inj ?_
              rw [tlx_app, tlx_one, cut_last, tl, tl_last, List.dropLast_concat]
            have em : (x0 + j) % 26 < 26 := Nat.mod_lt _ (by decide)
            have e2 : (x0 + (j + 1)) % 26 < 26 := Nat.mod_lt _ (by decide)
            have eq_ : (((x0 + j) % 26 : Nat) : Int) + 1 = ((((x0 + j) % 26 + 1 : Nat)) : Int) := by omega
            have eq2 : ((((x0 + j) % 26 + 1 : Nat)) : Int) % 26 = (((x0 + (j + 1)) % 26 : Nat) : Int) := by omega
            refine ⟨_, rfl, _, rfl, _, rfl, _, rfl, le_line (by omega), ?_⟩
            refine ⟨_, rfl, _, rfl, ⟨_, rfl⟩, _, rfl, _, rfl, _, _, _, rfl, rfl, le_line (by omega), at_, abc7, _, _, _, rfl, rfl, abc7_ix _ em, _, _, rfl, rfl, _, _, rfl, rfl, (by show (0 : Int) < 26; decide), abc7, _, _, rfl, rfl, (by show 26 ≤ sizeLine; decide), (by rw [eq_, eq2]; exact (abc7_at _ e2).1), _, _, rfl, rfl, le_line ?_, ?_⟩
            · rw [← tlx_len, cut_last, tl, List.dropLast_concat, List.length_dropLast]
              show _ + 1 ≤ 1000
              have := tlx_len x
              have := word_len wx
              omega
            · rw [cut]
              refine ⟨j + 1, _, rfl, Nat.le_refl _, fun h hh => ?_, fun _ => rfl, B, XL⟩
              by_cases e : h = j
              · rw [e]
                exact hin
              · exact j1 h (by omega)
          · have hno : lastL x (x0 + j) ∉ ws := fun h => by
              have := inV_mem.mpr h
              rw [show inV (V.str (lastL x (x0 + j))) (ws.map V.str) = false from e] at this
              cases this
            exact ⟨j, _, rfl, by omega, j1, fun h => absurd h hno, B, XL⟩
        · clear B XL
          rintro σ H8 ⟨j, f10, rfl, jq, j1, j2, B, XL⟩
          have hno : lastL x (x0 + j) ∉ ws := fun h => by
            have e := j2 h
            subst e
            refine some_free (fun h => lastL x (x0 + h)) (k := j) (by omega) (fun p q hp hq z => ?_) j1 h
            have := last_inj z
            omega
          try dsimp only
          refine app_X1 B rfl XL List.mem_cons_self n0 (mk_var (i := 8) (by rfl) (.str _)) (by rw [List.length_map]; omega) fun o H9 s9 B XL => ?_
          refine ⟨ws ++ [lastL x (x0 + j)], _, _, _, _, _, _, rfl, B, by rw [List.map_append]; exact XL, by rw [List.length_append, lw] <;> rfl, nodup_snoc W.1 hno, fun y hy => ?_⟩
          rcases List.mem_append.mp hy with hy | hy
          · exact W.2 y hy
          · rw [List.mem_singleton.mp hy]
            exact last_word wx _
      · refine ⟨_, rfl, _, _, rfl, rfl, _, rfl, iteB (fun e => ?_) (fun _ => join _ _ ⟨x, _, rfl, wx, B, XL⟩)⟩
        have ip : 0 < i := by
          have := of_decide_eq_true e
          omega
        refine drawF (n := 2) draw7_ok B rfl rfl rfl fun r4 H7 _ B s7 => ⟨rfl, _, rfl, iteB (fun _ => ?_) (fun _ => join _ _ ⟨x, _, rfl, wx, B, XL.move B.sub n0 s7⟩)⟩
        replace XL := XL.move B.sub n0 s7
        obtain ⟨us, eL, hus⟩ := id XL
        have hus := dps_str hus
        subst hus
        cases ws with
        | nil => exact absurd lw (by show 0 ≠ i; omega)
        | cons y ws =>
        have wy := W.2 y List.mem_cons_self
        have y8 := word_len wy
        obtain ⟨y1, _, _⟩ := word_iff.mp wy
        obtain ⟨x1, x8, xa⟩ := word_iff.mp wx
        have ly := tlx_len y
        have lx := tlx_len x
        obtain ⟨c0, hc0, ac0⟩ : ∃ c0, atI x.cps.toList 0 = some c0 ∧ az c0 = true := by
          have e : (tlx x)[0]? = some (tlx x)[0] := List.getElem?_eq_getElem (by omega)
          exact ⟨_, atI_nat (j := 0) e, List.all_eq_true.mp xa _ (List.getElem_mem _)⟩
        refine ⟨_, rfl, _, rfl, ix_row (.inl (SqL.of eL)) at0 ⟨y, rfl, le_line (by omega), a, c, y.length, rfl, B.fl, by omega, by omega, fun r5 H8 hr5 F8 s8 => ?_⟩⟩
        replace B := B.move F8 s8
        replace XL := XL.move B.sub n0 s8
        replace eL := (rm_of (s8 _ _ ((rm_at n0).trans eL))).2
        try simp only [gName, List.set_cons_succ, List.set_cons_zero]
        have c1 := cutS_short y none (some (r5 : Int))
        have c2 := cutS_short y (some ((r5 : Int) + 1)) none
        refine ⟨_, rfl, ix_row (.inl (SqL.of eL)) at0 ⟨_, rfl, _, rfl, y, rfl, le_line (by omega), _, rfl, x, _, c0, rfl, rfl, le_line (by omega), hc0, _, _, rfl, rfl, le_line ?_, _, rfl, ix_row (.inl (SqL.of eL)) at0 ⟨_, rfl, _, _, rfl, rfl, _, rfl, y, rfl, le_line (by omega), _, _, rfl, rfl, le_line ?_, ?_⟩⟩⟩
        · show _ + 1 ≤ 1000
          omega
        · rw [len_app7]
          show _ + 1 + _ ≤ 1000
          omega
        · try simp only [gName, List.set_cons_succ, List.set_cons_zero]
          exact join _ _ ⟨_, _, rfl, put7_word wy ac0 hr5, B, XL⟩
  · rintro σ H2 ⟨ws, f5, f6, f7, f8, f9, f10, rfl, B, XL, lw, W⟩
    obtain ⟨us, e, hus⟩ := XL
    have hus := dps_str hus
    subst hus
    exact ⟨_, rfl, k L ws H2 hL0 ((rm_at n0).trans e) lw W B.fl B.keep⟩
end
end Q
set_option Elab.async false
set_option linter.all false
set_option maxRecDepth 100000
set_option maxHeartbeats 4000000
/-! ### k07 to k09: the table -/
namespace Q
open PySem L2 XD
abbrev entD (e : Str × List Str) : PyData := .tuple [.str e.1, .tuple (e.2.map PyData.str)]
/-- what a good table is -/
structure Tb7 (t : List (Str × List Str)) : Prop where
  lo : 1 ≤ t.length
  nm : Wds (t.map (·.1))
  vs : ∃ m, m ≤ 5 ∧ (∀ e ∈ t, Wds e.2 ∧ 1 ≤ e.2.length ∧ e.2.length ≤ m) ∧ t.length ≤ 6 ∧ m ^ t.length ≤ 1000
theorem ways_few7 {m : Nat} : ∀ {t : List (Str × List Str)} (k : Nat), (∀ e ∈ t, e.2.length ≤ m) → waysFrom k t ≤ k * m ^ t.length
  | [], k, _ => by
    show k ≤ _
    simp
  | e :: t, k, h => by
    have h3 := h e List.mem_cons_self
    have ih := ways_few7 (t := t) (k * e.2.length) fun x hx => h x (List.mem_cons_of_mem _ hx)
    show waysFrom (k * e.2.length) t ≤ _
    refine Nat.le_trans ih ?_
    rw [List.length_cons, Nat.pow_succ, Nat.mul_comm (m ^ t.length) m, ← Nat.mul_assoc]
    exact Nat.mul_le_mul_right _ (Nat.mul_le_mul_left _ h3)
theorem Tb7.ok {t : List (Str × List Str)} (h : Tb7 t) : TabOk t ∧ waysFrom 1 t ≤ 1000 := by
  obtain ⟨m, m5, hv, h6, hw⟩ := h.vs
  refine ⟨⟨h.lo, h6, h.nm, fun e he => ⟨(hv e he).1, (hv e he).2.1, by have := (hv e he).2.2; omega⟩⟩, ?_⟩
  have := ways_few7 (t := t) (m := m) 1 fun e he => (hv e he).2.2
  omega
def spTable7 (K : PySem.W.Frag) : Sp := fun vs H Q _ => ∃ (a c : Addr), vs = [.ref a] ∧ Fl7 c H a ∧
  ∀ (p : Addr) (t : List (Str × List Str)) (H' : Hp), Dp K (Bs7 a c H') (.ref p) (.tuple (t.map entD)) → Tb7 t → Fl7 c H' a → Same (Bs7 a c H) (Bs7 a c H') → Q (.ref p) H'
abbrev nTb7 : List Str := ["state", "many", "most", "table", "name"]
section
variable {P : Program} {w : World} {K : PySem.W.Frag} {mg : Str → Option Value} {base : Heap}
theorem scTb7 : FnScope nTb7 ["state"] (defScope sLTable) := ⟨rfl, rfl, rfl, by decide +kernel, rfl, by decide +kernel, by decide +kernel⟩
theorem ok_table7 {f : Addr} {fd : FuncData} (F : Fun K "_law_table" "_law_table" sLTable f fd) (T : Be7 mg) (KD : Kn P w K mg base 1 "_law_draw" ["state", "many"] spDraw7) (KW : Kn P w K mg base 2 "_law_words" ["state", "many", "most"] (spWords7 K)) : FnOk P w K mg base CX0 3 f fd ["state"] (spTable7 K) := by
  obtain ⟨fD, fdD, GD, kD, bD, mD⟩ := KD.ex
  obtain ⟨fW, fdW, GW, kW, bW, mW⟩ := KW.ex
  refine F.ok scTb7 (fun vs H Q E h => ?_) (fun cdv A outer s H vs Q E hr h => ?_)
  · obtain ⟨a, c, rfl, _⟩ := h
    rfl
  have hr1 := hr.mono (show 1 ≤ 2 by decide)
  refine ⟨_, pss_cons (ps_set (i := 1) scTb7.nd rfl (.inl rfl) (pe_op op_add pe_int (pe_call GD hr1 (by rfl) mD kD bD .nil pass0 (pa_cons (pv 0) (pa_cons pe_int pa_nil)))))
    (pss_cons (ps_set (i := 2) scTb7.nd rfl (.inl rfl) pe_int)
    (pss_cons (ps_if (pt_cmpR op_eq (pe_call GD hr1 (by rfl) mD kD bD .nil pass0 (pa_cons (pv 0) (pa_cons pe_int pa_nil))) pe_int (nomark _)) (pss_cons (ps_set (i := 1) scTb7.nd rfl (.inl rfl) (pe_ix (ix_both K rfl) (pe_tupZ (pa_cons pe_int (pa_cons pe_int pa_nil))) (pe_call GD hr1 (by rfl) mD kD bD .nil pass0 (pa_cons (pv 0) (pa_cons pe_int pa_nil))) (fun _ _ => rfl)))
    (pss_one (ps_set (i := 2) scTb7.nd rfl (.inl rfl) (pe_ix (ix_both K rfl) (pe_tupZ (pa_cons pe_int (pa_cons pe_int pa_nil))) (pe_callTy call_int1 rfl T.int (by decide +kernel) (pa_cons (pe_cmpR op_eq (pv 1) pe_int (nomark _)) pa_nil)) (fun _ _ => rfl))))) pss_nil)
    (pss_cons (ps_set (i := 3) scTb7.nd rfl (.inl rfl) (pe_lst pa_nil))
    (pss_cons (ps_for PassesOwn.never rfl (pi_row (pe_call GW hr (by rfl) mW kW bW .nil pass0 (pa_cons (pv 0) (pa_cons (pv 1) (pa_cons pe_int pa_nil))))) (pg_name (i := 4) scTb7.nd rfl (.inl rfl))
      (pss_one (ps_expr (pe_bm PySem.F.plainAttrs_list PySem.F.slot_list_append PySem.F.type_list_append mt_append (pv 3) (pa_cons (pe_tupZ (pa_cons (pv 4) (pa_cons (pe_callTy (call_tupK K rfl) (by rfl) T.tup (by decide +kernel) (pa_cons (pe_call GW hr (by rfl) mW kW bW .nil pass0 (pa_cons (pv 0) (pa_cons (pe_op op_add pe_int (pe_call GD hr1 (by rfl) mD kD bD .nil pass0 (pa_cons (pv 0) (pa_cons (pv 2) pa_nil)))) (pa_cons pe_int pa_nil)))) pa_nil)) pa_nil))) pa_nil)))))
    (pss_one (ps_ret (pe_callTy (call_tupK K rfl) (by rfl) T.tup (by decide +kernel) (pa_cons (pv 3) pa_nil)))))))), ?_⟩
  obtain ⟨a, c, rfl, Fl, k⟩ := h
  have B : Bl7 K a c _ _ _ _ H := Blk.new flo7 Fl .nil
  try simp only [L2.start, gName, List.map_cons, List.map_nil, List.length_cons, List.length_nil, Nat.reduceAdd, Nat.reduceSub, List.replicate_succ, List.replicate_zero, List.cons_append, List.nil_append, List.set_cons_succ, List.set_cons_zero]
  refine drawF (n := 4) draw7_ok B rfl rfl rfl fun r1 H1 hr1_ B s1 => ⟨_, _, rfl, rfl, ?_⟩
  try simp only [gName, List.set_cons_succ, List.set_cons_zero]
  refine asg_C ?_
  try simp only [gName, List.set_cons_succ, List.set_cons_zero]
  refine seq_cut (fun σ H' => ∃ (n m : Nat) (f3 f4 : Option V), σ = [some (.ref a), some (.int n), some (.int m), f3, f4] ∧ 1 ≤ n ∧ n ≤ 6 ∧ 1 ≤ m ∧ m ≤ 5 ∧ m ^ n ≤ 1000 ∧ Bl7 K a c (rmL [a, c] H) [a, c] [] [] H') ?_ (fun join => ?_)
  · clear B s1
    rintro σ H2 ⟨n, m, f3, f4, rfl, n1, n6, m1, m5, hmn, B⟩
    refine asg_X B (mx_lst (es := []) (by rfl) mkl_nil) fun D oD H3 s3 nD n0 nS B XD => ?_
    try simp only [gName, List.set_cons_succ, List.set_cons_zero]
    refine .inl ⟨_, rfl, _, rfl, a, c, n, 8, rfl, B.fl, by omega, by decide, by decide, fun L ws H4 hLn hL hl W F4 s4 => ⟨L, rfl, ⟨_, SqL.of (rm_le _ _ hL)⟩, ?_⟩⟩
    have LD : L ≠ D := fun z => by
      rw [z] at hLn
      exact B.al D List.mem_cons_self hLn
    replace B := B.move F4 s4
    replace XD := XD.move B.sub n0 s4
    have hL : rmL [D, a, c] H4 L = some (.lst (ws.map V.str)) := (rm_at (fun z => (List.mem_cons.mp z).elim LD (rm_of hL).1)).trans (rm_of hL).2
    have s0 := B.base
    replace B := B.rebase
    refine for_list (a := L) (xs := ws.map V.str) (fun i σ H' => ∃ (ts : List (Str × List Str)) (f4 : Option V), σ = [some (.ref a), some (.int n), some (.int m), some (.ref D), f4] ∧ Bl7 K a c (rmL [D, a, c] H4) [D, a, c] [] [] H' ∧ Lx K [D, a, c] D (ts.map entD) H' ∧ ts.map (·.1) = ws.take i ∧ ∀ e ∈ ts, Wds e.2 ∧ 1 ≤ e.2.length ∧ e.2.length ≤ m) ⟨[], _, rfl, B, XD, rfl, fun e he => absurd he List.not_mem_nil⟩ ?_ ?_ ?_
    · rintro i σ H' _ ⟨ts, f4, rfl, B, XD, _⟩
      exact SqL.of (B.at hL)
    · clear B XD
      rintro i y σ H5 hy ⟨ts, f4, rfl, B, XD, g1, g2⟩
      rw [List.getElem?_map] at hy
      obtain ⟨x, ex, rfl⟩ := Option.map_eq_some_iff.mp hy
      have tl : ts.length = i := by
        have := congrArg List.length g1
        have il := (List.getElem?_eq_some_iff.mp ex).1
        rw [List.length_map, List.length_take] at this
        omega
      have il := (List.getElem?_eq_some_iff.mp ex).1
      try simp only [gName, List.set_cons_succ, List.set_cons_zero]
      refine ⟨_, rfl, .inl ⟨rfl, _, XD.lst.choose_spec⟩, _, rfl, _, rfl, drawV (i := 2) draw7_ok B rfl rfl m1 (by omega) fun r H6 hr_ B s6 => ⟨_, _, rfl, rfl, a, c, 1 + r, 8, by rfl, B.fl, by omega, by decide, by decide, fun L2 us H7 _ hL2 hl2 W2 F7 s7 => ?_⟩⟩
      replace B := B.move F7 s7
      replace XD := (XD.move (S0 := [a, c]) B.sub n0 s6).move B.sub n0 s7
      refine ⟨L2, _, rfl, .inl ⟨SqL.of (rm_le _ _ hL2), fun tp ot htp _ => ?_⟩⟩
      replace B := (B.same (new_same htp (.frz ot (.tup (us.map V.str))))).add (TD.dp (tup_td B.al htp (dps_strs us)))
      replace XD := XD.same (new_same htp (.frz ot (.tup (us.map V.str))))
      refine ⟨by show 2 ≤ sizeLine; decide, fun q oq hq _ => ?_⟩
      have hqd := TD.dp (tup_td B.al hq (o := oq) (.cons (.str x) (.cons (dget B.E 0 rfl rfl) .nil)))
      dsimp only [tNil]
      refine rApp_X ((B.same (new_same hq _)).drop 1) (XD.same (new_same hq _)) List.mem_cons_self n0 hqd (by rw [List.length_map]; omega) fun o B XD => ?_
      refine ⟨ts ++ [(x, us)], _, rfl, B, by rw [List.map_append]; exact XD, ?_, fun e he => ?_⟩
      · rw [List.map_append, g1, take_one ex] <;> rfl
      · rcases List.mem_append.mp he with he | he
        · exact g2 e he
        · rw [List.mem_singleton.mp he]
          exact ⟨W2, by show 1 ≤ us.length; omega, by show us.length ≤ m; omega⟩
    · clear B XD
      rintro σ H5 ⟨ts, f4, rfl, B, XD, g1, g2⟩
      try dsimp only [tNil]
      rw [List.length_map, List.take_length] at g1
      have tl : ts.length = n := by
        rw [← hl, ← g1, List.length_map]
      obtain ⟨us, eD, hus⟩ := id XD
      refine ⟨_, rfl, D, us, rfl, .inl ⟨SqL.of eD, fun p o hp _ => ?_⟩⟩
      have hpd := TD.dp (tup_td B.al hp (o := o) hus)
      replace B := B.same (new_same hp (.frz o (.tup us)))
      exact k p ts _ (dp_same (rm_sub B.sub) hpd) ⟨by omega, by rw [g1]; exact W, m, m5, g2, by omega, by rw [tl]; exact hmn⟩ B.fl (s0.trans B.keep)
  · refine drawF (n := 8) draw7_ok B rfl rfl rfl fun r2 H2 _ B s2 => ⟨rfl, _, rfl, iteB (fun _ => ?_) (fun _ => join _ _ ⟨1 + r1, 3, _, _, rfl, by omega, by omega, by decide, by decide, ?_, B⟩)⟩
    · refine ⟨by show 2 ≤ sizeLine; decide, fun p o hp _ => ?_⟩
      have hpd := TD.dp (tup_td B.al hp (o := o) (.cons (.int 6) (.cons (.int 4) (.nil (K := K)))))
      replace B := (B.same (new_same hp _)).add hpd
      refine drawF (n := 2) draw7_ok B rfl rfl rfl fun r3 H3 hr3 B s3 => ix_D (dget B.E 0 rfl rfl) rfl hr3 fun e y ee hy => ?_
      replace B := B.drop 1
      have fin : ∀ (x y : Nat) (j : Nat) H4, (if decide (V.int (x : Int) = V.int 4) = true then (1 : Int) else 0) = (j : Int) → j < 2 → [3, 5][j]? = some y → 1 ≤ x → x ≤ 6 → 1 ≤ y → y ≤ 5 → y ^ x ≤ 1000 → Bl7 K a c (rmL [a, c] H) [a, c] [] [] H4 → ∀ (f3 f4 : Option V) (u : TS) (D : Ends), (∀ σ' H', (∃ (n m : Nat) (f3 f4 : Option V), σ' = [some (.ref a), some (.int n), some (.int m), f3, f4] ∧ 1 ≤ n ∧ n ≤ 6 ∧ 1 ≤ m ∧ m ≤ 5 ∧ m ^ n ≤ 1000 ∧ Bl7 K a c (rmL [a, c] H) [a, c] [] [] H') → D.nx σ' H') →
          tAsg (tOp (rBoth K) (tTupZ (tCons (tC (.int 3)) (tCons (tC (.int 5)) tNil))) (tCB (fun xs H Q => (∃ i, xs = [V.int i] ∧ Q (V.int i) H) ∨ ∃ k, xs = [V.bl k] ∧ Q (V.int (if k = true then 1 else 0)) H) (tCons (tOp rEq (tVar 1) (tC (.int 4))) tNil))) (gName 2) D [some (.ref a), some (.int (x : Int)), some (.int 3), f3, f4] H4 := by
        intro x y j H4 ej hj ey x1 x6 y1 y5 hxy B f3 f4 u D join
        refine ⟨by show 2 ≤ sizeLine; decide, fun p o hp _ => ?_⟩
        have hpd := TD.dp (tup_td B.al hp (o := o) (.cons (.int 3) (.cons (.int 5) (.nil (K := K)))))
        replace B := (B.same (new_same hp _)).add hpd
        refine ⟨_, rfl, rfl, .inr ⟨_, rfl, ?_⟩⟩
        rw [ej]
        refine ix_D (es := [.int 3, .int 5]) (dget B.E 0 rfl rfl) rfl hj fun e v ee hv => ?_
        have : e = .int (y : Int) := by
          match j, hj, ey, ee with
          | 0, _, ey, ee =>
            cases ey
            cases ee
            rfl
          | 1, _, ey, ee =>
            cases ey
            cases ee
            rfl
        subst this
        cases hv
        exact join _ _ ⟨x, y, _, _, rfl, x1, x6, y1, y5, hxy, B.drop 1⟩
      match r3, hr3, ee with
      | 0, _, ee =>
        cases ee
        cases hy
        exact fin 6 3 0 _ (by rw [if_neg (by simp)]; rfl) (by decide) rfl (by decide) (by decide) (by decide) (by decide) (by decide) B _ _ (fun _ _ _ => True) _ join
      | 1, _, ee =>
        cases ee
        cases hy
        exact fin 4 5 1 _ (by rw [if_pos (by simp)]; rfl) (by decide) rfl (by decide) (by decide) (by decide) (by decide) (by decide) B _ _ (fun _ _ _ => True) _ join
    · have : r1 + 1 ≤ 4 := by omega
      have h4 : 3 ^ (1 + r1) ≤ 3 ^ 4 := Nat.pow_le_pow_right (by decide) (by omega)
      have : 3 ^ 4 = 81 := rfl
      omega
end
end Q
set_option Elab.async false
set_option linter.all false
set_option maxRecDepth 100000
set_option maxHeartbeats 4000000
/-! ### k07 to k09: the form -/
namespace Q
open PySem L2 XD
abbrev pE7 (e : Str × Str) : PyData := .tuple [.str e.1, .str e.2]
theorem dps_pairs {K : PySem.W.Frag} {R : Hp} : ∀ {us : List V} {es : List (Str × Str)}, DpAll K R us (es.map pE7) → ∃ qs : List Addr, us = qs.map V.ref ∧ Paired (fun q (e : Str × Str) => SqT K R q [.str e.1, .str e.2]) qs es
  | _, [], h => by
    cases h
    exact ⟨[], rfl, .nil⟩
  | _, e :: es, h => by
    cases h with
    | cons a r =>
      obtain ⟨q, ys, rfl, hq, hys⟩ := TD.of a
      cases hys with
      | cons b1 hys =>
        cases hys with
        | cons b2 hys =>
          cases hys
          cases b1
          cases b2
          obtain ⟨qs, rfl, g⟩ := dps_pairs r
          exact ⟨q :: qs, rfl, .cons hq g⟩
theorem ent_tab {K : PySem.W.Frag} {H : Hp} : ∀ {ps : List V} {t : List (Str × List Str)}, DpAll K H ps (t.map entD) → (∀ e ∈ t, ∀ w ∈ e.2, word w = true) → ∃ (qs : List Addr) (kvs : List (Key × V)), ps = qs.map V.ref ∧ TabR K H qs kvs t
  | _, [], h, _ => by
    cases h
    exact ⟨[], _, rfl, .nil⟩
  | _, (n, ws) :: t, h, hw => by
    cases h with
    | cons a r =>
      obtain ⟨q, ys, rfl, hq, hys⟩ := TD.of a
      cases hys with
      | cons b1 hys =>
        cases hys with
        | cons b2 hys =>
          cases hys
          cases b1
          obtain ⟨v, us, rfl, hv, hus⟩ := TD.of b2
          obtain ⟨qs, kvs, rfl, g⟩ := ent_tab r fun e he => hw e (List.mem_cons_of_mem _ he)
          have eu := dps_str hus
          subst eu
          exact ⟨q :: qs, _, rfl, .cons hq hv (fun w h => word_ok (hw _ List.mem_cons_self w h)) g⟩
theorem sqT_b7 {K : PySem.W.Frag} {H : Hp} {a c p : Addr} {xs : List V} (F : Fl7 c H a) (h : SqT K H p xs) : SqT K (Bs7 a c H) p xs := by
  obtain ⟨ns, q, v, l, m, n, s, F⟩ := F
  have off : ∀ {o : HO}, H p = some o → (∀ l, o ≠ .lst l) → (∀ l, o ≠ .dK l) → Bs7 a c H p = some o := fun {o} e n1 n2 => by
    refine (rm_at fun z => ?_).trans e
    rcases List.mem_cons.mp z with z | z
    · rw [z, F.at_] at e
      exact n2 _ (Option.some.inj e).symm
    · rw [List.mem_singleton.mp z, F.ls] at e
      exact n1 _ (Option.some.inj e).symm
  rcases h with (h | ⟨o, h⟩) | h
  · exact .inl (.inl (off h (fun l z => by cases z) fun l z => by cases z))
  · exact .inl (.inr ⟨o, off h (fun l z => by cases z) fun l z => by cases z⟩)
  · exact .inr h
theorem tabR_b7 {K : PySem.W.Frag} {H : Hp} {a c : Addr} (F : Fl7 c H a) : ∀ {ps : List Addr} {kvs : List (Key × V)} {t : List (Str × List Str)}, TabR K H ps kvs t → TabR K (Bs7 a c H) ps kvs t
  | _, _, _, .nil => .nil
  | _, _, _, .cons h1 h2 h3 r => .cons (sqT_b7 F h1) (sqT_b7 F h2) h3 (tabR_b7 F r)
theorem form_b7 {H : Hp} {C a c x pf pr : Addr} (F : Fl7 c H a) (h : FormAt C H x pf pr) : FormAt C (Bs7 a c H) x pf pr := by
  obtain ⟨dx, e⟩ := h
  obtain ⟨ns, q, v, l, m, n, s, F⟩ := F
  refine ⟨dx, (rm_at fun z => ?_).trans e⟩
  rcases List.mem_cons.mp z with z | z
  · rw [z, F.at_] at e
    cases e
  · rw [List.mem_singleton.mp z, F.ls] at e
    cases e
theorem tab_b7 {K : PySem.W.Frag} {H : Hp} {a c pf : Addr} {t : List (Str × List Str)} (F : Fl7 c H a) (h : TabAt K H pf t) : TabAt K (Bs7 a c H) pf t := by
  obtain ⟨ps, kvs, ⟨o, e, en⟩, z2, z3⟩ := h
  have z2 := tabR_b7 F z2
  obtain ⟨ns, q, v, l, m, n, s, F⟩ := F
  refine ⟨ps, kvs, ⟨o, (rm_at fun z => ?_).trans e, en⟩, z2, z3⟩
  rcases List.mem_cons.mp z with z | z
  · rw [z, F.at_] at e
    cases e
  · rw [List.mem_singleton.mp z, F.ls] at e
    cases e
def spSheet7 (K : PySem.W.Frag) (C : Addr) : Sp := fun vs H Q _ => ∃ (a c p : Addr) (t : List (Str × List Str)), vs = [.ref a, .ref p] ∧ Fl7 c H a ∧ Dp K (Bs7 a c H) (.ref p) (.tuple (t.map entD)) ∧ Tb7 t ∧
  ∀ (x pf pr : Addr) (H' : Hp), FormAt C (Bs7 a c H') x pf pr → TabAt K (Bs7 a c H') pf t → Fl7 c H' a → Same (Bs7 a c H) (Bs7 a c H') → Q (.ref x) H'
abbrev nSh7 : List Str := ["state", "table", "bars", "k", "start", "bar", "name", "values"]
section
variable {P : Program} {w : World} {K : PySem.W.Frag} {mg : Str → Option Value} {base : Heap}
theorem scSh7 : FnScope nSh7 ["state", "table"] (defScope sLForm) := ⟨rfl, rfl, rfl, by decide +kernel, rfl, by decide +kernel, by decide +kernel⟩
theorem ok_sheet7 {f fI C CV CM : Addr} {fd fdI : FuncData} (F : Fun K "_law_form" "_law_form" sLForm f fd) (T : Be7 mg) (M : Mk K C fI) (GI : FnOk P w K mg base (L2N.CX P w) 6 fI fdI ["self", "fields", "rules"] (spInit K C CV CM)) (bI : Binds K fdI ["self", "fields", "rules"] []) (gF : mg "Form" = some (.ref C))
    (KD : Kn P w K mg base 1 "_law_draw" ["state", "many"] spDraw7) : FnOk P w K mg base CX0 8 f fd ["state", "table"] (spSheet7 K C) := by
  obtain ⟨fD, fdD, GD, kD, bD, mD⟩ := KD.ex
  refine F.ok scSh7 (fun vs H Q E h => ?_) (fun cdv A outer s H vs Q E hr h => ?_)
  · obtain ⟨a, c, p, t, rfl, _⟩ := h
    rfl
  have hr1 := hr.mono (show 1 ≤ 7 by decide)
  refine ⟨_, pss_cons (ps_set (i := 2) scSh7.nd rfl (.inl rfl) (pe_lst pa_nil))
    (pss_cons (ps_for PassesOwn.never rfl (pi_range1 rfl T.range (pa_cons (pe_call GD hr1 (by rfl) mD kD bD .nil pass0 (pa_cons (pv 0) (pa_cons pe_int pa_nil))) pa_nil)) (pg_name (i := 3) scSh7.nd rfl (.inl rfl))
      (pss_cons (ps_set (i := 4) scSh7.nd rfl (.inl rfl) (pe_call GD hr1 (by rfl) mD kD bD .nil pass0 (pa_cons (pv 0) (pa_cons (pe_callB call_len_seq (by rfl) T.len PySem.boot_len (pa_cons (pv 1) pa_nil)) pa_nil))))
    (pss_cons (ps_set (i := 5) scSh7.nd rfl (.inl rfl) (pe_lst pa_nil))
    (pss_cons (ps_for PassesOwn.never rfl (pi_row (pe_slice (sl_tupAK K rfl) (pv 1) (po_some (pv 4)) (po_some (pe_op op_add (pe_op op_add (pv 4) pe_int) (pe_call GD hr1 (by rfl) mD kD bD .nil pass0 (pa_cons (pv 0) (pa_cons pe_int pa_nil))))))) (pg_row rfl (pgs_cons (pg_name (i := 6) scSh7.nd rfl (.inl rfl)) (pgs_cons (pg_name (i := 7) scSh7.nd rfl (.inl rfl)) pgs_nil)))
      (pss_one (ps_expr (pe_bm PySem.F.plainAttrs_list PySem.F.slot_list_append PySem.F.type_list_append mt_append (pv 5) (pa_cons (pe_tupZ (pa_cons (pv 6) (pa_cons (pe_ix (ix_both K rfl) (pv 7) (pe_call GD hr1 (by rfl) mD kD bD .nil pass0 (pa_cons (pv 0) (pa_cons (pe_callB call_len_seq (by rfl) T.len PySem.boot_len (pa_cons (pv 7) pa_nil)) pa_nil))) (fun _ _ => rfl)) pa_nil))) pa_nil)))))
    (pss_one (ps_expr (pe_bm PySem.F.plainAttrs_list PySem.F.slot_list_append PySem.F.type_list_append mt_append (pv 2) (pa_cons (pe_callTy (call_tupK K rfl) (by rfl) T.tup (by decide +kernel) (pa_cons (pv 5) pa_nil)) pa_nil))))))))
    (pss_one (ps_ret (pe_make M GI hr (by rfl) gF bI .nil passF (pa_cons (pv 1) (pa_cons (pe_callTy (call_tupK K rfl) (by rfl) T.tup (by decide +kernel) (pa_cons (pv 2) pa_nil)) pa_nil)))))), ?_⟩
  obtain ⟨a, c, p, t, rfl, Fl, hp, W, k⟩ := h
  have B : Bl7 K a c _ _ _ _ H := Blk.new flo7 Fl (.cons hp .nil)
  obtain ⟨tk, tw⟩ := W.ok
  have t6 := tk.hi
  try simp only [L2.start, gName, List.map_cons, List.map_nil, List.length_cons, List.length_nil, Nat.reduceAdd, Nat.reduceSub, List.replicate_succ, List.replicate_zero, List.cons_append, List.nil_append, List.set_cons_succ, List.set_cons_zero]
  refine asg_X B (mx_lst (es := []) (by rfl) mkl_nil) fun D oD H1 s1 nD n0 nS B XD => ?_
  have eD : L2.upd H1 D oD D = some (.lst ([].map V.ref)) := by
    obtain ⟨us, e, hu⟩ := XD
    cases hu
    exact e
  clear XD
  try simp only [gName, List.set_cons_succ, List.set_cons_zero]
  have big : (1001 : Int) < 2 ^ 62 := by decide
  have small : -(2 ^ 62 : Int) ≤ 0 := by decide
  refine drawF (n := 4) draw7_ok B rfl rfl rfl fun r1 H2 hr1_ B s2 => ⟨_, rfl, by omega, by omega, ?_⟩
  replace eD := (rm_of (s2 _ _ ((rm_at n0).trans eD))).2
  rw [Int.toNat_natCast]
  have hp := dp_same B.base hp
  have s0 := B.base
  replace B := B.rebase
  refine for_range (lo := 0) (n := r1) (fun i σ H' => ∃ (qs : List Addr) (rs : List (List (Str × Str))) (f3 f4 f5 f6 f7 : Option V), σ = [some (.ref a), some (.ref p), some (.ref D), f3, f4, f5, f6, f7] ∧ Bl7 K a c (rmL [D, a, c] H2) [D, a, c] [] [] H' ∧ H' D = some (.lst (qs.map V.ref)) ∧ Paired (RuleAt K (rmL [D, a, c] H')) qs rs ∧ rs.length = i ∧ ∀ r ∈ rs, Ban t 4 r)
    ⟨[], [], _, _, _, _, _, rfl, B.drop 1, eD, .nil, rfl, fun r hr => absurd hr List.not_mem_nil⟩ ?_ ?_
  · clear B eD s1 s2
    rintro i σ H3 hi ⟨qs, rs, f3, f4, f5, f6, f7, rfl, B, eD, hR, lr, hb⟩
    try simp only [gName, List.set_cons_succ, List.set_cons_zero]
    refine drawL draw7_ok B rfl rfl (dp_same B.base hp) rfl (by rw [List.length_map]; exact W.lo) (by rw [List.length_map]; omega) fun r2 H4 hr2 B s4 => ?_
    rw [List.length_map] at hr2
    replace eD := (rm_of (s4 _ _ ((rm_at n0).trans eD))).2
    replace hR := rules_same (rm_more B.sub s4) hR
    try simp only [gName, List.set_cons_succ, List.set_cons_zero]
    refine asg_X B (mx_lst (es := []) (by rfl) mkl_nil) fun E oE H5 s5 nE e0 eS B XE => ?_
    replace eD := s5 _ _ eD
    have DE : D ≠ E := fun z => by
      rw [z, nE] at eD
      cases eD
    replace eD := new_same nE oE _ _ eD
    replace hR := rules_same (same_in nE (new_same nE oE)) (rules_same (rm_same s5) hR)
    try simp only [gName, List.set_cons_succ, List.set_cons_zero]
    clear s4 s5 nE
    have eh : (r2 : Int) + 1 + ((0 : Nat) : Int) = (r2 : Int) + 1 := by omega
    refine .inr ⟨_, rfl, _, rfl, _, rfl, _, rfl, _, _, rfl, rfl, drawF (n := 3) draw7_ok B rfl rfl rfl fun r3 H6 hr3 B s6 => ⟨_, _, rfl, rfl, _, rfl, ?_⟩⟩
    have eh : (r2 : Int) + 1 + (r3 : Int) = ((r2 + 1 + r3 : Nat) : Int) := by omega
    rw [eh]
    have DS : D ∉ [a, c] := n0
    replace eD := (rm_of (s6 _ _ ((rm_at DS).trans eD))).2
    replace hR := rules_same (rm_more B.sub s6) hR
    replace XE := XE.move B.sub e0 s6
    refine sl_D B.al (dp_same B.base hp) (by rw [List.length_map]; omega) fun u H7 s7 hu => ?_
    replace B := B.same s7
    replace eD := s7 _ _ eD
    replace hR := rules_same (rm_same s7) hR
    replace XE := XE.same s7
    have sB := B.base
    have nw := B.nw
    replace B := B.rebase
    clear s6 s7
    have hu' : ((t.map entD).drop r2).take (r2 + 1 + r3 - r2) = ((t.drop r2).take (r3 + 1)).map entD := by
      rw [← List.map_drop, ← List.map_take]
      congr 2
      omega
    rw [hu'] at hu
    have pl : ((t.drop r2).take (r3 + 1)).length ≤ 3 := by
      rw [List.length_take]
      omega
    have pl1 : 1 ≤ ((t.drop r2).take (r3 + 1)).length := by
      rw [List.length_take, List.length_drop]
      omega
    have psub : ((t.drop r2).take (r3 + 1)).Sublist t := (List.take_sublist _ _).trans (List.drop_sublist _ _)
    generalize (t.drop r2).take (r3 + 1) = part at hu pl pl1 psub
    refine forT_D hu (fun j σ' H' => ∃ (r : List (Str × Str)) (f6 f7 : Option V), σ' = [some (.ref a), some (.ref p), some (.ref D), some (.int (0 + (i : Nat))), some (.int (r2 : Nat)), some (.ref E), f6, f7] ∧ Bl7 K a c (rmL [E, D, a, c] H7) [E, D, a, c] [] [] H' ∧ H' D = some (.lst (qs.map V.ref)) ∧ Paired (RuleAt K (rmL [E, D, a, c] H')) qs rs ∧ Lx K [E, D, a, c] E (r.map pE7) H' ∧ r.map (·.1) = (part.map (·.1)).take j ∧ ∀ x ∈ r, ∃ ws, (x.1, ws) ∈ t ∧ x.2 ∈ ws)
      ⟨[], _, _, rfl, B, eD, hR, XE, rfl, fun x hx => absurd hx List.not_mem_nil⟩ (fun j σ' H' ⟨_, _, _, _, B, _⟩ => B.base) ?_ ?_
    · clear B eD hR XE
      rintro j e y σ' H8 he hy ⟨r, f6, f7, rfl, B, eD, hR, XE, g1, g2⟩
      rw [List.getElem?_map] at he
      obtain ⟨⟨n, ws⟩, ex, rfl⟩ := Option.map_eq_some_iff.mp he
      have mt := psub.subset (List.mem_of_getElem? ex)
      obtain ⟨wv, w1, _⟩ := tk.vs _ mt
      obtain ⟨q1, ys, rfl, hq1, hys⟩ := TD.of hy
      cases hys with
      | @cons y1 _ _ _ b1 hys =>
      cases hys with
      | @cons y2 _ _ _ b2 hys =>
      cases hys
      cases b1
      refine .inl ⟨q1, [.str n, y2], rfl, seqT_same rm_le hq1, rfl, .str n, [y2], rfl, y2, [], rfl, rfl, ?_⟩
      try simp only [gName, List.set_cons_succ, List.set_cons_zero]
      refine ⟨_, rfl, .inl ⟨rfl, _, XE.lst.choose_spec⟩, _, rfl, pickF draw7_ok B rfl rfl b2 rfl (by rw [List.length_map]; exact w1) (by rw [List.length_map]; have := (tk.vs _ mt).2.2; omega) fun r4 d v H9 hd B s9 => ?_⟩
      rw [List.getElem?_map] at hd
      obtain ⟨wd, ewd, rfl⟩ := Option.map_eq_some_iff.mp hd
      replace eD := (rm_of (s9 _ _ ((rm_at DS).trans eD))).2
      replace hR := rules_same (rm_more B.sub s9) hR
      replace XE := XE.move B.sub e0 s9
      refine ⟨by show 2 ≤ sizeLine; decide, fun z o hz _ => ?_⟩
      have hzd := TD.dp (tup_td B.al hz (o := o) (.cons (.str n) (.cons (dget B.E 0 rfl rfl) .nil)))
      replace eD := new_same hz (.frz o (.tup [.str n, v])) _ _ eD
      replace hR := rules_same (rm_same (new_same hz (.frz o (.tup [.str n, v])))) hR
      have rl : r.length ≤ 3 := by
        have := congrArg List.length g1
        rw [List.length_map, List.length_take, List.length_map] at this
        omega
      dsimp only [tNil]
      refine rApp_X ((B.same (new_same hz _)).drop 1) (XE.same (new_same hz _)) List.mem_cons_self e0 hzd (by rw [List.length_map]; omega) fun o B XE => ?_
      refine ⟨r ++ [(n, wd)], _, _, rfl, B, ?_, ?_, by rw [List.map_append]; exact XE, ?_, fun x hx => ?_⟩
      · rw [upd_ne DE]
        exact eD
      · rw [rm_put List.mem_cons_self]
        exact hR
      · rw [List.map_append, g1, take_one (by rw [List.getElem?_map, ex] <;> rfl)] <;> rfl
      · rcases List.mem_append.mp hx with hx | hx
        · exact g2 x hx
        · rw [List.mem_singleton.mp hx]
          exact ⟨ws, mt, List.mem_of_getElem? ewd⟩
    · clear B eD hR XE
      rintro σ' H8 ⟨r, f6, f7, rfl, B, eD, hR, XE, g1, g2⟩
      rw [List.length_map, ← List.length_map (f := fun e : Str × List Str => e.1), List.take_length] at g1
      have rl : r.length = part.length := by
        have := congrArg List.length g1
        rw [List.length_map, List.length_map] at this
        exact this
      obtain ⟨us, eE, hus⟩ := id XE
      obtain ⟨es, rfl, hes⟩ := dps_pairs hus
      try dsimp only
      refine ⟨_, rfl, .inl ⟨rfl, _, SqL.of eD⟩, _, rfl, E, _, rfl, .inl ⟨SqL.of eE, fun z o hz hno => ?_⟩⟩
      have zD : D ≠ z := fun h => by
        rw [h, hz] at eD
        cases eD
      have sz := new_same hz (.frz o (.tup (es.map V.ref)))
      have hrow : RuleAt K (rmL [E, D, a, c] (L2.upd H8 z (.frz o (.tup (es.map V.ref))))) z r := ⟨es, ⟨o, rm_new B.al hz, hno⟩, prd_imp (fun _ _ h => seqT_same (rm_same sz) h) hes⟩
      replace B := (B.same sz).back sB nw
      replace eD := sz _ _ eD
      replace hR := rules_same (rm_same sz) hR
      have ql := prd_len hR
      generalize L2.upd H8 z (.frz o (.tup (es.map V.ref))) = H9 at hrow B eD hR
      dsimp only [tNil]
      refine ⟨D, qs.map V.ref, .ref z, rfl, rfl, eD, small1000 (by rw [List.length_map]; omega), ?_⟩
      replace B := B.put (o := .lst (qs.map V.ref ++ [.ref z])) (List.mem_cons_of_mem _ List.mem_cons_self) n0
      have rp : rmL [E, D, a, c] (L2.upd H9 D (.lst (qs.map V.ref ++ [.ref z]))) = rmL [E, D, a, c] H9 := rm_put (List.mem_cons_of_mem _ List.mem_cons_self)
      have sub3 : Same (rmL [E, D, a, c] H9) (rmL [D, a, c] (L2.upd H9 D (.lst (qs.map V.ref ++ [.ref z])))) := by
        rw [← rp]
        exact rm_sub fun x hx => List.mem_cons_of_mem _ hx
      refine ⟨qs ++ [z], rs ++ [r], _, _, _, _, _, rfl, B.sub1 (fun x hx => List.mem_cons_of_mem _ hx) (fun x hx => List.mem_cons_of_mem _ hx), ?_, ?_, by rw [List.length_append, lr] <;> rfl, fun x hx => ?_⟩
      · rw [upd_same, List.map_append] <;> rfl
      · exact prd_snoc (rules_same sub3 hR) (by
          obtain ⟨es, ⟨o, e1, e2⟩, g⟩ := hrow
          exact ⟨es, ⟨o, sub3 _ _ e1, e2⟩, prd_imp (fun _ _ h => seqT_same sub3 h) g⟩)
      · rcases List.mem_append.mp hx with hx | hx
        · exact hb x hx
        · rw [List.mem_singleton.mp hx]
          refine ⟨by omega, by omega, ?_, g2⟩
          rw [g1]
          exact List.Nodup.sublist (psub.map _) W.nm.1
  · clear B eD s1 s2
    rintro σ H3 ⟨qs, rs, f3, f4, f5, f6, f7, rfl, B, eD, hR, lr, hb⟩
    try dsimp only [tNil]
    refine ⟨_, rfl, _, rfl, D, _, rfl, .inl ⟨SqL.of eD, fun z o hz hno => ?_⟩⟩
    have s4 := new_same hz (.frz o (.tup (qs.map V.ref)))
    obtain ⟨q, ys, eq_, hq, hys⟩ := TD.of (dp_same B.base hp)
    cases eq_
    obtain ⟨ps, kvs, rfl, g⟩ := ent_tab hys fun e he => (tk.vs e he).1.2
    obtain ⟨dF, dR, _, _, hand⟩ := hand_of (K := K) (H := L2.upd H3 z (.frz o (.tup (qs.map V.ref)))) (p := p) (q := z) (t := t) (rs := rs) ⟨.inr (seqT_same s4 (seqT_same rm_le hq)), (g.same rm_le).same s4⟩ ⟨.inr (.inl (.inr ⟨o, upd_same⟩)), rules_same s4 (rules_same rm_le hR)⟩
    replace B := B.same s4
    generalize L2.upd H3 z (.frz o (.tup (qs.map V.ref))) = H4 at hand B
    refine fun x dx hx hdx hne => init_good ⟨tk, hb, by omega, tw⟩ hand hx hdx hne fun pf pr H5 s5 f1 f2 f3 => ⟨rfl, ?_⟩
    replace B := B.same s5
    exact k x pf pr H5 (form_b7 B.fl f1) (tab_b7 B.fl f2) B.fl (s0.trans B.keep)
end
end Q
set_option Elab.async false
set_option linter.all false
set_option maxRecDepth 100000
set_option maxHeartbeats 4000000
/-! ### texts of words (as in SE6, for laws without it) -/
namespace Q
open PySem L2 XD
def AllW (ws : List Str) : Prop := ∀ x ∈ ws, word x = true
abbrev blank : Str := " "
def joinW (ws : List Str) : Str := Txt.join blank ws
theorem az_32 : az 32 = false := by decide +kernel
theorem word_32 {x : Str} (h : word x = true) : 32 ∉ TL.tl x := fun z => by
  have := List.all_eq_true.mp (word_iff.mp h).2.2 32 z
  rw [az_32] at this
  cases this
theorem split_any {ws : List Str} (hne : ws ≠ []) (h : ∀ x ∈ ws, 32 ∉ TL.tl x) : Txt.split (joinW ws) blank = ws := TL.split_join (s := 32) (S := []) (by decide +kernel) (by decide +kernel) hne h
theorem split_W {ws : List Str} (hne : ws ≠ []) (h : AllW ws) : Txt.split (joinW ws) blank = ws := split_any hne fun x hx => word_32 (h x hx)
theorem joinL_len : ∀ ps : List (List Nat), (TL.joinL [32] ps).length ≤ (ps.map (·.length + 1)).sum
  | [] => Nat.zero_le _
  | [p] => by
    show p.length ≤ _
    simp
  | p :: q :: r => by
    show (p ++ ([32] ++ TL.joinL [32] (q :: r))).length ≤ _
    have ih := joinL_len (q :: r)
    rw [List.length_append, List.length_append, List.length_singleton, List.map_cons, List.sum_cons]
    omega
theorem sum_le : ∀ {ws : List Str}, AllW ws → ((ws.map TL.tl).map (·.length + 1)).sum ≤ 9 * ws.length
  | [], _ => Nat.zero_le _
  | x :: ws, h => by
    have ih := sum_le (ws := ws) fun y hy => h y (List.mem_cons_of_mem _ hy)
    have h8 := word_len (h x List.mem_cons_self)
    have l0 : (TL.tl x).length = x.length := tlx_len x
    rw [List.map_cons, List.map_cons, List.sum_cons, List.length_cons]
    omega
theorem joinW_len {ws : List Str} (h : AllW ws) : (joinW ws).length ≤ 9 * ws.length := by
  have e : TL.tl (joinW ws) = TL.joinL [32] (ws.map TL.tl) := by
    unfold joinW
    rw [TL.join_eq, TL.tl_join]
    rfl
  have l0 : (TL.tl (joinW ws)).length = (joinW ws).length := tlx_len _
  rw [← l0, e]
  exact Nat.le_trans (joinL_len _) (sum_le h)
theorem text_W {ws : List Str} (hne : ws ≠ []) (h : AllW ws) : text (joinW ws) = true := by
  unfold text
  have e : Txt.split (joinW ws) " " = ws := split_W hne h
  rw [e]
  exact List.all_eq_true.mpr h
theorem words_W {ws : List Str} (hne : ws ≠ []) (h : AllW ws) : wordsOf (joinW ws) = ws := split_W hne h
theorem lens_le : ∀ {ws : List Str}, AllW ws → (ws.map (·.length)).sum ≤ 8 * ws.length
  | [], _ => Nat.zero_le _
  | x :: ws, h => by
    have ih := lens_le (ws := ws) fun y hy => h y (List.mem_cons_of_mem _ hy)
    have h8 := word_len (h x List.mem_cons_self)
    rw [List.map_cons, List.sum_cons, List.length_cons]
    omega
end Q
set_option Elab.async false
set_option linter.all false
set_option maxRecDepth 100000
set_option maxHeartbeats 4000000
/-! ### k07 to k09: acts, texts, phrases -/
namespace Q
open PySem L2 XD
theorem floA {S : List Addr} : Flo S (Alive S) := ⟨fun h => h, fun {H H'} hx h x hm => by
  rw [hx x hm]
  exact h x hm⟩
def Act7 (t : List (Str × List Str)) (ws : List Str) : Prop := ws = [("yes" : Str)] ∨ ws = [("no" : Str)] ∨ ∃ e ∈ t, ws = [("drop" : Str), e.1] ∨ ∃ w ∈ e.2, ws = [("set" : Str), e.1, w] ∨ ws = [("not" : Str), e.1, w]
abbrev actD (ws : List Str) : PyData := .tuple (ws.map PyData.str)
def spActs7 (K : PySem.W.Frag) : Sp := fun vs H Q _ => ∃ (S : List Addr) (p : Addr) (t : List (Str × List Str)), vs = [.ref p] ∧ Alive S H ∧ Dp K (rmL S H) (.ref p) (.tuple (t.map entD)) ∧ Tb7 t ∧
  ∀ (v : V) (as : List (List Str)) (H' : Hp), Same H H' → Dp K (rmL S H') v (.list (as.map actD)) → 1 ≤ as.length → as.length ≤ 100 → (∀ w ∈ as, Act7 t w) → Q v H'
theorem call_lenE7 {X : Cx} (K : PySem.W.Frag) (h : X.K = K) : CallR X (.builtin "len") (fun xs H Q => ∃ p ys, xs = [.ref p] ∧ (SqL K H p ys ∨ SqT K H p ys) ∧ Q (.int ys.length) H) := by
  subst h
  exact call_len_seq
abbrev nAc7 : List Str := ["table", "acts", "name", "values", "value"]
theorem strs_dp7 {K : PySem.W.Frag} {H : Hp} {p : Addr} {ws : List Str} (h : H p = some (.lst (ws.map V.str))) : Dp K H (.ref p) (.list (ws.map PyData.str)) := .lst (SqL.of h) (dps_strs _)
def spSpok7 (K : PySem.W.Frag) : Sp := fun vs H Q _ => ∃ (a c p : Addr) (pool : List Str) (m : Nat), vs = [.ref a, .ref p, .int m] ∧ Fl7 c H a ∧ Bs7 a c H p = some (.lst (pool.map V.str)) ∧ 1 ≤ pool.length ∧ pool.length ≤ 100 ∧ AllW pool ∧ 1 ≤ m ∧ m ≤ 6 ∧
  ∀ (ws : List Str) (H' : Hp), ws ≠ [] → ws.length ≤ m → AllW ws → Fl7 c H' a → Same (Bs7 a c H) (Bs7 a c H') → Q (.str (joinW ws)) H'
abbrev nSp7 : List Str := ["state", "pool", "most", "k"]
section
variable {P : Program} {w : World} {K : PySem.W.Frag} {mg : Str → Option Value} {base : Heap}
theorem scAc7 : FnScope nAc7 ["table"] (defScope sLActs) := ⟨rfl, rfl, rfl, by decide +kernel, rfl, by decide +kernel, by decide +kernel⟩
theorem scSp7 : FnScope nSp7 ["state", "pool", "most"] (defScope sLSpoken) := ⟨rfl, rfl, rfl, by decide +kernel, rfl, by decide +kernel, by decide +kernel⟩
theorem ok_acts7 {f : Addr} {fd : FuncData} (F : Fun K "_law_acts" "_law_acts" sLActs f fd) (T : Be7 mg) : FnOk P w K mg base CX0 1 f fd ["table"] (spActs7 K) := by
  refine F.ok scAc7 (fun vs H Q E h => ?_) (fun cdv A outer s H vs Q E hr h => ?_)
  · obtain ⟨S, p, t, rfl, _⟩ := h
    rfl
  refine ⟨_, pss_cons (ps_set (i := 1) scAc7.nd rfl (.inl rfl) (pe_lst (pa_cons (pe_tupZ (pa_cons pe_str pa_nil)) (pa_cons (pe_tupZ (pa_cons pe_str pa_nil)) pa_nil))))
    (pss_cons (ps_for PassesOwn.never rfl (pi_row (pv 0)) (pg_row rfl (pgs_cons (pg_name (i := 2) scAc7.nd rfl (.inl rfl)) (pgs_cons (pg_name (i := 3) scAc7.nd rfl (.inl rfl)) pgs_nil)))
      (pss_cons (ps_expr (pe_bm PySem.F.plainAttrs_list PySem.F.slot_list_append PySem.F.type_list_append mt_append (pv 1) (pa_cons (pe_tupZ (pa_cons pe_str (pa_cons (pv 2) pa_nil))) pa_nil)))
    (pss_one (ps_for PassesOwn.never rfl (pi_row (pv 3)) (pg_name (i := 4) scAc7.nd rfl (.inl rfl))
      (pss_one (ps_set (i := 1) scAc7.nd rfl (.inl rfl) (pe_op op_cat (pv 1) (pe_lst (pa_cons (pe_tupZ (pa_cons pe_str (pa_cons (pv 2) (pa_cons (pv 4) pa_nil)))) (pa_cons (pe_tupZ (pa_cons pe_str (pa_cons (pv 2) (pa_cons (pv 4) pa_nil)))) pa_nil))))))))))
    (pss_one (ps_ret (pv 1)))), ?_⟩
  obtain ⟨S, p, t, rfl, A0, hp, W, k⟩ := h
  have B : Blk K S (Alive S) _ _ _ _ H := Blk.new floA A0 (.cons hp .nil)
  obtain ⟨tk, tw⟩ := W.ok
  have t6 := tk.hi
  try simp only [L2.start, gName, List.map_cons, List.map_nil, List.length_cons, List.length_nil, Nat.reduceAdd, Nat.reduceSub, List.replicate_succ, List.replicate_zero, List.cons_append, List.nil_append, List.set_cons_succ, List.set_cons_zero]
  refine asg_X B (mx_lst (es := [actD ["yes"], actD ["no"]]) (by rfl) (mkl_cons (mk_tup B.al (by rfl) (mkl_cons (mk_str "yes") mkl_nil)) (mkl_cons (mk_tup B.al (by rfl) (mkl_cons (mk_str "no") mkl_nil)) mkl_nil))) fun D oD H1 s1 nD n0 nS B XD => ?_
  try simp only [gName, List.set_cons_succ, List.set_cons_zero]
  have free : ∀ {X : Addr} {G : Hp}, Same H G → G X = none → H X = none := fun {X G} s h => by
    cases e : H X with
    | none => rfl
    | some o =>
      have := s _ _ e
      rw [h] at this
      cases this
  have hD0 := free s1 nD
  have sH := s1.trans (new_same nD oD)
  have hp1 := dget B.E 0 (v := .ref p) (d := .tuple (t.map entD)) rfl rfl
  replace B := (B.drop 1).rebase
  generalize L2.upd H1 D oD = G at B XD sH hp1
  have upS : ∀ {X : Addr} {Y : Hp} {o : HO}, Same H Y → H X = none → Same H (L2.upd Y X o) := fun {X Y o} s h x u e => by
    rw [upd_ne (ne_of_none e h)]
    exact s _ _ e
  have add3 : ∀ x ∈ D :: D :: S, x ∈ D :: S := fun x hx => (List.mem_cons.mp hx).elim (fun e => e ▸ List.mem_cons_self) id
  refine seq_for (for_D0 (i := 0) (S := D :: S) rfl hp1 rfl (fun i σ' H' => ∃ (X : Addr) (as : List (List Str)) (g2 g3 g4 : Option V), σ' = [some (.ref p), some (.ref X), g2, g3, g4] ∧ X ∉ S ∧ H X = none ∧ Same H H' ∧ Blk K S (Alive S) (rmL (D :: S) G) (X :: D :: S) [] [] H' ∧ Lx K (X :: D :: S) X (as.map actD) H' ∧ 1 ≤ as.length ∧ as.length ≤ 2 + 11 * i ∧ ∀ w ∈ as, Act7 t w)
    ⟨D, [[("yes" : Str)], [("no" : Str)]], _, _, _, rfl, n0, hD0, sH, B.sub1 add3 (fun x hx => List.mem_cons_of_mem _ (List.mem_cons_of_mem _ hx)), XD.sub add3, by decide, by decide, fun w hw => ?_⟩ (fun i σ' H' ⟨_, _, _, _, _, _, _, _, s, B, _⟩ => B.base.trans (rm_sub fun x hx => List.mem_cons_of_mem _ hx)) ?_ ?_)
  · simp only [List.mem_cons, List.not_mem_nil, or_false] at hw
    rcases hw with rfl | rfl
    · exact .inl rfl
    · exact .inr (.inl rfl)
  · clear B XD sH
    rintro i e y σ' H2 he hy ⟨X, as, g2, g3, g4, rfl, n0, hX, s2, B, XX, l1, l2, ha⟩
    rw [List.getElem?_map] at he
    obtain ⟨⟨n, ws⟩, ex, rfl⟩ := Option.map_eq_some_iff.mp he
    have mt := List.mem_of_getElem? ex
    have il := (List.getElem?_eq_some_iff.mp ex).1
    obtain ⟨wv, w1, w5⟩ := tk.vs _ mt
    have w5' : ws.length ≤ 5 := w5
    obtain ⟨q1, ys, rfl, hq1, hys⟩ := TD.of hy
    cases hys with
    | @cons y1 _ _ _ b1 hys =>
    cases hys with
    | @cons y2 _ _ _ b2 hys =>
    cases hys
    cases b1
    refine .inl ⟨q1, [.str n, y2], rfl, seqT_same (B.base.trans rm_le) hq1, rfl, .str n, [y2], rfl, y2, [], rfl, rfl, ?_⟩
    try simp only [gName, List.set_cons_succ, List.set_cons_zero]
    refine app_X B (by rfl) XX List.mem_cons_self n0 (mk_tup B.al (by rfl) (mkl_cons (mk_str "drop") (mkl_cons (mk_var (i := 2) (by rfl) (.str n)) mkl_nil))) (by rw [List.length_map]; omega) fun o H3 s3 B XX => ?_
    replace s2 := upS (o := o) (s2.trans s3) hX
    replace XX : Lx K (X :: D :: S) X ((as ++ [[("drop" : Str), n]]).map actD) (L2.upd H3 X o) := by
      rw [List.map_append]
      exact XX
    have ha : ∀ w ∈ as ++ [[("drop" : Str), n]], Act7 t w := fun w hw => by
      rcases List.mem_append.mp hw with hw | hw
      · exact ha w hw
      · rw [List.mem_singleton.mp hw]
        exact .inr (.inr ⟨_, mt, .inl rfl⟩)
    have l3 : (as ++ [[("drop" : Str), n]]).length = as.length + 1 := by rw [List.length_append] <;> rfl
    generalize as ++ [[("drop" : Str), n]] = as1 at XX ha l3
    have sR := B.base
    have nwX := B.nw
    generalize L2.upd H3 X o = G1 at B XX s2 sR
    replace B := B.rebase
    have hy2 := dp_same sR b2
    have add4 : ∀ x ∈ X :: X :: D :: S, x ∈ X :: D :: S := fun x hx => (List.mem_cons.mp hx).elim (fun e => e ▸ List.mem_cons_self) id
    refine for_D0 (i := 3) (S := X :: D :: S) (es := ws.map PyData.str) (by rfl) hy2 rfl (fun j σ' H' => ∃ (Y : Addr) (as : List (List Str)) (g4 : Option V), σ' = [some (.ref p), some (.ref Y), some (.str n), some y2, g4] ∧ Y ∉ S ∧ H Y = none ∧ Same H H' ∧ Blk K S (Alive S) (rmL (X :: D :: S) G1) (Y :: X :: D :: S) [] [] H' ∧ Lx K (Y :: X :: D :: S) Y (as.map actD) H' ∧ 1 ≤ as.length ∧ as.length ≤ as1.length + 2 * j ∧ ∀ w ∈ as, Act7 t w)
      ⟨X, as1, _, rfl, n0, hX, s2, B.sub1 add4 (fun x hx => List.mem_cons_of_mem _ (List.mem_cons_of_mem _ (List.mem_cons_of_mem _ hx))), XX.sub add4, by omega, by omega, ha⟩ (fun i σ' H' ⟨_, _, _, _, _, _, s, B, _⟩ => B.base.trans (rm_sub fun x hx => List.mem_cons_of_mem _ hx)) ?_ ?_
    · clear B XX s2 ha
      rintro j e v σ' H4 he hv ⟨Y, as2, g4, rfl, m0, hY, s2, B, XY, k1, k2, ha⟩
      rw [List.getElem?_map] at he
      obtain ⟨wd, ew, rfl⟩ := Option.map_eq_some_iff.mp he
      have jl := (List.getElem?_eq_some_iff.mp ew).1
      cases hv
      try simp only [gName, List.set_cons_succ, List.set_cons_zero]
      show tAsg _ (gName 1) _ _ _
      refine asg_X1 B (mx_cat (es := [actD ["set", n, wd], actD ["not", n, wd]]) (me_var (by rfl) XY) (me_new (mx_lst (by rfl) (mkl_cons (mk_tup B.al (by rfl) (mkl_cons (mk_str "set") (mkl_cons (mk_var (i := 2) (by rfl) (.str n)) (mkl_cons (mk_var (i := 4) (by rfl) (.str wd)) mkl_nil)))) (mkl_cons (mk_tup B.al (by rfl) (mkl_cons (mk_str "not") (mkl_cons (mk_var (i := 2) (by rfl) (.str n)) (mkl_cons (mk_var (i := 4) (by rfl) (.str wd)) mkl_nil)))) mkl_nil)))) (by rw [List.length_map]; show _ + 2 ≤ 1000; omega)) fun Z oZ H5 s5 nZ z0 zS B XZ => ?_
      have hZ := free (s2.trans s5) nZ
      have subZ : ∀ x ∈ Z :: X :: D :: S, x ∈ Z :: Y :: X :: D :: S := fun x hx => (List.mem_cons.mp hx).elim (fun e => e ▸ List.mem_cons_self) fun h => List.mem_cons_of_mem _ (List.mem_cons_of_mem _ h)
      refine ⟨Z, as2 ++ [[("set" : Str), n, wd], [("not" : Str), n, wd]], _, rfl, z0, hZ, (s2.trans s5).trans (new_same nZ _), B.sub1 subZ (fun x hx => List.mem_cons_of_mem _ (List.mem_cons_of_mem _ (List.mem_cons_of_mem _ hx))), ?_, ?_, ?_, fun w hw => ?_⟩
      · rw [List.map_append]
        exact XZ.sub subZ
      · rw [List.length_append]
        omega
      · rw [List.length_append]
        show _ + 2 ≤ _
        omega
      · rcases List.mem_append.mp hw with hw | hw
        · exact ha w hw
        · simp only [List.mem_cons, List.not_mem_nil, or_false] at hw
          rcases hw with rfl | rfl
          · exact .inr (.inr ⟨_, mt, .inr ⟨wd, List.mem_of_getElem? ew, .inl rfl⟩⟩)
          · exact .inr (.inr ⟨_, mt, .inr ⟨wd, List.mem_of_getElem? ew, .inr rfl⟩⟩)
    · clear B XX s2 ha
      rintro σ' H4 ⟨Y, as2, g4, rfl, m0, hY, s2, B, XY, k1, k2, ha⟩
      rw [List.length_map] at k2
      have w5' : ws.length ≤ 5 := w5
      have subY : ∀ x ∈ Y :: D :: S, x ∈ Y :: X :: D :: S := fun x hx => (List.mem_cons.mp hx).elim (fun e => e ▸ List.mem_cons_self) fun h => List.mem_cons_of_mem _ (List.mem_cons_of_mem _ h)
      refine ⟨Y, as2, _, _, _, rfl, m0, hY, s2, (B.back sR fun x hx h0 => ?_).sub1 subY (fun x hx => List.mem_cons_of_mem _ (List.mem_cons_of_mem _ hx)), XY.sub subY, k1, by omega, ha⟩
      rcases List.mem_cons.mp hx with rfl | hx
      · cases e : (rmL (D :: S) G) x with
        | none => rfl
        | some o =>
          have := B.nw x List.mem_cons_self m0
          rw [sR _ _ e] at this
          cases this
      · exact nwX x hx h0
  · rintro σ' H2 ⟨X, as, g2, g3, g4, rfl, n0, hX, s2, B, XX, l1, l2, ha⟩
    rw [List.length_map] at l2
    try dsimp only
    exact ⟨_, rfl, k (.ref X) as H2 s2 (XX.dp (S0 := S) B.sub n0) l1 (by omega) ha⟩
theorem ok_spok7 {f : Addr} {fd : FuncData} (F : Fun K "_law_spoken" "_law_spoken" sLSpoken f fd) (T : Be7 mg) (KD : Kn P w K mg base 1 "_law_draw" ["state", "many"] spDraw7) : FnOk P w K mg base CX0 2 f fd ["state", "pool", "most"] (spSpok7 K) := by
  obtain ⟨fD, fdD, GD, kD, bD, mD⟩ := KD.ex
  refine F.ok scSp7 (fun vs H Q E h => ?_) (fun cdv A outer s H vs Q E hr h => ?_)
  · obtain ⟨a, c, p, pool, m, rfl, _⟩ := h
    rfl
  refine ⟨_, pss_one (ps_ret (pe_join pe_str (pe_lc (own := [("k", 3)]) (g := gName 3) (tt := tYes) (by rfl) scSp7.nd (pi_range1 rfl T.range (pa_cons (pe_op op_add pe_int (pe_call GD hr (by rfl) mD kD bD .nil pass0 (pa_cons (pv 0) (pa_cons (pv 2) pa_nil)))) pa_nil)) (blkOk_by (N := nSp7) (sc := defScope sLSpoken) (by decide +kernel)) (fun _ _ _ _ _ => (pg_name (i := 3) scSp7.nd rfl (.inl rfl))) (fun _ _ _ _ _ => pts_nil) (fun _ _ _ _ _ => (pe_ix (ix_both K rfl) (pv 1) (pe_call GD hr (by rfl) mD kD bD .nil pass0 (pa_cons (pv 0) (pa_cons (pe_callB (call_lenE7 K rfl) (by rfl) T.len PySem.boot_len (pa_cons (pv 1) pa_nil)) pa_nil))) (fun _ _ => rfl)))))), ?_⟩
  obtain ⟨a, c, p, pool, m, rfl, Fl, hp, h1, h100, hw, m1, m6, k⟩ := h
  have npl : (pool.map V.str).length = pool.length := List.length_map _
  have B : Bl7 K a c _ _ _ _ H := Blk.new flo7 Fl .nil
  try simp only [L2.start, gName, List.map_cons, List.map_nil, List.length_cons, List.length_nil, Nat.reduceAdd, Nat.reduceSub, List.replicate_succ, List.replicate_zero, List.cons_append, List.nil_append, List.set_cons_succ, List.set_cons_zero]
  have big : (1001 : Int) < 2 ^ 62 := by decide
  have small : -(2 ^ 62 : Int) ≤ 0 := by decide
  refine ⟨⟨_, rfl⟩, drawV (i := 2) draw7_ok B rfl rfl m1 (by omega) fun r H1 hr1 B s1 => ⟨_, _, rfl, rfl, _, rfl, by omega, by omega, fun D hD => ?_⟩⟩
  have en : ((1 : Int) + (r : Int)).toNat = r + 1 := by omega
  rw [en]
  have D0 := B.out hD
  refine lc_range (lo := 0) (n := r + 1) (fun i H' => ∃ ws : List Str, Bl7 K a c (rmL [a, c] H) [D, a, c] [] [] H' ∧ Lx K [D, a, c] D (ws.map PyData.str) H' ∧ ws.length = i ∧ AllW ws) ⟨[], B.enter hD, ⟨[], upd_same, .nil⟩, rfl, fun x hx => absurd hx List.not_mem_nil⟩ (fun i H2 hi hP => ?_) (fun H2 hP => ?_)
  · obtain ⟨ws, B, X, g2, g3⟩ := hP
    refine ⟨rfl, ?_⟩
    unfold tYes
    have hpp := B.keep _ _ hp
    refine iteT ⟨_, rfl, drawL draw7_ok B rfl rfl (strs_dp7 (B.base _ _ hp)) rfl (by rw [List.length_map]; exact h1) (by rw [List.length_map]; omega) fun q H3 hq B s3 => ?_⟩
    rw [List.length_map] at hq
    have e : pool[q]? = some pool[q] := List.getElem?_eq_getElem hq
    have hw3 := hw _ (List.getElem_mem hq)
    generalize pool[q] = y at e hw3
    replace X := X.move B.sub D0 s3
    refine ix_row (.inl (SqL.of (B.at hp))) (at_of rfl (by rw [List.getElem?_map, e] <;> rfl)) ?_
    obtain ⟨us, eD, hus⟩ := id X
    have lu := dps_len hus
    refine ⟨us, eD, small1000 (by rw [lu, List.length_map]; omega), ws ++ [y], B.put List.mem_cons_self D0, ⟨us ++ [.str y], upd_same, ?_⟩, by rw [List.length_append, g2] <;> rfl, fun x hx => ?_⟩
    · rw [rm_put List.mem_cons_self, List.map_append]
      exact dps_app hus (.cons (.str y) .nil)
    · rcases List.mem_append.mp hx with hx | hx
      · exact g3 x hx
      · rw [List.mem_singleton.mp hx]
        exact hw3
  · obtain ⟨ws, B, X, g2, g3⟩ := hP
    have hne : ws ≠ [] := fun z => by rw [z] at g2; cases g2
    refine ⟨_, D, ws, rfl, rfl, .inl (SqL.of X.strs), ?_, k ws H2 hne (by omega) g3 B.fl B.keep⟩
    have := lens_le g3
    have e1 : Str.length blank = 1 := rfl
    show (ws.map (·.length)).sum + ws.length * Str.length blank ≤ 16777216
    rw [e1]
    omega
end
end Q
set_option Elab.async false
set_option linter.all false
set_option maxRecDepth 100000
set_option maxHeartbeats 4000000
/-! ### good and bad phrases over a table (as in SF2, SF6, SF9, with other bounds) -/
namespace Q
open PySem L2 XD XN
theorem eqv_texts : ∀ a b : List Str, PyData.eqvAll (a.map PyData.str) (b.map PyData.str) = decide (a = b)
  | [], [] => by simp [PyData.eqvAll]
  | [], _ :: _ => by simp [PyData.eqvAll]
  | _ :: _, [] => by simp [PyData.eqvAll]
  | x :: a, y :: b => by
    rw [List.map_cons, List.map_cons, PyData.eqvAll, eqv_texts a b, PyData.eqv]
    by_cases h1 : x = y
    · by_cases h2 : a = b
      · simp [h1, h2]
      · simp [h1, h2]
    · simp [h1]
theorem tl_joinW (ws : List Str) : tlx (joinW ws) = TL.joinL [32] (ws.map TL.tl) := by
  unfold joinW
  show TL.tl _ = _
  rw [TL.join_eq, TL.tl_join]
  rfl
theorem tupS_shaped {ws : List Str} (h : ∀ w ∈ ws, PyData.strOk w = true) : SeqAt.shaped (.tuple (ws.map PyData.str)) = true := by
  unfold SeqAt.shaped
  have h1 := lay_strs ws h
  have h2 : ∀ ws : List Str, PyData.depthAll (ws.map PyData.str) = 0 := by
    intro ws
    induction ws with
    | nil => rfl
    | cons w ws ih => rw [List.map_cons, PyData.depthAll, ih] <;> rfl
  rw [PyData.canLay0, h1, Bool.true_and]
  refine decide_eq_true ?_
  rw [PyData.depth, h2]
  decide
/-- what a good grid is -/
structure GridOk (t : List (Str × List Str)) : Prop where
  lo : 1 ≤ t.length
  hi : t.length ≤ 6
  nm : ∀ e ∈ t, word e.1 = true ∧ 1 ≤ e.2.length ∧ e.2.length ≤ 5 ∧ e.2.Nodup ∧ AllW e.2
  nd : (t.map (·.1)).Nodup
def ActOf (t : List (Str × List Str)) (ws : List Str) : Prop := ws = [("yes" : Str)] ∨ ws = [("no" : Str)] ∨ ∃ e ∈ t, ws = [("drop" : Str), e.1] ∨ ∃ w ∈ e.2, ws = [("set" : Str), e.1, w] ∨ ws = [("not" : Str), e.1, w]
/-- a phrase of the law: its text, its act -/
abbrev Li := Str × List Str
abbrev lineD (l : Li) : PyData := .tuple [.str l.1, .tuple (l.2.map PyData.str)]
def LinesAt (K : PySem.W.Frag) (H : Hp) (R : Addr) (ls : List Li) : Prop := ∃ vs : List V, H R = some (.lst vs) ∧ DpAll K H vs (ls.map lineD)
theorem LinesAt.same {K : PySem.W.Frag} {H H' : Hp} {R : Addr} {ls : List Li} (s : Same H H') (h : LinesAt K H R ls) : LinesAt K H' R ls := by
  obtain ⟨vs, a, b⟩ := h
  exact ⟨vs, s _ _ a, dps_same s b⟩
theorem LinesAt.dp {K : PySem.W.Frag} {H : Hp} {R : Addr} {ls : List Li} (h : LinesAt K H R ls) : Dp K H (.ref R) (.list (ls.map lineD)) := by
  obtain ⟨vs, a, b⟩ := h
  exact .lst (SqL.of a) b
def LiOk (t : List (Str × List Str)) (m : Nat) (l : Li) : Prop := (∃ ws : List Str, ws ≠ [] ∧ ws.length ≤ m ∧ AllW ws ∧ l.1 = joinW ws) ∧ ActOf t l.2
theorem eqv_line (a b : Li) : PyData.eqv (lineD a) (lineD b) = decide (a = b) := by
  obtain ⟨x, u⟩ := a
  obtain ⟨y, v⟩ := b
  rw [PyData.eqv, PyData.eqvAll, PyData.eqvAll, PyData.eqvAll, PyData.eqv, PyData.eqv, eqv_texts]
  by_cases h1 : x = y
  · by_cases h2 : u = v
    · rw [decide_eq_true (show ((x, u) : Li) = (y, v) by rw [h1, h2])]
      simp [h1, h2]
    · rw [decide_eq_false (show ¬ ((x, u) : Li) = (y, v) from fun z => h2 (Prod.mk.inj z).2)]
      simp [h2]
  · rw [decide_eq_false (show ¬ ((x, u) : Li) = (y, v) from fun z => h1 (Prod.mk.inj z).1)]
    simp [h1]
theorem any_line (l : List Li) (p : Li) : ((l.map lineD).any fun z => PyData.eqv z (lineD p)) = decide (p ∈ l) := by
  rw [List.any_map, Bool.eq_iff_iff, List.any_eq_true, decide_eq_true_iff]
  constructor
  · rintro ⟨x, hx, e⟩
    have e2 : PyData.eqv (lineD x) (lineD p) = true := e
    rw [eqv_line] at e2
    rw [← of_decide_eq_true e2]
    exact hx
  · intro h
    refine ⟨p, h, ?_⟩
    show PyData.eqv (lineD p) (lineD p) = true
    rw [eqv_line]
    exact decide_eq_true rfl
theorem ok_joinW {ws : List Str} (h : AllW ws) : PyData.strOk (joinW ws) = true := by
  unfold PyData.strOk
  rw [← Array.all_toList]
  refine List.all_eq_true.mpr fun c hc => decide_eq_true ?_
  have hc : c ∈ tlx (joinW ws) := hc
  rw [tl_joinW] at hc
  have all : ∀ ps : List (List Nat), (∀ p ∈ ps, ∀ c ∈ p, c < 0x110000) → ∀ c ∈ TL.joinL [32] ps, c < 0x110000 := by
    intro ps
    induction ps with
    | nil => intro _ c hc; exact absurd hc List.not_mem_nil
    | cons p ps ih =>
      intro h c hc
      cases ps with
      | nil => exact h p List.mem_cons_self c hc
      | cons q r =>
        have hc : c ∈ p ++ ([32] ++ TL.joinL [32] (q :: r)) := hc
        rcases List.mem_append.mp hc with hc | hc
        · exact h p List.mem_cons_self c hc
        · rcases List.mem_append.mp hc with hc | hc
          · rw [List.mem_singleton.mp hc]
            decide
          · exact ih (fun p hp => h p (List.mem_cons_of_mem _ hp)) c hc
  refine all _ (fun p hp c hc => ?_) c hc
  obtain ⟨w, hw, rfl⟩ := List.mem_map.mp hp
  exact az_small (List.all_eq_true.mp (word_iff.mp (h w hw)).2.2 c hc)
theorem act_ok {t : List (Str × List Str)} (O : GridOk t) {ws : List Str} (h : ActOf t ws) : ws.length ≤ 3 ∧ ∀ w ∈ ws, PyData.strOk w = true := by
  have k : ∀ x ∈ [("yes" : Str), "no", "drop", "set", "not"], PyData.strOk x = true := by decide +kernel
  rcases h with rfl | rfl | ⟨e, he, rfl | ⟨w, hw, rfl | rfl⟩⟩
  · exact ⟨Nat.le_of_ble_eq_true rfl, fun w hw => k w (by simp only [List.mem_cons, List.not_mem_nil, or_false] at hw ⊢; exact .inl hw)⟩
  · exact ⟨Nat.le_of_ble_eq_true rfl, fun w hw => k w (by simp only [List.mem_cons, List.not_mem_nil, or_false] at hw ⊢; exact .inr (.inl hw))⟩
  · refine ⟨Nat.le_of_ble_eq_true rfl, fun w hw => ?_⟩
    simp only [List.mem_cons, List.not_mem_nil, or_false] at hw
    rcases hw with rfl | rfl
    · exact k _ (by simp)
    · exact word_ok (O.nm e he).1
  · refine ⟨Nat.le_of_ble_eq_true rfl, fun x hx => ?_⟩
    simp only [List.mem_cons, List.not_mem_nil, or_false] at hx
    rcases hx with rfl | rfl | rfl
    · exact k _ (by simp)
    · exact word_ok (O.nm e he).1
    · exact word_ok ((O.nm e he).2.2.2.2 _ hw)
  · refine ⟨Nat.le_of_ble_eq_true rfl, fun x hx => ?_⟩
    simp only [List.mem_cons, List.not_mem_nil, or_false] at hx
    rcases hx with rfl | rfl | rfl
    · exact k _ (by simp)
    · exact word_ok (O.nm e he).1
    · exact word_ok ((O.nm e he).2.2.2.2 _ hw)
theorem line_lay {t : List (Str × List Str)} (O : GridOk t) {m : Nat} {l : Li} (h : LiOk t m l) : (lineD l).canLay0 = true := by
  obtain ⟨⟨ws, _, _, h3, h4⟩, h5⟩ := h
  have h6 := lay_strs l.2 (act_ok O h5).2
  have h7 : PyData.strOk l.1 = true := by
    rw [h4]
    exact ok_joinW h3
  simp only [PyData.canLay0, PyData.canLayAll0, h6, h7, Bool.and_true]
theorem line_depth (l : Li) : (lineD l).depth ≤ 2 := by
  have h2 : ∀ ws : List Str, PyData.depthAll (ws.map PyData.str) = 0 := by
    intro ws
    induction ws with
    | nil => rfl
    | cons w ws ih => rw [List.map_cons, PyData.depthAll, ih] <;> rfl
  simp only [PyData.depth, PyData.depthAll, h2]
  decide
theorem line_shaped {t : List (Str × List Str)} (O : GridOk t) {m : Nat} {l : Li} (h : LiOk t m l) : SeqAt.shaped (lineD l) = true := by
  unfold SeqAt.shaped
  rw [line_lay O h, Bool.true_and]
  exact decide_eq_true (Nat.le_trans (line_depth l) (by decide))
theorem lines_shaped {t : List (Str × List Str)} (O : GridOk t) {m : Nat} {ls : List Li} (h : ∀ l ∈ ls, LiOk t m l) : SeqAt.shaped (.list (ls.map lineD)) = true := by
  unfold SeqAt.shaped
  have h1 : ∀ ls : List Li, (∀ l ∈ ls, LiOk t m l) → PyData.canLayAll0 (ls.map lineD) = true := by
    intro ls
    induction ls with
    | nil => intro _; rfl
    | cons l ls ih =>
      intro h
      rw [List.map_cons, PyData.canLayAll0, line_lay O (h l List.mem_cons_self), ih fun x hx => h x (List.mem_cons_of_mem _ hx)] <;> rfl
  have h2 : ∀ ls : List Li, PyData.depthAll (ls.map lineD) ≤ 2 := by
    intro ls
    induction ls with
    | nil => exact Nat.zero_le _
    | cons l ls ih =>
      rw [List.map_cons, PyData.depthAll]
      exact Nat.max_le.mpr ⟨line_depth l, ih⟩
  rw [PyData.canLay0, h1 ls h, Bool.true_and]
  refine decide_eq_true ?_
  have := h2 ls
  rw [PyData.depth]
  omega
abbrev o9 : Str := "aaaaaaaaa"
def BadAct (t : List (Str × List Str)) (d : PyData) : Prop := isAct t d = false ∧ AOk d
def BadLines (t : List (Str × List Str)) (d : PyData) : Prop := isPhrases t d = false ∧ PsOk d
theorem sh_str {x : Str} (h : PyData.strOk x = true) : SeqAt.shaped (.str x) = true := by
  unfold SeqAt.shaped
  rw [PyData.canLay0, h, Bool.true_and]
  exact decide_eq_true (by rw [PyData.depth]; decide)
theorem aok_no {d : PyData} (h : rowOf d = none) : AOk d := fun xs e => by
  rw [h] at e
  cases e
theorem aok_of {xs : List PyData} (hl : Nat.ble xs.length 1000 = true) (hs : ∀ x ∈ xs, SeqAt.shaped x = true) : AOk (.tuple xs) := fun ys e => by
  have e : some xs = some ys := e
  cases e
  exact ⟨Nat.le_of_ble_eq_true hl, hs⟩
theorem aok_texts {ws : List Str} (hl : ws.length ≤ 1000) (hs : ∀ w ∈ ws, PyData.strOk w = true) : AOk (.tuple (ws.map PyData.str)) := fun ys e => by
  have e : some (ws.map PyData.str) = some ys := e
  cases e
  refine ⟨by rw [List.length_map]; exact hl, fun x hx => ?_⟩
  obtain ⟨w, hw, rfl⟩ := List.mem_map.mp hx
  exact sh_str (hs w hw)
theorem set_act {t : List (Str × List Str)} {r : List PyData} : isAct t (.tuple (.str "set" :: r)) = areFacts t (.tuple [.list r]) := by
  show actOf t (.str "set") r = _
  unfold actOf
  have e1 : isK "yes" (.str "set") = false := by decide +kernel
  have e2 : isK "no" (.str "set") = false := by decide +kernel
  have e3 : isK "drop" (.str "set") = false := by decide +kernel
  have e4 : isK "set" (.str "set") = true := by decide +kernel
  rw [e1, e2, e3, e4, Bool.or_self, if_neg Bool.false_ne_true, if_neg Bool.false_ne_true, Bool.true_or, Bool.true_and]
theorem not_act {t : List (Str × List Str)} {r : List PyData} : isAct t (.tuple (.str "not" :: r)) = areFacts t (.tuple [.list r]) := by
  show actOf t (.str "not") r = _
  unfold actOf
  have e1 : isK "yes" (.str "not") = false := by decide +kernel
  have e2 : isK "no" (.str "not") = false := by decide +kernel
  have e3 : isK "drop" (.str "not") = false := by decide +kernel
  have e4 : isK "not" (.str "not") = true := by decide +kernel
  rw [e1, e2, e3, e4, Bool.or_self, if_neg Bool.false_ne_true, if_neg Bool.false_ne_true, Bool.or_true, Bool.true_and]
theorem drop_act {t : List (Str × List Str)} {r : List PyData} : isAct t (.tuple (.str "drop" :: r)) = dropOk t r := by
  show actOf t (.str "drop") r = _
  unfold actOf
  have e1 : isK "yes" (.str "drop") = false := by decide +kernel
  have e2 : isK "no" (.str "drop") = false := by decide +kernel
  have e3 : isK "drop" (.str "drop") = true := by decide +kernel
  rw [e1, e2, e3, Bool.or_self, if_neg Bool.false_ne_true, if_pos rfl]
theorem one_fact {t : List (Str × List Str)} {r : List PyData} (h : goFacts t [] [.list r] = false) : areFacts t (.tuple [.list r]) = false := by
  show (decide (_ ≤ t.length) && goFacts t [] [.list r]) = false
  rw [h, Bool.and_false]
theorem no_pair {t : List (Str × List Str)} {r : List PyData} (h : pairOf (.list r) = none) : goFacts t [] [.list r] = false := by
  unfold goFacts
  rw [h]
theorem stands_noE {ws : List Str} {d : PyData} (h : ∀ w ∈ ws, d ≠ .str w) : stands ws d = false := by
  cases e : stands ws d with
  | false => rfl
  | true =>
    obtain ⟨w, rfl, hw⟩ := stands_str e
    exact absurd rfl (h w hw)
theorem look_noE {n : Str} : ∀ {t : List (Str × List Str)}, n ∉ t.map (·.1) → look n t = none
  | [], _ => rfl
  | (m, ws) :: t, h => by
    have h1 : ¬ m = n := fun z => h (by rw [← z]; exact List.mem_cons_self)
    have h2 : n ∉ t.map (·.1) := fun z => h (List.mem_cons_of_mem _ z)
    unfold look
    rw [if_neg h1]
    exact look_noE h2
theorem o9_no : word o9 = false := by decide +kernel
theorem o9_ok : PyData.strOk o9 = true := by decide +kernel
theorem o9_out {ws : List Str} (h : AllW ws) : o9 ∉ ws := fun z => by
  have := h _ z
  rw [o9_no] at this
  cases this
theorem GridOk.names {t : List (Str × List Str)} (O : GridOk t) : AllW (t.map (·.1)) := fun x hx => by
  obtain ⟨e, he, rfl⟩ := List.mem_map.mp hx
  exact (O.nm e he).1
theorem go_pairE {t : List (Str × List Str)} {n : Str} {d : PyData} {ws : List Str} (h : look n t = some ws) (hs : stands ws d = false) : goFacts t [] [.list [.str n, d]] = false := by
  unfold goFacts
  have e : pairOf (.list [.str n, d]) = some (.str n, d) := rfl
  rw [e]
  show (match look n t with | some ws => !([] : List Str).contains n && (stands ws d && goFacts t [n] []) | none => false) = false
  rw [h]
  show (!([] : List Str).contains n && (stands ws d && goFacts t [n] [])) = false
  rw [hs, Bool.false_and, Bool.and_false]
theorem go_noneE {t : List (Str × List Str)} {n : Str} {d : PyData} (h : look n t = none) : goFacts t [] [.list [.str n, d]] = false := by
  unfold goFacts
  have e : pairOf (.list [.str n, d]) = some (.str n, d) := rfl
  rw [e]
  show (match look n t with | some ws => !([] : List Str).contains n && (stands ws d && goFacts t [n] []) | none => false) = false
  rw [h]
abbrev actsA (n x : Str) : List PyData := [.tuple [.str "set", .str n], .tuple [.str "set", .str n, .str x, .str x], .tuple [.str "set", .str o9, .str x], .tuple [.str "set", .str n, .str o9]]
abbrev actsB (n x : Str) : List PyData := [.tuple [.str "not", .str n, .none], .tuple [.str "drop"], .tuple [.str "drop", .str o9], .tuple [.str "drop", .str n, .str x], .tuple [.str "yes", .str "yes"]]
abbrev actsC (n x : Str) : List PyData := [.tuple [], .none, .str "yes", .tuple [.str "set", .str n, .tuple [.str x]], .tuple [.str "keep"], .tuple [.int 1], .tuple [.str "lost"], .int 5, .tuple [.str "set"]]
section
variable {t : List (Str × List Str)} {e : Str × List Str} {x : Str}
theorem aokS {ws : List Str} (hl : Nat.ble ws.length 1000 = true) (hs : ∀ w ∈ ws, PyData.strOk w = true) : AOk (.tuple (ws.map PyData.str)) := aok_texts (Nat.le_of_ble_eq_true hl) hs
theorem sh_in2 {a b : PyData} (h1 : SeqAt.shaped a = true) (h2 : SeqAt.shaped b = true) : ∀ x ∈ [a, b], SeqAt.shaped x = true := fun x hx => by
  rcases List.mem_cons.mp hx with rfl | hx
  · exact h1
  · rw [List.mem_singleton.mp hx]
    exact h2
theorem sh_cons {a : PyData} {l : List PyData} (h1 : SeqAt.shaped a = true) (h2 : ∀ x ∈ l, SeqAt.shaped x = true) : ∀ x ∈ a :: l, SeqAt.shaped x = true := fun x hx => by
  rcases List.mem_cons.mp hx with rfl | hx
  · exact h1
  · exact h2 x hx
theorem sh_nil : ∀ x ∈ ([] : List PyData), SeqAt.shaped x = true := fun x hx => absurd hx List.not_mem_nil
theorem sh_w {x : Str} (h : word x = true) : SeqAt.shaped (.str x) = true := sh_str (word_ok h)
theorem sh_lit {x : Str} (h : PyData.strOk x = true) : SeqAt.shaped (.str x) = true := sh_str h
theorem acts_A (O : GridOk t) (he : e ∈ t) (hx : x ∈ e.2) : ∀ d ∈ actsA e.1 x, BadAct t d := fun d hd => by
  obtain ⟨w1, _, _, _, aw⟩ := O.nm e he
  have wx := aw _ hx
  have ks : SeqAt.shaped (.str "set") = true := sh_lit (by decide +kernel)
  have k9 : SeqAt.shaped (.str o9) = true := sh_lit o9_ok
  simp only [List.mem_cons, List.not_mem_nil, or_false] at hd
  rcases hd with rfl | rfl | rfl | rfl
  · exact ⟨set_act.trans (one_fact (no_pair rfl)), aok_of rfl (sh_cons ks (sh_cons (sh_w w1) sh_nil))⟩
  · exact ⟨set_act.trans (one_fact (no_pair rfl)), aok_of rfl (sh_cons ks (sh_cons (sh_w w1) (sh_cons (sh_w wx) (sh_cons (sh_w wx) sh_nil))))⟩
  · exact ⟨set_act.trans (one_fact (go_noneE (look_noE (o9_out O.names)))), aok_of rfl (sh_cons ks (sh_cons k9 (sh_cons (sh_w wx) sh_nil)))⟩
  · exact ⟨set_act.trans (one_fact (go_pairE (look_of O.nd he) (stands_noE fun w hw z => o9_out aw (by cases z; exact hw)))), aok_of rfl (sh_cons ks (sh_cons (sh_w w1) (sh_cons k9 sh_nil)))⟩
theorem acts_B (O : GridOk t) (he : e ∈ t) (hx : x ∈ e.2) : ∀ d ∈ actsB e.1 x, BadAct t d := fun d hd => by
  obtain ⟨w1, _, _, _, aw⟩ := O.nm e he
  have wx := aw _ hx
  have kn : SeqAt.shaped (.str "not") = true := sh_lit (by decide +kernel)
  have kd : SeqAt.shaped (.str "drop") = true := sh_lit (by decide +kernel)
  have ky : SeqAt.shaped (.str "yes") = true := sh_lit (by decide +kernel)
  have k9 : SeqAt.shaped (.str o9) = true := sh_lit o9_ok
  have k0 : SeqAt.shaped PyData.none = true := by decide +kernel
  simp only [List.mem_cons, List.not_mem_nil, or_false] at hd
  rcases hd with rfl | rfl | rfl | rfl | rfl
  · exact ⟨not_act.trans (one_fact (go_pairE (look_of O.nd he) (stands_noE fun w hw z => by cases z))), aok_of rfl (sh_cons kn (sh_cons (sh_w w1) (sh_cons k0 sh_nil)))⟩
  · exact ⟨drop_act, aok_of rfl (sh_cons kd sh_nil)⟩
  · exact ⟨drop_act.trans (stands_noE fun w hw z => o9_out O.names (by cases z; exact hw)), aok_of rfl (sh_cons kd (sh_cons k9 sh_nil))⟩
  · exact ⟨drop_act, aok_of rfl (sh_cons kd (sh_cons (sh_w w1) (sh_cons (sh_w wx) sh_nil)))⟩
  · refine ⟨?_, aok_of rfl (sh_cons ky (sh_cons ky sh_nil))⟩
    show actOf t (.str "yes") [.str "yes"] = false
    unfold actOf
    have e1 : isK "yes" (.str "yes") = true := by decide +kernel
    rw [e1, Bool.true_or, if_pos rfl]
    rfl
theorem act_else {k : PyData} {r : List PyData} (h1 : isK "yes" k = false) (h2 : isK "no" k = false) (h3 : isK "drop" k = false) (h4 : isK "set" k = false) (h5 : isK "not" k = false) : isAct t (.tuple (k :: r)) = false := by
  show actOf t k r = false
  unfold actOf
  rw [h1, h2, h3, h4, h5, Bool.or_self, if_neg Bool.false_ne_true, if_neg Bool.false_ne_true, Bool.false_and]
theorem acts_C (O : GridOk t) (he : e ∈ t) (hx : x ∈ e.2) : ∀ d ∈ actsC e.1 x, BadAct t d := fun d hd => by
  obtain ⟨w1, _, _, _, aw⟩ := O.nm e he
  have wx := aw _ hx
  have ks : SeqAt.shaped (.str "set") = true := sh_lit (by decide +kernel)
  have kk : SeqAt.shaped (.str "keep") = true := sh_lit (by decide +kernel)
  have kl : SeqAt.shaped (.str "lost") = true := sh_lit (by decide +kernel)
  have k1 : SeqAt.shaped (.int 1) = true := by decide +kernel
  simp only [List.mem_cons, List.not_mem_nil, or_false] at hd
  rcases hd with rfl | rfl | rfl | rfl | rfl | rfl | rfl | rfl | rfl
  · exact ⟨rfl, aok_of rfl sh_nil⟩
  · exact ⟨rfl, aok_no rfl⟩
  · exact ⟨rfl, aok_no rfl⟩
  · exact ⟨set_act.trans (one_fact (go_pairE (look_of O.nd he) (stands_noE fun w hw z => by cases z))), aok_of rfl (sh_cons ks (sh_cons (sh_w w1) (sh_cons (tupS_shaped (ws := [x]) fun w hw => by rw [List.mem_singleton.mp hw]; exact word_ok wx) sh_nil)))⟩
  · exact ⟨act_else (by decide +kernel) (by decide +kernel) (by decide +kernel) (by decide +kernel) (by decide +kernel), aok_of rfl (sh_cons kk sh_nil)⟩
  · exact ⟨act_else (by decide +kernel) (by decide +kernel) (by decide +kernel) (by decide +kernel) (by decide +kernel), aok_of rfl (sh_cons k1 sh_nil)⟩
  · exact ⟨act_else (by decide +kernel) (by decide +kernel) (by decide +kernel) (by decide +kernel) (by decide +kernel), aok_of rfl (sh_cons kl sh_nil)⟩
  · exact ⟨rfl, aok_no rfl⟩
  · exact ⟨set_act.trans (one_fact (no_pair rfl)), aok_of rfl (sh_cons ks sh_nil)⟩
theorem acts_D (O : GridOk t) (he : e ∈ t) : BadAct t (.tuple [.str "no", .str e.1]) := by
  obtain ⟨w1, _⟩ := O.nm e he
  refine ⟨?_, aok_of rfl (sh_cons (sh_lit (by decide +kernel)) (sh_cons (sh_w w1) sh_nil))⟩
  show actOf t (.str "no") [.str e.1] = false
  unfold actOf
  have e1 : isK "no" (.str "no") = true := by decide +kernel
  rw [e1, Bool.or_true, if_pos rfl]
  rfl
end
/-- what are good lines -/
theorem LiOk.pok {t : List (Str × List Str)} (O : GridOk t) {l : Li} (h : LiOk t 6 l) : POk (lineD l) := fun x a e => by
  have e : some (PyData.str l.1, PyData.tuple (l.2.map PyData.str)) = some (x, a) := e
  cases e
  obtain ⟨⟨ws, _, h2, h3, h4⟩, h5⟩ := h
  obtain ⟨q1, q2⟩ := act_ok O h5
  refine ⟨?_, aok_texts (by omega) q2⟩
  show l.1.length ≤ 900
  rw [h4]
  have := joinW_len h3
  omega
theorem ps_bad {t : List (Str × List Str)} {ps : List PyData} {p : PyData} (hp : p ∈ ps) (hb : isPhrase t p = false) (hl : ps.length ≤ 1000) (ok : ∀ p ∈ ps, POk p) : BadLines t (.list ps) := by
  refine ⟨?_, fun qs e => ?_⟩
  · show (decide (1 ≤ ps.length) && (decide (ps.length ≤ 60) && (ps.all (isPhrase t) && decide (ps.map keyOfP).Nodup))) = false
    have : ps.all (isPhrase t) = false := List.all_eq_false.mpr ⟨p, hp, by rw [hb]; exact Bool.false_ne_true⟩
    rw [this, Bool.false_and, Bool.and_false, Bool.and_false]
  · have e : some ps = some qs := e
    cases e
    exact ⟨hl, ok⟩
theorem ps_row {t : List (Str × List Str)} {d : PyData} (h : rowOf d = none) : BadLines t d := by
  refine ⟨?_, fun qs e => ?_⟩
  · unfold isPhrases
    rw [h]
  · rw [h] at e
    cases e
theorem ps_nil {t : List (Str × List Str)} {d : PyData} (h : rowOf d = some []) : BadLines t d := by
  refine ⟨?_, fun qs e => ?_⟩
  · unfold isPhrases
    rw [h]
    rfl
  · rw [h] at e
    cases e
    exact ⟨Nat.zero_le _, fun p hp => absurd hp List.not_mem_nil⟩
theorem pok_no {p : PyData} (h : pairOf p = none) : POk p := fun x a e => by
  rw [h] at e
  cases e
theorem pok_two {p x a : PyData} (h : pairOf p = some (x, a)) (hx : Short9 x) (ha : AOk a) : POk p := fun y b e => by
  rw [h] at e
  cases e
  exact ⟨hx, ha⟩
theorem phr_no {t : List (Str × List Str)} {p : PyData} (h : pairOf p = none) : isPhrase t p = false := by
  unfold isPhrase
  rw [h]
theorem phr_text {t : List (Str × List Str)} {p x a : PyData} (h : pairOf p = some (x, a)) (hx : isText x = false) : isPhrase t p = false := by
  unfold isPhrase
  rw [h]
  show (isText x && _) = false
  rw [hx, Bool.false_and]
theorem phr_act {t : List (Str × List Str)} {p x a : PyData} (h : pairOf p = some (x, a)) (ha : isAct t a = false) : isPhrase t p = false := by
  unfold isPhrase
  rw [h]
  show (isText x && (_ && isAct t a)) = false
  rw [ha, Bool.and_false, Bool.and_false]
theorem phr_long {t : List (Str × List Str)} {p a : PyData} {x : Str} (h : pairOf p = some (.str x, a)) (hx : 6 < (wordsOf x).length) : isPhrase t p = false := by
  unfold isPhrase
  rw [h]
  show (isText (.str x) && (decide ((wordsOf x).length ≤ 6) && isAct t a)) = false
  rw [decide_eq_false (by omega), Bool.false_and, Bool.and_false]
theorem ps_many {t : List (Str × List Str)} {ps : List PyData} (h : 60 < ps.length) (hl : ps.length ≤ 1000) (ok : ∀ p ∈ ps, POk p) : BadLines t (.list ps) := by
  refine ⟨?_, fun qs e => ?_⟩
  · show (decide (1 ≤ ps.length) && (decide (ps.length ≤ 60) && (ps.all (isPhrase t) && decide (ps.map keyOfP).Nodup))) = false
    rw [decide_eq_false (by omega : ¬ ps.length ≤ 60), Bool.false_and, Bool.and_false]
  · have e : some ps = some qs := e
    cases e
    exact ⟨hl, ok⟩
theorem ps_twice {t : List (Str × List Str)} {p : PyData} (ok : POk p) : BadLines t (.list [p, p]) := by
  refine ⟨?_, fun qs e => ?_⟩
  · show (decide (1 ≤ [p, p].length) && (decide ([p, p].length ≤ 60) && ([p, p].all (isPhrase t) && decide ([p, p].map keyOfP).Nodup))) = false
    have : ¬ ([p, p].map keyOfP).Nodup := fun z => by
      rw [List.map_cons, List.map_cons, List.map_nil, List.nodup_cons] at z
      exact z.1 List.mem_cons_self
    rw [decide_eq_false this, Bool.and_false, Bool.and_false, Bool.and_false]
  · have e : some [p, p] = some qs := e
    cases e
    refine ⟨Nat.le_of_ble_eq_true rfl, fun q hq => ?_⟩
    rcases List.mem_cons.mp hq with rfl | hq
    · exact ok
    · rw [List.mem_singleton.mp hq]
      exact ok
theorem GridOk.nstr {t : List (Str × List Str)} (O : GridOk t) : NStr t := fun n hn => by
  obtain ⟨e, he, rfl⟩ := List.mem_map.mp hn
  exact word_ok (O.nm e he).1
theorem one_true {t : List (Str × List Str)} {n w : Str} {ws : List Str} (h : look n t = some ws) (hw : w ∈ ws) (h1 : 1 ≤ t.length) : areFacts t (.tuple [.list [.str n, .str w]]) = true := by
  show (decide (1 ≤ t.length) && goFacts t [] [.list [.str n, .str w]]) = true
  rw [decide_eq_true h1, Bool.true_and]
  unfold goFacts
  have e : pairOf (.list [.str n, .str w]) = some (.str n, .str w) := rfl
  rw [e]
  show (match look n t with | some ws => !([] : List Str).contains n && (stands ws (.str w) && goFacts t [n] []) | none => false) = true
  rw [h]
  show (!([] : List Str).contains n && (stands ws (.str w) && goFacts t [n] [])) = true
  rw [stands_of hw] <;> rfl
theorem act_good {t : List (Str × List Str)} (O : GridOk t) {ws : List Str} (h : ActOf t ws) : isAct t (.tuple (ws.map PyData.str)) = true := by
  rcases h with rfl | rfl | ⟨e, he, rfl | ⟨w, hw, rfl | rfl⟩⟩
  · show actOf t (.str "yes") [] = true
    unfold actOf
    have e1 : isK "yes" (.str "yes") = true := by decide +kernel
    rw [e1, Bool.true_or, if_pos rfl] <;> rfl
  · show actOf t (.str "no") [] = true
    unfold actOf
    have e1 : isK "no" (.str "no") = true := by decide +kernel
    rw [e1, Bool.or_true, if_pos rfl] <;> rfl
  · show isAct t (.tuple (.str "drop" :: [.str e.1])) = true
    rw [drop_act]
    exact stands_of (List.mem_map.mpr ⟨e, he, rfl⟩)
  · show isAct t (.tuple (.str "set" :: [.str e.1, .str w])) = true
    rw [set_act]
    exact one_true (look_of O.nd he) hw O.lo
  · show isAct t (.tuple (.str "not" :: [.str e.1, .str w])) = true
    rw [not_act]
    exact one_true (look_of O.nd he) hw O.lo
/-- lines as handed in -/
def LinesD (ls : List Li) (d : PyData) : Prop := ∃ f : Li → PyData, rowOf d = some (ls.map f) ∧ ∀ l, pairOf (f l) = some (.str l.1, .tuple (l.2.map PyData.str))
theorem leaf_inj : ∀ {us vs : List Str}, us.map NestedKey.text = vs.map NestedKey.text → us = vs
  | [], [], _ => rfl
  | [], _ :: _, h => by cases h
  | _ :: _, [], h => by cases h
  | u :: us, v :: vs, h => by
    rw [List.map_cons, List.map_cons] at h
    obtain ⟨h1, h2⟩ := List.cons.inj h
    rw [NestedKey.text.inj h1, leaf_inj h2]
theorem LinesD.good {t : List (Str × List Str)} (O : GridOk t) {ls : List Li} {d : PyData} (h : LinesD ls d) (h1 : 1 ≤ ls.length) (h12 : ls.length ≤ 12) (nd : ls.Nodup) (hl : ∀ l ∈ ls, LiOk t 6 l) : isPhrases t d = true := by
  obtain ⟨f, hr, hp⟩ := h
  unfold isPhrases
  rw [hr]
  show (decide (1 ≤ (ls.map f).length) && (decide ((ls.map f).length ≤ 60) && ((ls.map f).all (isPhrase t) && decide ((ls.map f).map keyOfP).Nodup))) = true
  have key : ∀ l, keyOfP (f l) = .tup [.text l.1, .tup (l.2.map NestedKey.text)] := fun l => by
    unfold keyOfP
    rw [hp l]
    show NestedKey.tup [.text l.1, .tup (((rowOf (.tuple (l.2.map PyData.str))).getD []).map leafK)] = _
    have e : ((rowOf (.tuple (l.2.map PyData.str))).getD []) = l.2.map PyData.str := rfl
    rw [e, leaf_texts]
  have nd2 : ((ls.map f).map keyOfP).Nodup := by
    rw [List.map_map, List.nodup_iff_pairwise_ne, List.pairwise_map]
    refine nd.imp fun {a b} n z => n ?_
    have z : keyOfP (f a) = keyOfP (f b) := z
    rw [key, key] at z
    have z := NestedKey.tup.inj z
    obtain ⟨z1, z2⟩ := List.cons.inj z
    have z3 := NestedKey.tup.inj (List.cons.inj z2).1
    exact Prod.ext (NestedKey.text.inj z1) (leaf_inj z3)
  rw [List.length_map, decide_eq_true h1, decide_eq_true (by omega : ls.length ≤ 60), decide_eq_true nd2, List.all_eq_true.mpr fun p hp' => ?_]
  · rfl
  · obtain ⟨l, hm, rfl⟩ := List.mem_map.mp hp'
    obtain ⟨⟨ws, a1, a2, a3, a4⟩, a5⟩ := hl l hm
    unfold isPhrase
    rw [hp l]
    show (isText (.str l.1) && (decide ((wordsOf l.1).length ≤ 6) && isAct t (.tuple (l.2.map PyData.str)))) = true
    have tx : isText (.str l.1) = true := by
      show text l.1 = true
      rw [a4]
      exact text_W a1 a3
    have wl : (wordsOf l.1).length ≤ 6 := by
      rw [a4, words_W a1 a3]
      omega
    rw [tx, decide_eq_true wl, act_good O a5] <;> rfl
theorem LinesD.ok {t : List (Str × List Str)} (O : GridOk t) {ls : List Li} {d : PyData} (h : LinesD ls d) (h12 : ls.length ≤ 12) (hl : ∀ l ∈ ls, LiOk t 6 l) : PsOk d := fun qs e => by
  obtain ⟨f, hr, hp⟩ := h
  rw [hr] at e
  cases e
  refine ⟨by rw [List.length_map]; omega, fun p hq => ?_⟩
  obtain ⟨l, hm, rfl⟩ := List.mem_map.mp hq
  intro x a e
  rw [hp l] at e
  exact (hl l hm).pok O x a e
theorem linesD_l {ls : List Li} : LinesD ls (.list (ls.map lineD)) := ⟨lineD, rfl, fun _ => rfl⟩
theorem linesD_t {ls : List Li} : LinesD ls (.tuple (ls.map lineD)) := ⟨lineD, rfl, fun _ => rfl⟩
abbrev lineL (l : Li) : PyData := .list [.str l.1, .tuple (l.2.map PyData.str)]
theorem linesD_ll {ls : List Li} : LinesD ls (.list (ls.map lineL)) := ⟨lineL, rfl, fun _ => rfl⟩
end Q
set_option Elab.async false
set_option linter.all false
set_option maxRecDepth 100000
set_option maxHeartbeats 4000000
/-! ### k07 to k09: the book -/
namespace Q
open PySem L2 XD XN
theorem Tb7.grid {t : List (Str × List Str)} (W : Tb7 t) : GridOk t := by
  obtain ⟨tk, _⟩ := W.ok
  exact ⟨tk.lo, tk.hi, fun e he => ⟨tk.nm.2 _ (List.mem_map_of_mem he), (tk.vs e he).2.1, (tk.vs e he).2.2, (tk.vs e he).1.1, (tk.vs e he).1.2⟩, tk.nm.1⟩
def TextOk6 (x : Str) : Prop := ∃ ws : List Str, ws ≠ [] ∧ ws.length ≤ 6 ∧ AllW ws ∧ x = joinW ws
def spBook7 (K : PySem.W.Frag) : Sp := fun vs H Q _ => ∃ (a c q p : Addr) (t : List (Str × List Str)) (as : List (List Str)) (pool : List Str) (n : Nat), vs = [.ref a, .ref q, .ref p, .int n] ∧ Fl7 c H a ∧ GridOk t ∧ Dp K (Bs7 a c H) (.ref q) (.list (as.map actD)) ∧ 1 ≤ as.length ∧ as.length ≤ 100 ∧ (∀ w ∈ as, ActOf t w) ∧
  Bs7 a c H p = some (.lst (pool.map V.str)) ∧ 1 ≤ pool.length ∧ pool.length ≤ 100 ∧ AllW pool ∧ 1 ≤ n ∧ n ≤ 61 ∧
  ∀ (v : V) (ls : List Li) (H' : Hp), Dp K (Bs7 a c H') v (.tuple (ls.map lineD)) → 1 ≤ ls.length → ls.length ≤ n → ls.Nodup → (∀ l ∈ ls, LiOk t 6 l) → Fl7 c H' a → Same (Bs7 a c H) (Bs7 a c H') → Q v H'
abbrev nBk7 : List Str := ["state", "acts", "pool", "many", "book", "k", "few", "text", "act"]
section
variable {P : Program} {w : World} {K : PySem.W.Frag} {mg : Str → Option Value} {base : Heap}
theorem scBk7 : FnScope nBk7 ["state", "acts", "pool", "many"] (defScope sLBook) := ⟨rfl, rfl, rfl, by decide +kernel, rfl, by decide +kernel, by decide +kernel⟩
theorem ok_book7 {f : Addr} {fd : FuncData} (F : Fun K "_law_book" "_law_book" sLBook f fd) (T : Be7 mg) (KD : Kn P w K mg base 1 "_law_draw" ["state", "many"] spDraw7) (KS : Kn P w K mg base 2 "_law_spoken" ["state", "pool", "most"] (spSpok7 K)) : FnOk P w K mg base CX0 3 f fd ["state", "acts", "pool", "many"] (spBook7 K) := by
  obtain ⟨fD, fdD, GD, kD, bD, mD⟩ := KD.ex
  obtain ⟨fS, fdS, GS, kS, bS, mS⟩ := KS.ex
  refine F.ok scBk7 (fun vs H Q E h => ?_) (fun cdv A outer s H vs Q E hr h => ?_)
  · obtain ⟨a, c, q, p, t, as, pool, n, rfl, _⟩ := h
    rfl
  have hr1 := hr.mono (show 1 ≤ 2 by decide)
  have hu : (A.deeper (PyProof.Rows.envOfC "_law_book" (defScope sLBook) s.heap.objs.size f cdv)).units + 65 < cLine := by
    have := hr.un
    omega
  refine ⟨_, pss_cons (ps_set (i := 4) scBk7.nd rfl (.inl rfl) (pe_lst pa_nil))
    (pss_cons (ps_setLc (i := 6) (own := [("k", 5)]) (g := gName 5) (tt := tYes) (by rfl) scBk7.nd rfl rfl (sw_true rfl rfl rfl (by decide +kernel)) (pi_range1 rfl T.range (pa_cons pe_int pa_nil)) (blkOk_by (N := nBk7) (sc := defScope sLBook) (by decide +kernel)) (fun _ _ _ _ _ => (pg_name (i := 5) scBk7.nd rfl (.inl rfl))) (fun _ _ _ _ _ => pts_nil) (fun _ _ _ _ _ => (pe_ix (ix_both K rfl) (pv 1) (pe_call GD hr1 (by rfl) mD kD bD .nil pass0 (pa_cons (pv 0) (pa_cons (pe_callB (call_lenE7 K rfl) (by rfl) T.len PySem.boot_len (pa_cons (pv 1) pa_nil)) pa_nil))) (fun _ _ => rfl))))
    (pss_cons (ps_for PassesOwn.never rfl (pi_range1 rfl T.range (pa_cons (pv 3) pa_nil)) (pg_name (i := 5) scBk7.nd rfl (.inl rfl))
      (pss_cons (ps_set (i := 7) scBk7.nd rfl (.inl rfl) (pe_call GS hr (by rfl) mS kS bS .nil pass0 (pa_cons (pv 0) (pa_cons (pv 2) (pa_cons pe_int pa_nil)))))
    (pss_cons (ps_if (pt_cmpR op_eq (pv 5) (pe_op op_sub (pv 3) pe_int) (nomark _)) (pss_one (ps_set (i := 7) scBk7.nd rfl (.inl rfl) (pe_call GS hr (by rfl) mS kS bS .nil pass0 (pa_cons (pv 0) (pa_cons (pv 2) (pa_cons pe_int pa_nil)))))) pss_nil)
    (pss_cons (ps_set (i := 8) scBk7.nd rfl (.inl rfl) (pe_ix (ix_both K rfl) (pv 6) (pe_call GD hr1 (by rfl) mD kD bD .nil pass0 (pa_cons (pv 0) (pa_cons pe_int pa_nil))) (fun _ _ => rfl)))
    (pss_cons (ps_if (pt_cmpR op_eq (pe_call GD hr1 (by rfl) mD kD bD .nil pass0 (pa_cons (pv 0) (pa_cons pe_int pa_nil))) pe_int (nomark _)) (pss_one (ps_set (i := 8) scBk7.nd rfl (.inl rfl) (pe_ix (ix_both K rfl) (pv 1) (pe_call GD hr1 (by rfl) mD kD bD .nil pass0 (pa_cons (pv 0) (pa_cons (pe_callB call_len_seq (by rfl) T.len PySem.boot_len (pa_cons (pv 1) pa_nil)) pa_nil))) (fun _ _ => rfl)))) pss_nil)
    (pss_cons (ps_if (PW.pt (pw_and (pt_cmpR op_gt (pe_callB call_len_seq (by rfl) T.len PySem.boot_len (pa_cons (pv 4) pa_nil)) pe_int (nomark _)) (pw_and1 (pt_cmpR op_eq (pe_call GD hr1 (by rfl) mD kD bD .nil pass0 (pa_cons (pv 0) (pa_cons pe_int pa_nil))) pe_int (nomark _))))) (pss_one (ps_set (i := 7) scBk7.nd rfl (.inl rfl) (pe_ix (ix_both K rfl) (pe_ix (ix_both K rfl) (pv 4) pe_int (fun _ _ => rfl)) pe_int (fun _ _ => rfl)))) pss_nil)
    (pss_one (ps_if (pt_cmpR (op_notInD hu) (pe_tupZ (pa_cons (pv 7) (pa_cons (pv 8) pa_nil))) (pv 4) (by with_unfolding_all rfl)) (pss_one (ps_expr (pe_bm PySem.F.plainAttrs_list PySem.F.slot_list_append PySem.F.type_list_append mt_append (pv 4) (pa_cons (pe_tupZ (pa_cons (pv 7) (pa_cons (pv 8) pa_nil))) pa_nil)))) pss_nil))))))))
    (pss_one (ps_ret (pe_callTy (call_tupK K rfl) (by rfl) T.tup (by decide +kernel) (pa_cons (pv 4) pa_nil)))))), ?_⟩
  obtain ⟨a, c, q, p, t, as, pool, n, rfl, Fl, O, hq, a1, a100, ha, hp, h1, h100, hw, n1, n61, k⟩ := h
  have B : Bl7 K a c _ _ _ _ H := Blk.new flo7 Fl (.cons hq .nil)
  have big : (1001 : Int) < 2 ^ 62 := by decide
  have small : -(2 ^ 62 : Int) ≤ 0 := by decide
  have hq0 := hq
  try simp only [L2.start, gName, List.map_cons, List.map_nil, List.length_cons, List.length_nil, Nat.reduceAdd, Nat.reduceSub, List.replicate_succ, List.replicate_zero, List.cons_append, List.nil_append, List.set_cons_succ, List.set_cons_zero]
  refine asg_X B (mx_lst (es := []) (by rfl) mkl_nil) fun D oD H1 s1 nD n0 nS B XD => ?_
  try simp only [gName, List.set_cons_succ, List.set_cons_zero]
  -- a few acts
  refine ⟨_, rfl, by omega, by omega, fun M hM => ?_⟩
  have M0 := B.out hM
  have MD : D ≠ M := fun z => B.al D List.mem_cons_self (z ▸ hM)
  refine lc_range (lo := 0) (n := 4) (fun i H' => ∃ fs : List (List Str), Bl7 K a c (rmL [a, c] H) [M, D, a, c] [] [] H' ∧ Lx K [M, D, a, c] M (fs.map actD) H' ∧ Lx K [M, D, a, c] D [] H' ∧ fs.length = i ∧ ∀ w ∈ fs, ActOf t w) ⟨[], (B.drop 1).enter hM, ⟨[], upd_same, .nil⟩, XD.enter hM, rfl, fun x hx => absurd hx List.not_mem_nil⟩ (fun i H2 hi hP => ?_) (fun H2 hP => ?_)
  · obtain ⟨fs, B, XM, XD, g2, g3⟩ := hP
    refine ⟨rfl, ?_⟩
    unfold tYes
    refine iteT (pickF draw7_ok B rfl rfl (dp_same B.base hq0) rfl (by rw [List.length_map]; exact a1) (by rw [List.length_map]; omega) fun r d v H3 hd B s3 => ?_)
    rw [List.getElem?_map] at hd
    obtain ⟨wa, ewa, rfl⟩ := Option.map_eq_some_iff.mp hd
    replace XM := XM.move B.sub M0 s3
    replace XD := (XD.move B.sub n0 s3).put (o := .lst (XM.choose ++ [v])) List.mem_cons_self MD
    obtain ⟨us, eM, hus⟩ := id XM
    have lu := dps_len hus
    refine ⟨us, eM, small1000 (by rw [lu, List.length_map]; omega), fs ++ [wa], (B.drop 1).put List.mem_cons_self M0, ⟨us ++ [v], upd_same, ?_⟩, (by
      obtain ⟨us', e', h'⟩ := XD
      exact ⟨us', by rw [upd_ne MD] at e' ⊢; exact e', by rw [rm_put List.mem_cons_self] at h' ⊢; exact h'⟩), by rw [List.length_append, g2] <;> rfl, fun x hx => ?_⟩
    · rw [rm_put List.mem_cons_self, List.map_append]
      exact dps_app hus (.cons (dget B.E 0 rfl rfl) .nil)
    · rcases List.mem_append.mp hx with hx | hx
      · exact g3 x hx
      · rw [List.mem_singleton.mp hx]
        exact ha wa (List.mem_of_getElem? ewa)
  · obtain ⟨fs, B, XM, XD, g2, g3⟩ := hP
    have subD : ∀ x ∈ [D, a, c], x ∈ [M, D, a, c] := fun x hx => List.mem_cons_of_mem _ hx
    have hM2 := Dp.lst (K := K) (H := rmL [D, a, c] H2) (a := M) (SqL.of ((rm_at (fun z => (List.mem_cons.mp z).elim (fun e => MD e.symm) M0)).trans XM.choose_spec.1)) (dps_same (rm_sub subD) XM.choose_spec.2)
    replace XD := XD.sub subD
    replace B := (B.sub1 (S' := [D, a, c]) subD fun x hx => List.mem_cons_of_mem _ hx).add hM2
    clear XM hM hM2
    try simp only [gName, List.set_cons_succ, List.set_cons_zero]
    have s0 := B.base
    have hq1 := dp_same s0 hq0
    have hp1 := s0 _ _ hp
    have hM2 := dget B.E 0 (v := .ref M) (d := .list (fs.map actD)) rfl rfl
    replace B := (B.drop 1).rebase
    refine ⟨_, rfl, _, rfl, by omega, by omega, ?_⟩
    rw [Int.toNat_natCast]
    refine for_range (lo := 0) (n := n) (fun i σ H' => ∃ (ls : List Li) (f5 f7 f8 : Option V), σ = [some (.ref a), some (.ref q), some (.ref p), some (.int n), some (.ref D), f5, some (.ref M), f7, f8] ∧ Bl7 K a c (rmL [D, a, c] H2) [D, a, c] [] [] H' ∧ Lx K [D, a, c] D (ls.map lineD) H' ∧ ls.length ≤ i ∧ (0 < i → 1 ≤ ls.length) ∧ ls.Nodup ∧ ∀ l ∈ ls, LiOk t 6 l)
      ⟨[], _, _, _, rfl, B, XD, Nat.le_refl _, fun z => absurd z (Nat.lt_irrefl _), List.nodup_nil, fun l hl => absurd hl List.not_mem_nil⟩ ?_ ?_
    · clear B XD
      rintro i σ H3 hi ⟨ls, f5, f7, f8, rfl, B, XD, l1, l2, nd, hl⟩
      try simp only [gName, List.set_cons_succ, List.set_cons_zero]
      have lc : (ls.map lineD).length = ls.length := List.length_map _
      refine ⟨_, rfl, _, rfl, a, c, p, pool, 3, rfl, B.fl, B.keep _ _ hp1, h1, h100, hw, by decide, by decide, fun ws H4 wne w3 wa F4 s4 => ?_⟩
      replace B := B.move F4 s4
      replace XD := XD.move B.sub n0 s4
      try simp only [gName, List.set_cons_succ, List.set_cons_zero]
      refine seq_cut (fun σ H' => ∃ (x : Str) (f8 : Option V), σ = [some (.ref a), some (.ref q), some (.ref p), some (.int n), some (.ref D), some (.int (0 + (i : Nat))), some (.ref M), some (.str x), f8] ∧ TextOk6 x ∧ Bl7 K a c (rmL [D, a, c] H2) [D, a, c] [] [] H' ∧ Lx K [D, a, c] D (ls.map lineD) H') ?_ (fun join => ?_)
      · clear B XD wne w3 wa s4 F4
        rintro σ H5 ⟨x, f8, rfl, hx, B, XD⟩
        refine ⟨_, rfl, drawF (n := 4) draw7_ok B rfl rfl rfl fun r5 H6 hr5 B s6 => ix_D (dp_same B.base hM2) rfl (by rw [List.length_map]; omega) fun e y ee hy => ?_⟩
        rw [List.getElem?_map] at ee
        obtain ⟨wa, ewa, rfl⟩ := Option.map_eq_some_iff.mp ee
        replace XD := XD.move B.sub n0 s6
        replace B := B.add hy
        try simp only [gName, List.set_cons_succ, List.set_cons_zero]
        refine seq_cut (fun σ H' => ∃ (y : V) (wa : List Str), σ = [some (.ref a), some (.ref q), some (.ref p), some (.int n), some (.ref D), some (.int (0 + (i : Nat))), some (.ref M), some (.str x), some y] ∧ ActOf t wa ∧ Bl7 K a c (rmL [D, a, c] H2) [D, a, c] [y] [actD wa] H' ∧ Lx K [D, a, c] D (ls.map lineD) H') ?_ (fun join => ?_)
        · clear B XD hy ee ewa y wa
          rintro σ H7 ⟨y, wa, rfl, hwa, B, XD⟩
          refine seq_cut (fun σ H' => ∃ (x : Str), σ = [some (.ref a), some (.ref q), some (.ref p), some (.int n), some (.ref D), some (.int (0 + (i : Nat))), some (.ref M), some (.str x), some y] ∧ TextOk6 x ∧ Bl7 K a c (rmL [D, a, c] H2) [D, a, c] [y] [actD wa] H' ∧ Lx K [D, a, c] D (ls.map lineD) H') ?_ (fun join => ?_)
          · clear B XD hx x
            rintro σ H8 ⟨x, rfl, hx, B, XD⟩
            refine ⟨_, rfl, _, rfl, by show 2 ≤ sizeLine; decide, fun z o hz _ => ?_⟩
            have hzd := TD.dp (tup_td B.al hz (o := o) (.cons (.str x) (.cons (dget B.E 0 rfl rfl) .nil)))
            replace B := B.same (new_same hz (.frz o (.tup [.str x, y])))
            replace XD := XD.same (new_same hz (.frz o (.tup [.str x, y])))
            have lo : LiOk t 6 (x, wa) := ⟨hx, hwa⟩
            have XDd : Dp K (L2.upd H8 z (.frz o (.tup [.str x, y]))) (.ref D) (.list (ls.map lineD)) := by
              obtain ⟨us, e, hu⟩ := XD
              exact .lst (SqL.of e) (dps_same rm_le hu)
            refine ⟨_, rfl, lineD (x, wa), ls.map lineD, dp_same rm_le hzd, XDd, line_shaped O lo, lines_shaped O hl, _, rfl, ?_⟩
            rw [any_line]
            by_cases hin : (x, wa) ∈ ls
            · rw [decide_eq_true hin]
              refine iteF ⟨ls, _, _, _, rfl, B.drop 1, XD, by omega, fun _ => List.length_pos_of_mem hin, nd, hl⟩
            · rw [decide_eq_false hin]
              refine iteT ?_
              refine app_X1 B (by rfl) XD List.mem_cons_self n0 (mk_tup B.al (by rfl) (mkl_cons (mk_var (i := 7) (by rfl) (.str x)) (mkl_cons (mk_var (i := 8) (by rfl) (dget B.E 0 rfl rfl)) mkl_nil))) (by rw [lc]; omega) fun o H9 s9 B XD => ?_
              refine ⟨ls ++ [(x, wa)], _, _, _, rfl, B.drop 1, by rw [List.map_append]; exact XD, by rw [List.length_append, List.length_singleton]; omega, fun _ => by rw [List.length_append, List.length_singleton]; omega, nodup_snoc nd hin, fun l hm => ?_⟩
              rcases List.mem_append.mp hm with hm | hm
              · exact hl l hm
              · rw [List.mem_singleton.mp hm]
                exact lo
          · obtain ⟨us, eD, hus⟩ := id XD
            have lu := dps_len hus
            refine ⟨_, rfl, D, us, rfl, .inl (SqL.of eD), _, _, rfl, rfl, _, rfl, iteB (fun e => ?_) (fun _ => join _ _ ⟨x, rfl, hx, B, XD⟩)⟩
            have lp : 0 < ls.length := by
              have := of_decide_eq_true e
              omega
            refine drawF (n := 4) draw7_ok B rfl rfl rfl fun r6 H8 _ B s8 => ⟨rfl, _, rfl, iteB (fun _ => ?_) (fun _ => join _ _ ⟨x, rfl, hx, B, XD.move B.sub n0 s8⟩)⟩
            replace XD := XD.move B.sub n0 s8
            refine ⟨_, rfl, ix_X (r := 0) XD (by rw [lc]; exact lp) fun e v he hv => ?_⟩
            rw [List.getElem?_map] at he
            obtain ⟨l, el, rfl⟩ := Option.map_eq_some_iff.mp he
            refine ix_D (r := 0) hv rfl (Nat.le_of_ble_eq_true rfl) fun e v he hv => ?_
            cases he
            cases hv
            obtain ⟨hlx, _⟩ := hl l (List.mem_of_getElem? el)
            exact join _ _ ⟨l.1, rfl, hlx, B, XD⟩
        · refine drawF (n := 3) draw7_ok B rfl rfl rfl fun r6 H7 _ B s7 => ⟨rfl, _, rfl, iteB (fun _ => ?_) (fun _ => join _ _ ⟨y, wa, rfl, g3 wa (List.mem_of_getElem? ewa), B, XD.move B.sub n0 s7⟩)⟩
          replace XD := XD.move B.sub n0 s7
          replace B := B.drop 1
          refine pickF draw7_ok B rfl rfl (dp_same B.base hq1) rfl (by rw [List.length_map]; exact a1) (by rw [List.length_map]; omega) fun r d v H8 hd B s8 => ?_
          rw [List.getElem?_map] at hd
          obtain ⟨wa2, ewa2, rfl⟩ := Option.map_eq_some_iff.mp hd
          exact join _ _ ⟨v, wa2, rfl, ha wa2 (List.mem_of_getElem? ewa2), B, XD.move B.sub n0 s8⟩
      · refine ⟨_, rfl, _, rfl, _, _, rfl, rfl, rfl, _, rfl, iteB (fun _ => ?_) (fun _ => join _ _ ⟨joinW ws, _, rfl, ⟨ws, wne, by omega, wa, rfl⟩, B, XD⟩)⟩
        refine ⟨_, rfl, _, rfl, a, c, p, pool, 6, rfl, B.fl, B.keep _ _ hp1, h1, h100, hw, by decide, by decide, fun ws2 H5 wne2 w6 wa2 F5 s5 => ?_⟩
        exact join _ _ ⟨joinW ws2, _, rfl, ⟨ws2, wne2, w6, wa2, rfl⟩, B.move F5 s5, XD.move B.sub n0 s5⟩
    · clear B XD
      rintro σ H3 ⟨ls, f5, f7, f8, rfl, B, XD, l1, l2, nd, hl⟩
      try dsimp only [tNil]
      obtain ⟨us, eD, hus⟩ := id XD
      refine ⟨_, rfl, D, us, rfl, .inl ⟨SqL.of eD, fun z o hz _ => ?_⟩⟩
      have hzd := TD.dp (tup_td B.al hz (o := o) hus)
      replace B := B.same (new_same hz (.frz o (.tup us)))
      exact k (.ref z) ls _ (dp_same (rm_sub B.sub) hzd) (l2 (by omega)) l1 nd hl B.fl (s0.trans B.keep)
end
end Q
set_option Elab.async false
set_option linter.all false
set_option maxRecDepth 100000
set_option maxHeartbeats 4000000
/-! ### k07: _law_listed, _law_other -/
namespace Q
open PySem L2 XD XN
abbrev lineLL (l : Li) : PyData := .list [.str l.1, .list (l.2.map PyData.str)]
theorem getD_H7 {α : Type} {l : List α} {i : Nat} {x d : α} (h : l[i]? = some x) : l.getD i d = x := by rw [List.getD_eq_getElem?_getD, h] <;> rfl
theorem range_H7 {α β : Type} (l : List α) (d : α) (p : α → Bool) (g : α → β) : ((List.range l.length).filter fun i => p (l.getD i d)).map (fun i => g (l.getD i d)) = (l.filter p).map g := by
  have h0 : (List.range l.length).map (fun i => l.getD i d) = l := by
    refine List.ext_getElem (by rw [List.length_map, List.length_range]) fun i h1 h2 => ?_
    rw [List.getElem_map, List.getElem_range, List.getD_eq_getElem?_getD, List.getElem?_eq_getElem h2] <;> rfl
  have h : l.filter p = ((List.range l.length).map fun i => l.getD i d).filter p := by rw [h0]
  rw [h, List.filter_map, List.map_map]
  rfl
abbrev dL7 : Li := (Str.empty, [])
def spListed7 (K : PySem.W.Frag) : Sp := fun vs H Q _ => ∃ (S : List Addr) (v : V) (ls : List Li), vs = [v] ∧ Alive S H ∧ Dp K (rmL S H) v (.tuple (ls.map lineD)) ∧ ls.length ≤ 100 ∧ (∀ l ∈ ls, l.2.length ≤ 1000) ∧ ∀ v' H', Same H H' → Dp K (rmL S H') v' (.list (ls.map lineLL)) → Q v' H'
abbrev abc3 : List Str := ["a", "b", "c", "d", "e", "f", "g"]
def spOther7 (K : PySem.W.Frag) : Sp := fun vs H Q _ => ∃ (v : V) (d : PyData) (ws : List Str), vs = [v] ∧ Dp K H v d ∧ rowOf d = some (ws.map PyData.str) ∧ ws.length ≤ 6 ∧ ∀ (x : Str) H', Same H H' → x ∉ ws → word x = true → Q (.str x) H'
theorem call_listE7 {X : Cx} (K : PySem.W.Frag) (h : X.K = K) : CallR X (.type "list") (fun xs H Q => ∃ p ys, xs = [.ref p] ∧ (SqL K H p ys ∨ SqT K H p ys) ∧ ∀ l, H l = none → Q (.ref l) (L2.upd H l (.lst ys))) := by
  subst h
  exact call_list_of
theorem iteDF' {c : Bool} {A B : Prop} (h : c = false) (b : B) : if c = true then A else B := by
  rw [h]
  exact b
theorem iteDT' {c : Bool} {A B : Prop} (h : c = true) (a : A) : if c = true then A else B := by
  rw [h]
  exact a
abbrev nLi7 : List Str := ["book", "pair"]
abbrev nOt7 : List Str := ["words", "letter"]
section
variable {P : Program} {w : World} {K : PySem.W.Frag} {mg : Str → Option Value} {base : Heap}
theorem scLi7 : FnScope nLi7 ["book"] (defScope sLListed) := ⟨rfl, rfl, rfl, by decide +kernel, rfl, by decide +kernel, by decide +kernel⟩
theorem scOt7 : FnScope nOt7 ["words"] (defScope sLOther) := ⟨rfl, rfl, rfl, by decide +kernel, rfl, by decide +kernel, by decide +kernel⟩
theorem ok_listed7 {f : Addr} {fd : FuncData} (F : Fun K "_law_listed" "_law_listed" sLListed f fd) (T : Be7 mg) : FnOk P w K mg base CX0 1 f fd ["book"] (spListed7 K) := by
  refine F.ok scLi7 (fun vs H Q E h => ?_) (fun cdv A outer s H vs Q E hr h => ?_)
  · obtain ⟨S, v, ls, rfl, _⟩ := h
    rfl
  have vl_ : PySem.bootBuiltins "list" = some (.type "list") := by decide +kernel
  refine ⟨_, pss_one (ps_ret (pe_lc (own := [("pair", 1)]) (g := gName 1) (tt := tYes) (by rfl) scLi7.nd (pi_row (pv 0)) (blkOk_by (N := nLi7) (sc := defScope sLListed) (by decide +kernel)) (fun _ _ _ _ _ => (pg_name (i := 1) scLi7.nd rfl (.inl rfl))) (fun _ _ _ _ _ => pts_nil) (fun _ _ _ _ _ => (pe_lst (pa_cons (pe_ix (ix_both K rfl) (pv 1) pe_int (fun _ _ => rfl)) (pa_cons (pe_callTy (call_listE7 K rfl) (by rfl) T.list vl_ (pa_cons (pe_ix (ix_both K rfl) (pv 1) pe_int (fun _ _ => rfl)) pa_nil)) pa_nil)))))), ?_⟩
  obtain ⟨S, v, ls, rfl, A0, hv, l100, la, k⟩ := h
  try simp only [L2.start, gName, List.map_cons, List.map_nil, List.length_cons, List.length_nil, Nat.reduceAdd, Nat.reduceSub, List.replicate_succ, List.replicate_zero, List.cons_append, List.nil_append, List.set_cons_succ, List.set_cons_zero]
  refine (mx_lc (S := S) (es := ls.map lineLL) (fun _ => true) (fun i => lineLL (ls.getD i dL7)) A0 rfl hv rfl (by rw [List.length_map]; omega) (by rw [List.length_map]; have := range_H7 ls dL7 (fun _ => true) lineLL; rw [List.filter_eq_self.mpr (fun _ _ => rfl)] at this ⊢; rw [this, List.filter_eq_self.mpr (fun _ _ => rfl)]) ?lcT) H _ (Same.refl _) fun p us H1 s1 hp hus => ?_
  case lcT =>
    intro i v e D H' yes no he hv al sS s0 hy hn
    rw [List.getElem?_map] at he
    obtain ⟨x, ex, rfl⟩ := Option.map_eq_some_iff.mp he
    have eg : ls.getD i dL7 = x := getD_H7 ex
    have lx := la x (List.mem_of_getElem? ex)
    obtain ⟨q, ys, rfl, hq, hys⟩ := TD.of hv
    cases hys with
    | @cons y1 _ _ _ b1 hys =>
    cases hys with
    | @cons y2 _ _ _ b2 hys =>
    cases hys
    cases b1
    refine ⟨rfl, ?_⟩
    unfold tYes
    obtain ⟨z, zs, rfl, hz, hzs⟩ := TD.of b2
    refine iteT ⟨_, rfl, ix_row (.inr (seqT_same rm_le hq)) (by rfl) ⟨_, rfl, ix_row (.inr (seqT_same rm_le hq)) (by rfl) ⟨z, zs, rfl, .inr (seqT_same rm_le hz), fun l hl => ⟨by show 2 ≤ sizeLine; decide, fun r hr_ => hy rfl _ _ ((new_same hl _).trans (new_same hr_ _)) ?_⟩⟩⟩⟩
    show Dp K _ _ (lineLL (ls.getD i dL7))
    rw [eg]
    have hl2 := lst_dp al hl hzs
    exact lst_dp (al.same (new_same hl _)) hr_ (.cons (.str _) (.cons hl2 .nil))
  exact k _ _ (s1.trans (new_same hp _)) (lst_dp (A0.same s1) hp hus)
theorem ok_other7 {f : Addr} {fd : FuncData} (F : Fun K "_law_other" "_law_other" sLOther f fd) (T : Be7 mg) : FnOk P w K mg base CX0 1 f fd ["words"] (spOther7 K) := by
  refine F.ok scOt7 (fun vs H Q E h => ?_) (fun cdv A outer s H vs Q E hr h => ?_)
  · obtain ⟨v, d, ws, rfl, _⟩ := h
    rfl
  refine ⟨_, pss_one (ps_ret (pe_ix (ix_both K rfl) (pe_lc (own := [("letter", 1)]) (g := gName 1) (by rfl) scOt7.nd (pi_tup (pe_tupZ (pa_cons pe_str (pa_cons pe_str (pa_cons pe_str (pa_cons pe_str (pa_cons pe_str (pa_cons pe_str (pa_cons pe_str pa_nil))))))))) (blkOk_by (N := nOt7) (sc := defScope sLOther) (by decide +kernel)) (fun _ _ _ _ _ => (pg_name (i := 1) scOt7.nd rfl (.inl rfl))) (fun _ _ _ _ _ => (pts_one (pt_cmpR (op_notIn_seqK K rfl) (pv 1) (pv 0) (by with_unfolding_all rfl)))) (fun _ _ _ _ _ => (pv 1))) pe_int (fun _ _ => rfl))), ?_⟩
  obtain ⟨v, d, ws, rfl, hv, hr_, l6, k⟩ := h
  obtain ⟨q, ys, rfl, hq, hys⟩ := row_len hv hr_
  have ey := dps_str hys
  subst ey
  try simp only [L2.start, gName, List.map_cons, List.map_nil, List.length_cons, List.length_nil, Nat.reduceAdd, Nat.reduceSub, List.replicate_succ, List.replicate_zero, List.cons_append, List.nil_append, List.set_cons_succ, List.set_cons_zero]
  have A0 : Alive [] H := fun x hx => absurd hx List.not_mem_nil
  unfold tRet tOp
  show tLc (iTup K (tTupZ _)) (gName 1) _ _ _ _ H _
  refine (mx_lcT (S := []) (ds := abc3.map PyData.str) (es := (abc3.filter fun x => !decide (x ∈ ws)).map PyData.str) (fun i => !decide (abc3.getD i Str.empty ∈ ws)) (fun i => .str (abc3.getD i Str.empty)) A0 (mk_tup A0 (by rfl) (mkl_cons (mk_str "a") (mkl_cons (mk_str "b") (mkl_cons (mk_str "c") (mkl_cons (mk_str "d") (mkl_cons (mk_str "e") (mkl_cons (mk_str "f") (mkl_cons (mk_str "g") mkl_nil)))))))) (by decide) (range_H7 abc3 Str.empty (fun x => !decide (x ∈ ws)) PyData.str) ?lcT) H _ (Same.refl _) fun p us H1 s1 hp hus => ?_
  case lcT =>
    intro i v e D H' yes no he hv al sS s0 hy hn
    rw [List.getElem?_map] at he
    obtain ⟨x, ex, rfl⟩ := Option.map_eq_some_iff.mp he
    have eg : abc3.getD i Str.empty = x := getD_H7 ex
    cases hv
    rw [eg] at hy hn
    have hq' := hq.imp (fun z => Same.seq s0 z) fun z => seqT_same s0 z
    refine ⟨rfl, _, rfl, _, rfl, q, _, rfl, hq', rfl, flat_strs ws, _, rfl, ?_⟩
    by_cases hin : x ∈ ws
    · rw [decide_eq_true hin] at hn
      refine iteDF' ?_ (hn rfl H' (Same.refl H'))
      rw [inV_mem.mpr hin] <;> rfl
    · rw [decide_eq_false hin] at hy
      refine iteDT' ?_ ⟨_, rfl, hy rfl (.str x) H' (Same.refl H') (.str x)⟩
      have : inV (V.str x) (ws.map V.str) = false := by
        cases e : inV (V.str x) (ws.map V.str) with
        | false => rfl
        | true => exact absurd (inV_mem.mp e) hin
      rw [this] <;> rfl
  have eu := dps_str hus
  subst eu
  have some_ : abc3.filter (fun x => !decide (x ∈ ws)) ≠ [] := fun z => by
    have all : ∀ x ∈ abc3, x ∈ ws := fun x hx => by
      have := List.filter_eq_nil_iff.mp z x hx
      simpa using this
    have := List.Nodup.length_le_of_subset (show abc3.Nodup by decide +kernel) all
    have e7 : abc3.length = 7 := rfl
    omega
  cases e : abc3.filter (fun x => !decide (x ∈ ws)) with
  | nil => exact absurd e some_
  | cons x r =>
    have hx : x ∈ abc3.filter (fun x => !decide (x ∈ ws)) := by
      rw [e]
      exact List.mem_cons_self
    obtain ⟨h1, h2⟩ := List.mem_filter.mp hx
    have hw : ∀ x ∈ abc3, word x = true := by decide +kernel
    refine ix_row (.inl (SqL.of upd_same)) at0 (k x _ (s1.trans (new_same hp _)) ?_ (hw x h1))
    simpa using h2
end
end Q
set_option Elab.async false
set_option linter.all false
set_option maxRecDepth 100000
set_option maxHeartbeats 4000000
/-! ### what is no text, mathematics (as in SE10, for laws without it) -/
namespace Q
open PySem L2 XD XN
def BadText (d : PyData) : Prop := isText d = false ∧ Short9 d
theorem bt_no {d : PyData} (h : isText d = false) (g : Short9 d) : BadText d := ⟨h, g⟩
theorem bt_of {t : Str} (ws : List Str) (e : tlx t = TL.joinL [32] (ws.map TL.tl)) (hne : ws ≠ []) (h32 : ∀ w ∈ ws, 32 ∉ TL.tl w) (hb : ws.all word = false) (hl : t.length ≤ 900) : BadText (.str t) := by
  have et : t = joinW ws := tlx_inj (e.trans (tl_joinW ws).symm)
  refine ⟨?_, hl⟩
  show text t = false
  unfold text
  have e2 : Txt.split t " " = ws := by
    rw [et]
    exact split_any hne h32
  rw [e2]
  exact hb
theorem upper_32 : ∀ l : List Nat, l.all az = true → 32 ∉ tlx (Txt.upper ⟨l.toArray⟩)
  | [], _ => by decide +kernel
  | x :: l, h => fun hc => by
    rw [List.all_cons, Bool.and_eq_true] at h
    obtain ⟨c1, c2⟩ := az_iff h.1
    have es : (⟨(x :: l).toArray⟩ : Str) = (⟨#[x]⟩ : Str) ++ ⟨l.toArray⟩ := tlx_inj (by rw [tlx_app]; rfl)
    rw [es, PySem.W.KOpn.upper_app, PySem.W.KOpn.upper_one (by omega), tlx_app] at hc
    rcases List.mem_append.mp hc with hc | hc
    · rw [tlx_one] at hc
      have := List.mem_singleton.mp hc
      rw [if_pos ⟨c1, c2⟩] at this
      omega
    · exact upper_32 l h.2 hc
theorem up_32 {x : Str} (h : word x = true) : 32 ∉ TL.tl (Txt.upper x) := by
  have e : x = ⟨(tlx x).toArray⟩ := tlx_inj rfl
  rw [e]
  exact upper_32 _ (word_iff.mp h).2.2
theorem no_empty : word "" = false := by decide +kernel
theorem n32_nil : 32 ∉ TL.tl "" := by decide +kernel
theorem tl_lit {x : Str} : TL.tl x = tlx x := rfl
theorem tl_blank : tlx " " = [32] := by decide +kernel
theorem tl_blanks : tlx "  " = [32, 32] := by decide +kernel
theorem tl_none : tlx "" = [] := by decide +kernel
theorem no_sign {x : Str} {s : Str} {c : Nat} (hx : word x = true) (hs : tlx s = [c]) (hc : az c = false) (h32 : c ≠ 32) : word (x ++ s) = false ∧ 32 ∉ TL.tl (x ++ s) := by
  refine ⟨not_word_of (c := c) (by rw [tlx_app, hs]; exact List.mem_append_right _ (List.mem_singleton.mpr rfl)) hc, fun z => ?_⟩
  have z : 32 ∈ tlx (x ++ s) := z
  rw [tlx_app, hs] at z
  rcases List.mem_append.mp z with z | z
  · exact word_32 hx z
  · exact h32 (List.mem_singleton.mp z).symm
abbrev textsA (x : Str) : List PyData := [.str "", .str " ", .str (" " ++ x), .str (x ++ " "), .str (x ++ "  " ++ x), .str (Txt.upper x), .str (x ++ " " ++ Txt.upper x), .none, .int 0, .int 5]
abbrev textsB (x : Str) : List PyData := [.bool true, .tuple [.str x], .list [.str x], .tuple [], .list [], .str (x ++ "-" ++ x), .str "aaaaaaaaa", .str (x ++ " " ++ "aaaaaaaaa"), .str (x ++ "."), .str "7"]
theorem len_app (x y : Str) : (x ++ y).length = x.length + y.length := PySem.strLen_append x y
theorem bt_A {x : Str} (hx : word x = true) : ∀ d ∈ textsA x, BadText d := fun d hd => by
  have lx := word_len hx
  obtain ⟨u1, u2⟩ := upper_not hx
  have nx := word_32 hx
  have l1 : (" " : Str).length = 1 := rfl
  have l2 : ("  " : Str).length = 2 := rfl
  simp only [List.mem_cons, List.not_mem_nil, or_false] at hd
  rcases hd with rfl | rfl | rfl | rfl | rfl | rfl | rfl | rfl | rfl | rfl
  · exact bt_no (by decide +kernel) (by show ("" : Str).length ≤ 900; decide +kernel)
  · exact bt_no (by decide +kernel) (by show (" " : Str).length ≤ 900; decide +kernel)
  · refine bt_of ["", x] ?_ (by simp) (fun w hw => ?_) ?_ (by rw [len_app]; omega)
    · rw [tlx_app, tl_blank]
      show _ = TL.tl "" ++ ([32] ++ TL.tl x)
      rw [tl_lit, tl_lit, tl_none]
      rfl
    · simp only [List.mem_cons, List.not_mem_nil, or_false] at hw
      rcases hw with rfl | rfl
      · exact n32_nil
      · exact nx
    · rw [List.all_cons, no_empty, Bool.false_and]
  · refine bt_of [x, ""] ?_ (by simp) (fun w hw => ?_) ?_ (by rw [len_app]; omega)
    · rw [tlx_app, tl_blank]
      show _ = TL.tl x ++ ([32] ++ TL.tl "")
      rw [tl_lit, tl_lit, tl_none]
      rfl
    · simp only [List.mem_cons, List.not_mem_nil, or_false] at hw
      rcases hw with rfl | rfl
      · exact nx
      · exact n32_nil
    · rw [List.all_cons, List.all_cons, no_empty, Bool.false_and, Bool.and_false]
  · refine bt_of [x, "", x] ?_ (by simp) (fun w hw => ?_) ?_ (by rw [len_app, len_app]; omega)
    · rw [tlx_app, tlx_app, tl_blanks]
      show _ = TL.tl x ++ ([32] ++ (TL.tl "" ++ ([32] ++ TL.tl x)))
      rw [tl_lit, tl_lit, tl_none]
      simp
    · simp only [List.mem_cons, List.not_mem_nil, or_false] at hw
      rcases hw with rfl | rfl | rfl
      · exact nx
      · exact n32_nil
      · exact nx
    · rw [List.all_cons, List.all_cons, no_empty, Bool.false_and, Bool.and_false]
  · refine bt_of [Txt.upper x] rfl (by simp) (fun w hw => ?_) ?_ (by omega)
    · rw [List.mem_singleton.mp hw]
      exact up_32 hx
    · rw [List.all_cons, u1, Bool.false_and]
  · refine bt_of [x, Txt.upper x] ?_ (by simp) (fun w hw => ?_) ?_ (by rw [len_app, len_app]; omega)
    · rw [tlx_app, tlx_app, tl_blank]
      show _ = TL.tl x ++ ([32] ++ TL.tl (Txt.upper x))
      rw [tl_lit, tl_lit]
      simp
    · simp only [List.mem_cons, List.not_mem_nil, or_false] at hw
      rcases hw with rfl | rfl
      · exact nx
      · exact up_32 hx
    · rw [List.all_cons, List.all_cons, u1, Bool.false_and, Bool.and_false]
  · exact bt_no rfl trivial
  · exact bt_no rfl trivial
  · exact bt_no rfl trivial
theorem bt_B {x : Str} (hx : word x = true) : ∀ d ∈ textsB x, BadText d := fun d hd => by
  have lx := word_len hx
  have nx := word_32 hx
  have l1 : (" " : Str).length = 1 := rfl
  have l2 : ("-" : Str).length = 1 := rfl
  have l3 : ("." : Str).length = 1 := rfl
  have l9 : ("aaaaaaaaa" : Str).length = 9 := rfl
  have n9 : word "aaaaaaaaa" = false := by decide +kernel
  have t9 : 32 ∉ TL.tl "aaaaaaaaa" := by decide +kernel
  simp only [List.mem_cons, List.not_mem_nil, or_false] at hd
  rcases hd with rfl | rfl | rfl | rfl | rfl | rfl | rfl | rfl | rfl | rfl
  · exact bt_no rfl trivial
  · exact bt_no rfl trivial
  · exact bt_no rfl trivial
  · exact bt_no rfl trivial
  · exact bt_no rfl trivial
  · obtain ⟨g1, g2⟩ := no_sign (s := "-") (c := 45) hx (by decide +kernel) (by decide +kernel) (by decide)
    refine bt_of [x ++ "-" ++ x] rfl (by simp) (fun w hw => ?_) ?_ (by rw [len_app, len_app]; omega)
    · rw [List.mem_singleton.mp hw]
      intro z
      have z : 32 ∈ tlx (x ++ "-" ++ x) := z
      rw [tlx_app] at z
      exact (List.mem_append.mp z).elim g2 nx
    · have : word (x ++ "-" ++ x) = false := not_word_of (c := 45) (by
        rw [tlx_app, tlx_app]
        exact List.mem_append_left _ (List.mem_append_right _ (by decide +kernel))) (by decide +kernel)
      rw [List.all_cons, this, Bool.false_and]
  · exact bt_of ["aaaaaaaaa"] rfl (by simp) (fun w hw => by rw [List.mem_singleton.mp hw]; exact t9) (by rw [List.all_cons, n9, Bool.false_and]) (by rw [l9]; decide)
  · refine bt_of [x, "aaaaaaaaa"] ?_ (by simp) (fun w hw => ?_) ?_ (by rw [len_app, len_app]; omega)
    · rw [tlx_app, tlx_app, tl_blank]
      show _ = TL.tl x ++ ([32] ++ TL.tl "aaaaaaaaa")
      rw [tl_lit, tl_lit]
      simp
    · simp only [List.mem_cons, List.not_mem_nil, or_false] at hw
      rcases hw with rfl | rfl
      · exact nx
      · exact t9
    · rw [List.all_cons, List.all_cons, n9, Bool.false_and, Bool.and_false]
  · obtain ⟨g1, g2⟩ := no_sign (s := ".") (c := 46) hx (by decide +kernel) (by decide +kernel) (by decide)
    exact bt_of [x ++ "."] rfl (by simp) (fun w hw => by rw [List.mem_singleton.mp hw]; exact g2) (by rw [List.all_cons, g1, Bool.false_and]) (by rw [len_app]; omega)
  · exact bt_no (by decide +kernel) (by show ("7" : Str).length ≤ 900; decide +kernel)
theorem bt_C {x : Str} (hx : word x = true) : BadText (.str (x ++ "\n")) := by
  have lx := word_len hx
  have l1 : ("\n" : Str).length = 1 := rfl
  obtain ⟨g1, g2⟩ := no_sign (s := "\n") (c := 10) hx (by decide +kernel) (by decide +kernel) (by decide)
  exact bt_of [x ++ "\n"] rfl (by simp) (fun w hw => by rw [List.mem_singleton.mp hw]; exact g2) (by rw [List.all_cons, g1, Bool.false_and]) (by rw [len_app]; omega)
end Q
set_option Elab.async false
set_option linter.all false
set_option maxRecDepth 100000
set_option maxHeartbeats 4000000
/-! ### k07: what are no texts, no acts -/
namespace Q
open PySem L2 XD XN
theorem mk_upD {K : PySem.W.Frag} {S : List Addr} {H0 : Hp} {σ : L2.St} {te : TE} {x : Str} (h : MkD K S H0 σ te (.str x)) (hl : x.length ≤ 1000) : MkD K S H0 σ (tM0 (fun x xs H Q => ∃ a, x = .str a ∧ xs = [] ∧ a.length ≤ 5592405 ∧ Q (.str (Txt.upper a)) H) te) (.str (Txt.upper x)) := fun H Q s k =>
  h H _ s fun v H1 s1 hv => by
    cases hv
    exact ⟨⟨_, rfl⟩, _, rfl, rfl, Nat.le_trans hl (by decide), k _ H1 s1 (.str _)⟩
/-- a comprehension over a list that an expression gives -/
theorem mx_lcLi {K : PySem.W.Frag} {S : List Addr} {H0 : Hp} {σ : L2.St} {t0 : TE} {g : TG} {tt : TT} {te : TE} {ws : List Nat} {ds es : List PyData} (sel : Nat → Bool) (f : Nat → PyData) (A : Alive S H0) (h : MkD K S H0 σ t0 (.list ds)) (hl : ds.length ≤ 1000)
    (he : ((List.range ds.length).filter sel).map f = es)
    (turn : ∀ (i : Nat) (v : V) (e : PyData) (D : Addr) (H : Hp) (yes : VK) (no : Hp → Prop), ds[i]? = some e → Dp K (rmL (D :: S) H) v e → Alive (D :: S) H → Same (rmL S H0) (rmL (D :: S) H) → Same H0 H →
      (sel i = true → ∀ y H', Same H H' → Dp K (rmL (D :: S) H') y (f i) → yes y H') → (sel i = false → ∀ H', Same H H' → no H') →
      g v (wipe σ ws) H fun σ2 H2 => wipe σ2 ws = wipe σ ws ∧ tt σ2 H2 fun b H3 => if b = true then te σ2 H3 yes else no H3) : MkX K S H0 σ (tLc (iList K t0) g tt te ws) es := fun H Q s k =>
  (h H _ s fun v H1 s1 hv => by
    cases hv with
    | @lst q ys _ hq ha =>
    have ly := dps_len ha
    have hqf : SqL K H1 q ys := Same.seq rm_le hq
    refine ⟨q, rfl, ⟨ys, hqf⟩, fun D hD => ?_⟩
    have sD : ∀ {H' : Hp}, Same H1 H' → Same (rmL S H1) (rmL (D :: S) H') := fun s' => same_in hD s'
    refine lc_list (xs := ys) (fun i H' => ∃ zs, H' D = some (.lst zs) ∧ DpAll K (rmL (D :: S) H') zs (((List.range i).filter sel).map f) ∧ Same H1 H') ⟨[], upd_same, .nil, new_same hD _⟩ (fun i H' _ ⟨_, _, _, z⟩ => Same.seq z hqf) (fun i x H' hx ⟨zs, z1, z2, z3⟩ => ?_) (fun H' ⟨zs, z1, z2, z3⟩ => ?_)
    · obtain ⟨e, he', hd⟩ := dps_get ha hx
      have il := (List.getElem?_eq_some_iff.mp hx).1
      have zl := dps_len z2
      have rl : (((List.range i).filter sel).map f).length ≤ i := by
        rw [List.length_map]
        refine Nat.le_trans (List.length_filter_le _ _) ?_
        rw [List.length_range]
        exact Nat.le_refl _
      refine turn i x e D H' _ _ he' (dp_same (sD z3) hd) (fun y hy => ?_) ((rm_same (s.trans s1)).trans (sD z3)) ((s.trans s1).trans z3) (fun hs y H4 s4 hy => ⟨zs, s4 _ _ z1, small1000 (by omega), zs ++ [y], upd_same, ?_, fun b o z => ?_⟩) (fun hs H4 s4 => ⟨zs, s4 _ _ z1, ?_, z3.trans s4⟩)
      · rcases List.mem_cons.mp hy with rfl | hy
        · rw [z1]
          exact fun z => by cases z
        · exact ((A.same (s.trans s1)).same z3) y hy
      · rw [rm_put List.mem_cons_self, range_filter, if_pos hs, List.map_append]
        exact dps_app (dps_same (rm_same s4) z2) (.cons hy .nil)
      · rw [upd_ne (ne_of_none z hD)]
        exact s4 _ _ (z3 _ _ z)
      · rw [range_filter, if_neg (by rw [hs]; exact Bool.false_ne_true), List.append_nil]
        exact dps_same (rm_same s4) z2
    · have z2 : DpAll K (rmL (D :: S) H') zs es := by
        rw [← he, ← ly]
        exact z2
      have := k D zs (rmL [D] H') ((s1.trans (same_rm1 hD z3))) rm_gone (by rw [rm_rm]; exact z2)
      rw [rm_back z1] at this
      exact this)
theorem mx_lcL {K : PySem.W.Frag} {S : List Addr} {H0 : Hp} {σ : L2.St} {t0 : TE} {g : TG} {tt : TT} {te : TE} {ws : List Nat} {ds es : List PyData} (sel : Nat → Bool) (f : Nat → PyData) (A : Alive S H0) (h : MkD K S H0 σ t0 (.list ds)) (hl : ds.length ≤ 1000)
    (he : ((List.range ds.length).filter sel).map f = es)
    (turn : ∀ (i : Nat) (v : V) (e : PyData) (D : Addr) (H : Hp) (yes : VK) (no : Hp → Prop), ds[i]? = some e → Dp K (rmL (D :: S) H) v e → Alive (D :: S) H → Same (rmL S H0) (rmL (D :: S) H) → Same H0 H →
      (sel i = true → ∀ y H', Same H H' → Dp K (rmL (D :: S) H') y (f i) → yes y H') → (sel i = false → ∀ H', Same H H' → no H') →
      g v (wipe σ ws) H fun σ2 H2 => wipe σ2 ws = wipe σ ws ∧ tt σ2 H2 fun b H3 => if b = true then te σ2 H3 yes else no H3) : MkX K S H0 σ (tLc (iRow K t0) g tt te ws) es := fun H Q s k => .inl (mx_lcLi sel f A h hl he turn H Q s k)
/-- no text of a phrase -/
def BadTx (d : PyData) : Prop := Short9 d ∧ ∀ t p a, pairOf p = some (d, a) → isPhrase t p = false
theorem btx {d : PyData} (h : BadText d) : BadTx d := ⟨h.2, fun t p a e => phr_text e h.1⟩
abbrev badTs (x : Str) : List PyData := [.str "", .str " ", .str (" " ++ x), .str (x ++ " "), .str (x ++ "  " ++ x), .str (Txt.upper x), .str (x ++ "1"), .str (x ++ "abcdefgh")] ++ [.str (Txt.join " " [x, x, x, x, x, x, x]), .str (x ++ "\n" ++ x), .str (x ++ "\t"), .none, .int 5] ++ [.list [.str x], .tuple [.str x], .bool true, .str (x ++ "-" ++ x)]
theorem one_bad {s : Str} (h : word s = false) (h32 : 32 ∉ TL.tl s) (hl : s.length ≤ 900) : BadText (.str s) :=
  bt_of [s] rfl (by simp) (fun w hw => by rw [List.mem_singleton.mp hw]; exact h32) (by rw [List.all_cons, h, Bool.false_and]) hl
theorem badTs_bad {x : Str} (hx : word x = true) : ∀ d ∈ badTs x, BadTx d := fun d hd => by
  have hA := bt_A hx
  have hB := bt_B hx
  have lx := word_len hx
  have nx := word_32 hx
  obtain ⟨w1, w8, _⟩ := word_iff.mp hx
  have tl0 := tlx_len x
  have no : ∀ {d : PyData}, isText d = false → Short9 d → BadTx d := fun a b => btx ⟨a, b⟩
  rcases List.mem_append.mp hd with hd | hd
  · rcases List.mem_append.mp hd with hd | hd
    · simp only [List.mem_cons, List.not_mem_nil, or_false] at hd
      rcases hd with rfl | rfl | rfl | rfl | rfl | rfl | rfl | rfl
      · exact btx (hA _ (by simp))
      · exact btx (hA _ (by simp))
      · exact btx (hA _ (by simp))
      · exact btx (hA _ (by simp))
      · exact btx (hA _ (by simp))
      · exact btx (hA _ (by simp))
      · obtain ⟨g1, g2⟩ := no_sign (s := "1") (c := 49) hx (by decide +kernel) (by decide +kernel) (by decide)
        exact btx (one_bad g1 g2 (by have l1 : ("1" : Str).length = 1 := rfl; rw [len_app]; omega))
      · have l8 : ("abcdefgh" : Str).length = 8 := rfl
        have g1 : word (x ++ "abcdefgh") = false := by
          cases e : word (x ++ "abcdefgh") with
          | false => rfl
          | true =>
            have := word_len e
            rw [len_app] at this
            omega
        refine btx (one_bad g1 (fun z => ?_) (by rw [len_app]; omega))
        have z : 32 ∈ tlx (x ++ "abcdefgh") := z
        rw [tlx_app] at z
        exact (List.mem_append.mp z).elim nx (by decide +kernel)
    · simp only [List.mem_cons, List.not_mem_nil, or_false] at hd
      rcases hd with rfl | rfl | rfl | rfl | rfl
      · have hW : AllW [x, x, x, x, x, x, x] := fun y hy => by
          simp only [List.mem_cons, List.not_mem_nil, or_false, or_self] at hy
          rw [hy]
          exact hx
        have e : wordsOf (joinW [x, x, x, x, x, x, x]) = [x, x, x, x, x, x, x] := split_W (by simp) hW
        have jl := joinW_len hW
        have : [x, x, x, x, x, x, x].length = 7 := rfl
        refine ⟨?_, fun t p a ep => phr_long (x := joinW [x, x, x, x, x, x, x]) ep (by rw [e]; exact Nat.le_of_ble_eq_true rfl)⟩
        show (joinW [x, x, x, x, x, x, x]).length ≤ 900
        omega
      · have l1 : ("\n" : Str).length = 1 := rfl
        obtain ⟨g1, g2⟩ := no_sign (s := "\n") (c := 10) hx (by decide +kernel) (by decide +kernel) (by decide)
        have h1 : word (x ++ "\n" ++ x) = false := not_word_of (c := 10) (by
          rw [tlx_app, tlx_app]
          exact List.mem_append_left _ (List.mem_append_right _ (by decide +kernel))) (by decide +kernel)
        refine btx (one_bad h1 (fun z => ?_) (by rw [len_app, len_app]; omega))
        have z : 32 ∈ tlx (x ++ "\n" ++ x) := z
        rw [tlx_app] at z
        exact (List.mem_append.mp z).elim g2 nx
      · obtain ⟨g1, g2⟩ := no_sign (s := "\t") (c := 9) hx (by decide +kernel) (by decide +kernel) (by decide)
        exact btx (one_bad g1 g2 (by have l1 : ("\t" : Str).length = 1 := rfl; rw [len_app]; omega))
      · exact no rfl trivial
      · exact no rfl trivial
  · simp only [List.mem_cons, List.not_mem_nil, or_false] at hd
    rcases hd with rfl | rfl | rfl | rfl
    · exact no rfl trivial
    · exact no rfl trivial
    · exact no rfl trivial
    · exact btx (hB _ (by simp))
def spBadTs7 (K : PySem.W.Frag) : Sp := fun vs H Q _ => ∃ (S : List Addr) (p : Addr) (x : Str) (ws : List Str), vs = [.ref p] ∧ Alive S H ∧ rmL S H p = some (.lst ((x :: ws).map V.str)) ∧ word x = true ∧ ∀ v H', Same H H' → Dp K (rmL S H') v (.list (badTs x)) → Q v H'
abbrev nBt7 : List Str := ["pool", "word", "texts"]
section
variable {P : Program} {w : World} {K : PySem.W.Frag} {mg : Str → Option Value} {base : Heap}
theorem scBt7 : FnScope nBt7 ["pool"] (defScope sLBadTexts) := ⟨rfl, rfl, rfl, by decide +kernel, rfl, by decide +kernel, by decide +kernel⟩
theorem ok_badTs7 {f : Addr} {fd : FuncData} (F : Fun K "_law_bad_texts" "_law_bad_texts" sLBadTexts f fd) : FnOk P w K mg base CX0 1 f fd ["pool"] (spBadTs7 K) := by
  refine F.ok scBt7 (fun vs H Q E h => ?_) (fun cdv A outer s H vs Q E hr h => ?_)
  · obtain ⟨S, p, x, ws, rfl, _⟩ := h
    rfl
  refine ⟨_, pss_cons (ps_set (i := 1) scBt7.nd rfl (.inl rfl) (pe_ix (ix_both K rfl) (pv 0) pe_int (fun _ _ => rfl)))
    (pss_cons (ps_set (i := 2) scBt7.nd rfl (.inl rfl) (pe_lst (pa_cons pe_str (pa_cons pe_str (pa_cons (pe_op op_add_str pe_str (pv 1)) (pa_cons (pe_op op_add_str (pv 1) pe_str) (pa_cons (pe_op op_add_str (pe_op op_add_str (pv 1) pe_str) (pv 1)) (pa_cons (pe_upper (pv 1)) (pa_cons (pe_op op_add_str (pv 1) pe_str) (pa_cons (pe_op op_add_str (pv 1) pe_str) pa_nil))))))))))
    (pss_cons (ps_set (i := 2) scBt7.nd rfl (.inl rfl) (pe_op op_cat (pv 2) (pe_lst (pa_cons (pe_join pe_str (pe_lst (pa_cons (pv 1) (pa_cons (pv 1) (pa_cons (pv 1) (pa_cons (pv 1) (pa_cons (pv 1) (pa_cons (pv 1) (pa_cons (pv 1) pa_nil))))))))) (pa_cons (pe_op op_add_str (pe_op op_add_str (pv 1) pe_str) (pv 1)) (pa_cons (pe_op op_add_str (pv 1) pe_str) (pa_cons pe_non (pa_cons pe_int pa_nil))))))))
    (pss_one (ps_ret (pe_op op_cat (pv 2) (pe_lst (pa_cons (pe_lst (pa_cons (pv 1) pa_nil)) (pa_cons (pe_tupZ (pa_cons (pv 1) pa_nil)) (pa_cons pe_bl (pa_cons (pe_op op_add_str (pe_op op_add_str (pv 1) pe_str) (pv 1)) pa_nil)))))))))), ?_⟩
  obtain ⟨S, p, x, ws, rfl, A0, hp, hx, k⟩ := h
  have B : Blk K S (Alive S) _ _ _ _ H := Blk.new floA A0 .nil
  have lx := word_len hx
  have l1 : (" " : Str).length = 1 := rfl
  have l2 : ("  " : Str).length = 2 := rfl
  have l3 : ("1" : Str).length = 1 := rfl
  have l8 : ("abcdefgh" : Str).length = 8 := rfl
  have ln : ("\n" : Str).length = 1 := rfl
  have lt : ("\t" : Str).length = 1 := rfl
  have lm : ("-" : Str).length = 1 := rfl
  try simp only [L2.start, gName, List.map_cons, List.map_nil, List.length_cons, List.length_nil, Nat.reduceAdd, Nat.reduceSub, List.replicate_succ, List.replicate_zero, List.cons_append, List.nil_append, List.set_cons_succ, List.set_cons_zero]
  refine ⟨_, rfl, ix_row (.inl (SqL.of (rm_le _ _ hp))) at0 ?_⟩
  try simp only [gName, List.set_cons_succ, List.set_cons_zero]
  have xs : ∀ {H0 : Hp} {S : List Addr} {g2 : Option V}, MkD K S H0 [some (.ref p), some (.str x), g2] (tVar 1) (.str x) := fun {H0 S g2} => mk_var (i := 1) rfl (.str x)
  refine asg_X B (mx_lst (es := [.str "", .str " ", .str (" " ++ x), .str (x ++ " "), .str (x ++ "  " ++ x), .str (Txt.upper x), .str (x ++ "1"), .str (x ++ "abcdefgh")]) (by rfl)
    (mkl_cons (mk_str "") (mkl_cons (mk_str " ") (mkl_cons (mk_add (mk_str " ") xs (by omega)) (mkl_cons (mk_add xs (mk_str " ") (by omega)) (mkl_cons (mk_add (mk_add xs (mk_str "  ") (by omega)) xs (by rw [len_app]; omega)) (mkl_cons (mk_upD xs (by omega)) (mkl_cons (mk_add xs (mk_str "1") (by omega)) (mkl_cons (mk_add xs (mk_str "abcdefgh") (by omega)) mkl_nil))))))))) fun La oa H1 s1 nL n0 nS B XA => ?_
  try simp only [gName, List.set_cons_succ, List.set_cons_zero]
  refine asg_X B (mx_cat (es := [.str (Txt.join " " [x, x, x, x, x, x, x]), .str (x ++ "\n" ++ x), .str (x ++ "\t"), .none, .int 5]) (me_var (by rfl) XA) (me_new (mx_lst (by rfl)
    (mkl_cons (mk_join (ws := [x, x, x, x, x, x, x]) (mk_str " ") (me_new (mx_lst (es := [.str x, .str x, .str x, .str x, .str x, .str x, .str x]) (by rfl) (mkl_cons xs (mkl_cons xs (mkl_cons xs (mkl_cons xs (mkl_cons xs (mkl_cons xs (mkl_cons xs mkl_nil))))))))) ?joinT)
    (mkl_cons (mk_add (mk_add xs (mk_str "\n") (by omega)) xs (by rw [len_app]; omega)) (mkl_cons (mk_add xs (mk_str "\t") (by omega)) (mkl_cons mk_non (mkl_cons (mk_int 5) mkl_nil))))))) (Nat.le_of_ble_eq_true rfl)) fun Lb ob H2 s2 nL2 m0 mS B XB => ?_
  case joinT =>
    rw [l1]
    simp only [List.map, List.sum_cons, List.sum_nil, List.length_cons, List.length_nil]
    omega
  try simp only [gName, List.set_cons_succ, List.set_cons_zero]
  refine (mx_cat (S := Lb :: La :: S) (es := [.list [.str x], .tuple [.str x], .bool true, .str (x ++ "-" ++ x)]) (me_var (by rfl) XB) (me_new (mx_lst (by rfl)
    (mkl_cons (mk_lst B.al (by rfl) (mkl_cons xs mkl_nil)) (mkl_cons (mk_tup B.al (by rfl) (mkl_cons xs mkl_nil)) (mkl_cons (mk_bl true) (mkl_cons (mk_add (mk_add xs (mk_str "-") (by omega)) xs (by rw [len_app]; omega)) mkl_nil)))))) (Nat.le_of_ble_eq_true rfl)) _ _ (Same.refl _) fun q us H3 s3 hq hus => ?_
  have sT : Same H H3 := ((s1.trans (new_same nL _)).trans (s2.trans (new_same nL2 _))).trans s3
  exact k _ _ (sT.trans (new_same hq _)) (lst_dp (A0.same sT) hq (dps_same (rm_sub B.sub) hus))
end
end Q
set_option Elab.async false
set_option linter.all false
set_option maxRecDepth 100000
set_option maxHeartbeats 4000000
/-! ### k07: what are no acts, no pairs -/
namespace Q
open PySem L2 XD XN
abbrev badA1 (n x : Str) : List PyData := [.none, .int 5, .str "yes", .tuple [], .tuple [.str "yes", .str n], .tuple [.str "no", .str n, .str x], .tuple [.str "set", .str n], .tuple [.str "set", .str n, .str x, .str "a"]]
abbrev badA2 (n x o y : Str) : List PyData := [.tuple [.str "set", .str o, .str x], .tuple [.str "set", .str n, .str y], .tuple [.str "not", .str n, .str y], .tuple [.str "not", .str o, .str x]]
abbrev badA3 (n x o : Str) : List PyData := [.tuple [.str "drop"], .tuple [.str "drop", .str o], .tuple [.str "drop", .str n, .str x], .tuple [.str "set", .list [.str n], .str x], .tuple [.str "maybe"]]
abbrev badA4 (n : Str) : List PyData := [.tuple [.str "YES"], .tuple [.bool true], .tuple [.none], .tuple [.str "set", .str n, .none], .tuple [.str "not", .str n], .tuple [.list [.str "yes"]], .tuple [.str "yes "]]
abbrev badAs (n x o y : Str) : List PyData := badA1 n x ++ badA2 n x o y ++ badA3 n x o ++ badA4 n
theorem badAs_bad {t : List (Str × List Str)} {n x o y : Str} {ws : List Str} (O : GridOk t) (he : (n, x :: ws) ∈ t) (ho : o ∉ t.map (·.1)) (wo : word o = true) (hy : y ∉ x :: ws) (wy : word y = true) : ∀ d ∈ badAs n x o y, BadAct t d := fun d hd => by
  obtain ⟨wn, _, _, _, aw⟩ := O.nm _ he
  have wx := aw x List.mem_cons_self
  have lk := look_of O.nd he
  have ks : SeqAt.shaped (.str "set") = true := sh_lit (by decide +kernel)
  have kn : SeqAt.shaped (.str "not") = true := sh_lit (by decide +kernel)
  have kd : SeqAt.shaped (.str "drop") = true := sh_lit (by decide +kernel)
  have ky : SeqAt.shaped (.str "yes") = true := sh_lit (by decide +kernel)
  have ko : SeqAt.shaped (.str "no") = true := sh_lit (by decide +kernel)
  have ka : SeqAt.shaped (.str "a") = true := sh_lit (by decide +kernel)
  have kN : SeqAt.shaped .none = true := by decide +kernel
  have kT : SeqAt.shaped (.bool true) = true := by decide +kernel
  have sn := sh_w wn
  have sx := sh_w wx
  have so := sh_w wo
  have sy := sh_w wy
  have noY : stands (x :: ws) (.str y) = false := stands_noE fun w hw z => by
    cases z
    exact hy hw
  have els : ∀ {k : PyData} {r : List PyData}, isK "yes" k = false → isK "no" k = false → isK "drop" k = false → isK "set" k = false → isK "not" k = false → (∀ z ∈ k :: r, SeqAt.shaped z = true) → (k :: r).length ≤ 1000 → BadAct t (.tuple (k :: r)) := fun a b c d e f g => ⟨act_else a b c d e, fun ys h => by
    cases h
    exact ⟨g, f⟩⟩
  rcases List.mem_append.mp hd with hd | hd
  · rcases List.mem_append.mp hd with hd | hd
    · rcases List.mem_append.mp hd with hd | hd
      · simp only [List.mem_cons, List.not_mem_nil, or_false] at hd
        rcases hd with rfl | rfl | rfl | rfl | rfl | rfl | rfl | rfl
        · exact ⟨rfl, aok_no rfl⟩
        · exact ⟨rfl, aok_no rfl⟩
        · exact ⟨rfl, aok_no rfl⟩
        · exact ⟨rfl, aok_of rfl sh_nil⟩
        · refine ⟨?_, aok_of rfl (sh_cons ky (sh_cons sn sh_nil))⟩
          show actOf t (.str "yes") [.str n] = false
          unfold actOf
          have e1 : isK "yes" (.str "yes") = true := by decide +kernel
          rw [e1, Bool.true_or, if_pos rfl]
          rfl
        · refine ⟨?_, aok_of rfl (sh_cons ko (sh_cons sn (sh_cons sx sh_nil)))⟩
          show actOf t (.str "no") [.str n, .str x] = false
          unfold actOf
          have e1 : isK "no" (.str "no") = true := by decide +kernel
          rw [e1, Bool.or_true, if_pos rfl]
          rfl
        · exact ⟨set_act.trans (one_fact (no_pair rfl)), aok_of rfl (sh_cons ks (sh_cons sn sh_nil))⟩
        · exact ⟨set_act.trans (one_fact (no_pair rfl)), aok_of rfl (sh_cons ks (sh_cons sn (sh_cons sx (sh_cons ka sh_nil))))⟩
      · simp only [List.mem_cons, List.not_mem_nil, or_false] at hd
        rcases hd with rfl | rfl | rfl | rfl
        · exact ⟨set_act.trans (one_fact (go_noneE (look_noE ho))), aok_of rfl (sh_cons ks (sh_cons so (sh_cons sx sh_nil)))⟩
        · exact ⟨set_act.trans (one_fact (go_pairE lk noY)), aok_of rfl (sh_cons ks (sh_cons sn (sh_cons sy sh_nil)))⟩
        · exact ⟨not_act.trans (one_fact (go_pairE lk noY)), aok_of rfl (sh_cons kn (sh_cons sn (sh_cons sy sh_nil)))⟩
        · exact ⟨not_act.trans (one_fact (go_noneE (look_noE ho))), aok_of rfl (sh_cons kn (sh_cons so (sh_cons sx sh_nil)))⟩
    · simp only [List.mem_cons, List.not_mem_nil, or_false] at hd
      rcases hd with rfl | rfl | rfl | rfl | rfl
      · exact ⟨drop_act, aok_of rfl (sh_cons kd sh_nil)⟩
      · exact ⟨drop_act.trans (stands_noE fun w hw z => by cases z; exact ho hw), aok_of rfl (sh_cons kd (sh_cons so sh_nil))⟩
      · exact ⟨drop_act, aok_of rfl (sh_cons kd (sh_cons sn (sh_cons sx sh_nil)))⟩
      · refine ⟨set_act.trans (one_fact ?_), aok_of rfl (sh_cons ks (sh_cons (strs_shaped (ws := [n]) fun w hw => by rw [List.mem_singleton.mp hw]; exact word_ok wn) (sh_cons sx sh_nil)))⟩
        unfold goFacts
        rfl
      · exact els (by decide +kernel) (by decide +kernel) (by decide +kernel) (by decide +kernel) (by decide +kernel) (sh_cons (sh_lit (by decide +kernel)) sh_nil) (Nat.le_of_ble_eq_true rfl)
  · simp only [List.mem_cons, List.not_mem_nil, or_false] at hd
    rcases hd with rfl | rfl | rfl | rfl | rfl | rfl | rfl
    · exact els (by decide +kernel) (by decide +kernel) (by decide +kernel) (by decide +kernel) (by decide +kernel) (sh_cons (sh_lit (by decide +kernel)) sh_nil) (Nat.le_of_ble_eq_true rfl)
    · exact els (by decide +kernel) (by decide +kernel) (by decide +kernel) (by decide +kernel) (by decide +kernel) (sh_cons kT sh_nil) (Nat.le_of_ble_eq_true rfl)
    · exact els (by decide +kernel) (by decide +kernel) (by decide +kernel) (by decide +kernel) (by decide +kernel) (sh_cons kN sh_nil) (Nat.le_of_ble_eq_true rfl)
    · exact ⟨set_act.trans (one_fact (go_pairE lk (stands_noE fun w hw z => by cases z))), aok_of rfl (sh_cons ks (sh_cons sn (sh_cons kN sh_nil)))⟩
    · exact ⟨not_act.trans (one_fact (no_pair rfl)), aok_of rfl (sh_cons kn (sh_cons sn sh_nil))⟩
    · exact els (by decide +kernel) (by decide +kernel) (by decide +kernel) (by decide +kernel) (by decide +kernel) (sh_cons (by decide +kernel) sh_nil) (Nat.le_of_ble_eq_true rfl)
    · exact els (by decide +kernel) (by decide +kernel) (by decide +kernel) (by decide +kernel) (by decide +kernel) (sh_cons (sh_lit (by decide +kernel)) sh_nil) (Nat.le_of_ble_eq_true rfl)
theorem asg_call1 {te : TE} {sp : Sp} {i : Nat} {u : TS} {D : Ends} {σ : L2.St} {H : Hp} (h : te σ H fun x H1 => sp [x] H1 (fun v H2 => u D (σ.set i (some v)) H2) E0) : tSeq (tAsg (tCall sp [] E0 (tCons te tNil)) (gName i)) u D σ H := h
def spBadAs7 (K : PySem.W.Frag) : Sp := fun vs H Q _ => ∃ (S : List Addr) (v : V) (n x : Str) (ws : List Str) (t : List (Str × List Str)), vs = [v] ∧ Alive S H ∧ Dp K (rmL S H) v (.tuple (((n, x :: ws) :: t).map entD)) ∧ GridOk ((n, x :: ws) :: t) ∧
  ∀ v' o y H', Same H H' → Dp K (rmL S H') v' (.list (badAs n x o y)) → o ∉ ((n, x :: ws) :: t).map (·.1) → word o = true → y ∉ x :: ws → word y = true → Q v' H'
abbrev nBa7 : List Str := ["table", "name", "values", "pair", "none", "wrong", "acts"]
section
variable {P : Program} {w : World} {K : PySem.W.Frag} {mg : Str → Option Value} {base : Heap}
theorem scBa7 : FnScope nBa7 ["table"] (defScope sLBadActs) := ⟨rfl, rfl, rfl, by decide +kernel, rfl, by decide +kernel, by decide +kernel⟩
theorem ok_badAs7 {f : Addr} {fd : FuncData} (F : Fun K "_law_bad_acts" "_law_bad_acts" sLBadActs f fd) (KO : Kn P w K mg base 1 "_law_other" ["words"] (spOther7 K)) : FnOk P w K mg base CX0 2 f fd ["table"] (spBadAs7 K) := by
  obtain ⟨fO, fdO, GO, kO, bO, mO⟩ := KO.ex
  refine F.ok scBa7 (fun vs H Q E h => ?_) (fun cdv A outer s H vs Q E hr h => ?_)
  · obtain ⟨S, v, n, x, ws, t, rfl, _⟩ := h
    rfl
  refine ⟨_, pss_cons (ps_asg (pe_ix (ix_both K rfl) (pv 0) pe_int (fun _ _ => rfl)) (pg_row rfl (pgs_cons (pg_name (i := 1) scBa7.nd rfl (.inl rfl)) (pgs_cons (pg_name (i := 2) scBa7.nd rfl (.inl rfl)) pgs_nil))))
    (pss_cons (ps_set (i := 4) scBa7.nd rfl (.inl rfl) (pe_call GO hr (by rfl) mO kO bO .nil pass0 (pa_cons (pe_lc (own := [("pair", 3)]) (g := gName 3) (tt := tYes) (by rfl) scBa7.nd (pi_row (pv 0)) (blkOk_by (N := nBa7) (sc := defScope sLBadActs) (by decide +kernel)) (fun _ _ _ _ _ => (pg_name (i := 3) scBa7.nd rfl (.inl rfl))) (fun _ _ _ _ _ => pts_nil) (fun _ _ _ _ _ => (pe_ix (ix_both K rfl) (pv 3) pe_int (fun _ _ => rfl)))) pa_nil)))
    (pss_cons (ps_set (i := 5) scBa7.nd rfl (.inl rfl) (pe_call GO hr (by rfl) mO kO bO .nil pass0 (pa_cons (pv 2) pa_nil)))
    (pss_cons (ps_set (i := 6) scBa7.nd rfl (.inl rfl) (pe_lst (pa_cons pe_non (pa_cons pe_int (pa_cons pe_str (pa_cons (pe_tupZ pa_nil) (pa_cons (pe_tupZ (pa_cons pe_str (pa_cons (pv 1) pa_nil))) (pa_cons (pe_tupZ (pa_cons pe_str (pa_cons (pv 1) (pa_cons (pe_ix (ix_both K rfl) (pv 2) pe_int (fun _ _ => rfl)) pa_nil)))) (pa_cons (pe_tupZ (pa_cons pe_str (pa_cons (pv 1) pa_nil))) (pa_cons (pe_tupZ (pa_cons pe_str (pa_cons (pv 1) (pa_cons (pe_ix (ix_both K rfl) (pv 2) pe_int (fun _ _ => rfl)) (pa_cons pe_str pa_nil))))) pa_nil))))))))))
    (pss_cons (ps_set (i := 6) scBa7.nd rfl (.inl rfl) (pe_op op_cat (pv 6) (pe_lst (pa_cons (pe_tupZ (pa_cons pe_str (pa_cons (pv 4) (pa_cons (pe_ix (ix_both K rfl) (pv 2) pe_int (fun _ _ => rfl)) pa_nil)))) (pa_cons (pe_tupZ (pa_cons pe_str (pa_cons (pv 1) (pa_cons (pv 5) pa_nil)))) (pa_cons (pe_tupZ (pa_cons pe_str (pa_cons (pv 1) (pa_cons (pv 5) pa_nil)))) (pa_cons (pe_tupZ (pa_cons pe_str (pa_cons (pv 4) (pa_cons (pe_ix (ix_both K rfl) (pv 2) pe_int (fun _ _ => rfl)) pa_nil)))) pa_nil)))))))
    (pss_cons (ps_set (i := 6) scBa7.nd rfl (.inl rfl) (pe_op op_cat (pv 6) (pe_lst (pa_cons (pe_tupZ (pa_cons pe_str pa_nil)) (pa_cons (pe_tupZ (pa_cons pe_str (pa_cons (pv 4) pa_nil))) (pa_cons (pe_tupZ (pa_cons pe_str (pa_cons (pv 1) (pa_cons (pe_ix (ix_both K rfl) (pv 2) pe_int (fun _ _ => rfl)) pa_nil)))) (pa_cons (pe_tupZ (pa_cons pe_str (pa_cons (pe_lst (pa_cons (pv 1) pa_nil)) (pa_cons (pe_ix (ix_both K rfl) (pv 2) pe_int (fun _ _ => rfl)) pa_nil)))) (pa_cons (pe_tupZ (pa_cons pe_str pa_nil)) pa_nil))))))))
    (pss_one (ps_ret (pe_op op_cat (pv 6) (pe_lst (pa_cons (pe_tupZ (pa_cons pe_str pa_nil)) (pa_cons (pe_tupZ (pa_cons pe_bl pa_nil)) (pa_cons (pe_tupZ (pa_cons pe_non pa_nil)) (pa_cons (pe_tupZ (pa_cons pe_str (pa_cons (pv 1) (pa_cons pe_non pa_nil)))) (pa_cons (pe_tupZ (pa_cons pe_str (pa_cons (pv 1) pa_nil))) (pa_cons (pe_tupZ (pa_cons (pe_lst (pa_cons pe_str pa_nil)) pa_nil)) (pa_cons (pe_tupZ (pa_cons pe_str pa_nil)) pa_nil)))))))))))))))), ?_⟩
  obtain ⟨S, v, n, x, ws, t, rfl, A0, hv, O, k⟩ := h
  have B : Blk K S (Alive S) _ _ _ _ H := Blk.new floA A0 (.cons hv .nil)
  obtain ⟨tn, t1, t5, tnd, taw⟩ := O.nm _ List.mem_cons_self
  have hi := O.hi
  try simp only [L2.start, gName, List.map_cons, List.map_nil, List.length_cons, List.length_nil, Nat.reduceAdd, Nat.reduceSub, List.replicate_succ, List.replicate_zero, List.cons_append, List.nil_append, List.set_cons_succ, List.set_cons_zero]
  obtain ⟨q, ys, rfl, hq, hys⟩ := TD.of hv
  cases hys with
  | @cons y1 ys _ _ c1 hys =>
  obtain ⟨q1, zs, rfl, hq1, hzs⟩ := TD.of c1
  cases hzs with
  | @cons z1 _ _ _ d1 hzs =>
  cases hzs with
  | @cons z2 _ _ _ d2 hzs =>
  cases hzs
  cases d1
  refine ⟨_, rfl, ix_row (.inr (seqT_same rm_le hq)) at0 (.inl ⟨q1, [.str n, z2], rfl, seqT_same rm_le hq1, rfl, .str n, [z2], rfl, z2, [], rfl, rfl, ?_⟩)⟩
  try simp only [gName, List.set_cons_succ, List.set_cons_zero]
  replace B := B.add d2
  refine asg_call1 ?_
  refine (mx_lc (S := S) (ds := ((n, x :: ws) :: t).map entD) (es := (((n, x :: ws) :: t).map (·.1)).map PyData.str) (fun _ => true) (fun i => .str (((n, x :: ws) :: t).getD i (Str.empty, [])).1) B.al rfl hv rfl (by rw [List.length_map]; omega) ?lcE ?lcT) H _ (Same.refl _) fun p us H1 s1 hp hus => ?_
  case lcE =>
    rw [List.length_map, List.map_map]
    have := range_H7 ((n, x :: ws) :: t) (Str.empty, []) (fun _ => true) fun e => PyData.str e.1
    rw [List.filter_eq_self.mpr (fun _ _ => rfl)] at this ⊢
    rw [this, List.filter_eq_self.mpr (fun _ _ => rfl)] <;> rfl
  case lcT =>
    intro i v e D H' yes no he hv al sS s0 hy hn
    rw [List.getElem?_map] at he
    obtain ⟨e, ex, rfl⟩ := Option.map_eq_some_iff.mp he
    have eg : ((n, x :: ws) :: t).getD i (Str.empty, []) = e := getD_H7 ex
    obtain ⟨q2, ys2, rfl, hq2, hys2⟩ := TD.of hv
    cases hys2 with
    | @cons y3 _ _ _ b1 hys2 =>
    cases b1
    refine ⟨rfl, ?_⟩
    unfold tYes
    refine iteT ⟨_, rfl, ix_row (.inr (seqT_same rm_le hq2)) at0 (hy rfl _ H' (Same.refl _) ?_)⟩
    show Dp K _ _ (.str (((n, x :: ws) :: t).getD i (Str.empty, [])).1)
    rw [eg]
    exact .str _
  have hl := lst_dp (B.al.same s1) hp hus
  replace B := (B.same s1).same (new_same hp (.lst us))
  have sH : Same H (L2.upd H1 p (.lst us)) := s1.trans (new_same hp _)
  generalize L2.upd H1 p (.lst us) = H2 at hl B sH
  try simp only [gName, List.set_cons_succ, List.set_cons_zero]
  refine ⟨.ref p, .list ((((n, x :: ws) :: t).map (·.1)).map PyData.str), ((n, x :: ws) :: t).map (·.1), rfl, dp_same rm_le hl, rfl, by rw [List.length_map]; exact hi, fun o H3 s3 ho wo => ?_⟩
  replace B := B.same s3
  replace sH := sH.trans s3
  try simp only [gName, List.set_cons_succ, List.set_cons_zero]
  refine ⟨_, rfl, z2, .tuple ((x :: ws).map PyData.str), x :: ws, rfl, dp_same rm_le (dget B.E 0 rfl rfl), rfl, Nat.le_succ_of_le t5, fun y H4 s4 hy wy => ?_⟩
  replace B := B.same s4
  replace sH := sH.trans s4
  try simp only [gName, List.set_cons_succ, List.set_cons_zero]
  refine asg_X B (mx_lst (es := badA1 n x) (by rfl) (mkl_cons mk_non (mkl_cons (mk_int 5) (mkl_cons (mk_str "yes") (mkl_cons (mk_tup B.al (by rfl) mkl_nil) (mkl_cons (mk_tup B.al (by rfl) (mkl_cons (mk_str "yes") (mkl_cons (mk_var (i := 1) (by rfl) (.str n)) mkl_nil))) (mkl_cons (mk_tup B.al (by rfl) (mkl_cons (mk_str "no") (mkl_cons (mk_var (i := 1) (by rfl) (.str n)) (mkl_cons (mk_at (mk_var (i := 2) (by rfl) (dget B.E 0 rfl rfl)) (by rfl) (by first | rfl | exact at0)) mkl_nil)))) (mkl_cons (mk_tup B.al (by rfl) (mkl_cons (mk_str "set") (mkl_cons (mk_var (i := 1) (by rfl) (.str n)) mkl_nil))) (mkl_cons (mk_tup B.al (by rfl) (mkl_cons (mk_str "set") (mkl_cons (mk_var (i := 1) (by rfl) (.str n)) (mkl_cons (mk_at (mk_var (i := 2) (by rfl) (dget B.E 0 rfl rfl)) (by rfl) (by first | rfl | exact at0)) (mkl_cons (mk_str "a") mkl_nil))))) mkl_nil))))))))) fun La oa H5 s5 nL n0 nS B XA => ?_
  try simp only [gName, List.set_cons_succ, List.set_cons_zero]
  refine asg_X B (mx_cat (es := badA2 n x o y) (me_var (by rfl) XA) (me_new (mx_lst (by rfl) (mkl_cons (mk_tup B.al (by rfl) (mkl_cons (mk_str "set") (mkl_cons (mk_var (i := 4) (by rfl) (.str o)) (mkl_cons (mk_at (mk_var (i := 2) (by rfl) (dget B.E 0 rfl rfl)) (by rfl) (by first | rfl | exact at0)) mkl_nil)))) (mkl_cons (mk_tup B.al (by rfl) (mkl_cons (mk_str "set") (mkl_cons (mk_var (i := 1) (by rfl) (.str n)) (mkl_cons (mk_var (i := 5) (by rfl) (.str y)) mkl_nil)))) (mkl_cons (mk_tup B.al (by rfl) (mkl_cons (mk_str "not") (mkl_cons (mk_var (i := 1) (by rfl) (.str n)) (mkl_cons (mk_var (i := 5) (by rfl) (.str y)) mkl_nil)))) (mkl_cons (mk_tup B.al (by rfl) (mkl_cons (mk_str "not") (mkl_cons (mk_var (i := 4) (by rfl) (.str o)) (mkl_cons (mk_at (mk_var (i := 2) (by rfl) (dget B.E 0 rfl rfl)) (by rfl) (by first | rfl | exact at0)) mkl_nil)))) mkl_nil)))))) (Nat.le_of_ble_eq_true rfl)) fun Lb ob H6 s6 nL2 n02 nS2 B XB => ?_
  try simp only [gName, List.set_cons_succ, List.set_cons_zero]
  refine asg_X B (mx_cat (es := badA3 n x o) (me_var (by rfl) XB) (me_new (mx_lst (by rfl) (mkl_cons (mk_tup B.al (by rfl) (mkl_cons (mk_str "drop") mkl_nil)) (mkl_cons (mk_tup B.al (by rfl) (mkl_cons (mk_str "drop") (mkl_cons (mk_var (i := 4) (by rfl) (.str o)) mkl_nil))) (mkl_cons (mk_tup B.al (by rfl) (mkl_cons (mk_str "drop") (mkl_cons (mk_var (i := 1) (by rfl) (.str n)) (mkl_cons (mk_at (mk_var (i := 2) (by rfl) (dget B.E 0 rfl rfl)) (by rfl) (by first | rfl | exact at0)) mkl_nil)))) (mkl_cons (mk_tup B.al (by rfl) (mkl_cons (mk_str "set") (mkl_cons (mk_lst B.al (by rfl) (mkl_cons (mk_var (i := 1) (by rfl) (.str n)) mkl_nil)) (mkl_cons (mk_at (mk_var (i := 2) (by rfl) (dget B.E 0 rfl rfl)) (by rfl) (by first | rfl | exact at0)) mkl_nil)))) (mkl_cons (mk_tup B.al (by rfl) (mkl_cons (mk_str "maybe") mkl_nil)) mkl_nil))))))) (Nat.le_of_ble_eq_true rfl)) fun Lc oc H7 s7 nL3 n03 nS3 B XC => ?_
  try simp only [gName, List.set_cons_succ, List.set_cons_zero]
  refine (mx_cat (S := Lc :: Lb :: La :: S) (es := badA4 n) (me_var (by rfl) XC) (me_new (mx_lst (by rfl) (mkl_cons (mk_tup B.al (by rfl) (mkl_cons (mk_str "YES") mkl_nil)) (mkl_cons (mk_tup B.al (by rfl) (mkl_cons (mk_bl true) mkl_nil)) (mkl_cons (mk_tup B.al (by rfl) (mkl_cons mk_non mkl_nil)) (mkl_cons (mk_tup B.al (by rfl) (mkl_cons (mk_str "set") (mkl_cons (mk_var (i := 1) (by rfl) (.str n)) (mkl_cons mk_non mkl_nil)))) (mkl_cons (mk_tup B.al (by rfl) (mkl_cons (mk_str "not") (mkl_cons (mk_var (i := 1) (by rfl) (.str n)) mkl_nil))) (mkl_cons (mk_tup B.al (by rfl) (mkl_cons (mk_lst B.al (by rfl) (mkl_cons (mk_str "yes") mkl_nil)) mkl_nil)) (mkl_cons (mk_tup B.al (by rfl) (mkl_cons (mk_str "yes ") mkl_nil)) mkl_nil))))))))) (Nat.le_of_ble_eq_true rfl)) _ _ (Same.refl _) fun r us H8 s8 hr_ hus => ?_
  have sT : Same H H8 := (((sH.trans (s5.trans (new_same nL _))).trans (s6.trans (new_same nL2 _))).trans (s7.trans (new_same nL3 _))).trans s8
  exact k _ o y _ (sT.trans (new_same hr_ _)) (lst_dp (A0.same sT) hr_ (dps_same (rm_sub B.sub) hus)) ho wo hy wy
end
end Q
set_option Elab.async false
set_option linter.all false
set_option maxRecDepth 100000
set_option maxHeartbeats 4000000
/-! ### k07: what are no pairs -/
namespace Q
open PySem L2 XD XN
/-- no pair beside the line -/
def BadPr (t : List (Str × List Str)) (l : Li) (d : PyData) : Prop := POk d ∧ (isPhrase t d = false ∨ keyOfP d = keyOfP (lineD l))
abbrev badP1 (l : Li) : List PyData := [.none, .int 5, .str "ab", .tuple [], .tuple [.str l.1], .tuple [.str l.1, .tuple (l.2.map PyData.str), .tuple (l.2.map PyData.str)], .list [.tuple (l.2.map PyData.str), .str l.1], .tuple [.tuple (l.2.map PyData.str), .tuple (l.2.map PyData.str)], .tuple [.str l.1, .str l.1], .bool true]
abbrev badP4 (l : Li) : List PyData := [.tuple [.str l.1, .tuple (l.2.map PyData.str)], .list [.str l.1, .list (l.2.map PyData.str)]]
abbrev badPs (l : Li) (x n v o y : Str) : List PyData := badP1 l ++ (badTs x).map (fun b => PyData.tuple [b, .tuple (l.2.map PyData.str)]) ++ (badAs n v o y).map (fun b => PyData.tuple [.str l.1, b]) ++ badP4 l
theorem badPs_bad {t : List (Str × List Str)} {l : Li} {x n v o y : Str} (O : GridOk t) (hl : LiOk t 6 l) (hx : word x = true) (ha : ∀ d ∈ badAs n v o y, BadAct t d) : ∀ d ∈ badPs l x n v o y, BadPr t l d := fun d hd => by
  have pk := hl.pok O
  obtain ⟨s9, ak⟩ := pk _ _ (show pairOf (lineD l) = some (.str l.1, .tuple (l.2.map PyData.str)) from rfl)
  have none_ : ∀ {d : PyData}, pairOf d = none → BadPr t l d := fun h => ⟨pok_no h, .inl (phr_no h)⟩
  rcases List.mem_append.mp hd with hd | hd
  · rcases List.mem_append.mp hd with hd | hd
    · rcases List.mem_append.mp hd with hd | hd
      · simp only [List.mem_cons, List.not_mem_nil, or_false] at hd
        rcases hd with rfl | rfl | rfl | rfl | rfl | rfl | rfl | rfl | rfl | rfl
        · exact none_ rfl
        · exact none_ rfl
        · exact none_ rfl
        · exact none_ rfl
        · exact none_ rfl
        · exact none_ rfl
        · exact ⟨pok_two rfl trivial (aok_no rfl), .inl (phr_text rfl rfl)⟩
        · exact ⟨pok_two rfl trivial ak, .inl (phr_text rfl rfl)⟩
        · exact ⟨pok_two rfl s9 (aok_no rfl), .inl (phr_act rfl rfl)⟩
        · exact none_ rfl
      · obtain ⟨b, hb, rfl⟩ := List.mem_map.mp hd
        obtain ⟨b1, b2⟩ := badTs_bad hx b hb
        exact ⟨pok_two rfl b1 ak, .inl (b2 t _ _ rfl)⟩
    · obtain ⟨b, hb, rfl⟩ := List.mem_map.mp hd
      obtain ⟨b1, b2⟩ := ha b hb
      exact ⟨pok_two rfl s9 b2, .inl (phr_act rfl b1)⟩
  · simp only [List.mem_cons, List.not_mem_nil, or_false] at hd
    rcases hd with rfl | rfl
    · exact ⟨pk, .inr rfl⟩
    · refine ⟨pok_two rfl s9 (fun xs e => ?_), .inr rfl⟩
      have e : some (l.2.map PyData.str) = some xs := e
      exact ak xs e
theorem mx_list {K : PySem.W.Frag} {S : List Addr} {H0 : Hp} {σ : L2.St} {te : TE} {d : PyData} {ds : List PyData} (h : MkD K S H0 σ te d) (hr : rowOf d = some ds) : MkX K S H0 σ (tCB (fun xs H Q => ∃ p ys, xs = [.ref p] ∧ (SqL K H p ys ∨ SqT K H p ys) ∧ ∀ l, H l = none → Q (.ref l) (L2.upd H l (.lst ys))) (tCons te tNil)) ds := fun H Q s k =>
  h H _ s fun v H1 s1 hv => by
    obtain ⟨q, ys, rfl, hq, ha⟩ := row_len hv hr
    exact ⟨q, ys, rfl, lift_row hq, fun l hl => k l ys H1 s1 hl ha⟩
theorem lc_callL {K : PySem.W.Frag} {sp : Sp} {ta : TA} {g : TG} {tt : TT} {te : TE} {ws : List Nat} {σ : L2.St} {H : Hp} {Q : VK} (h : ta σ H fun xs H1 => sp (xs ++ []) H1 (fun v H2 => tLc (iList K (tC v)) g tt te ws σ H2 Q) E0) : tLc (iRow K (tCall sp [] E0 ta)) g tt te ws σ H Q := .inl h
theorem asg_cat2 {ta tb : TE} {i : Nat} {u : TS} {D : Ends} {σ : L2.St} {H : Hp} (h : ta σ H fun x H1 => tb σ H1 fun y H2 => rCat x y H2 fun v H3 => u D (σ.set i (some v)) H3) : tSeq (tAsg (tOp rCat ta tb) (gName i)) u D σ H := h
def spBadPs7 (K : PySem.W.Frag) : Sp := fun vs H Q _ => ∃ (S : List Addr) (bk tb : V) (p : Addr) (l : Li) (ls : List Li) (x : Str) (ws : List Str) (n v : Str) (us : List Str) (t : List (Str × List Str)), vs = [bk, .ref p, tb] ∧ Alive S H ∧ Dp K (rmL S H) bk (.tuple ((l :: ls).map lineD)) ∧ rmL S H p = some (.lst ((x :: ws).map V.str)) ∧ word x = true ∧
  Dp K (rmL S H) tb (.tuple (((n, v :: us) :: t).map entD)) ∧ GridOk ((n, v :: us) :: t) ∧ LiOk ((n, v :: us) :: t) 6 l ∧
  ∀ L ps H', Same H H' → H L = none → rmL S H' L = H' L → Lx K S L ps H' → ps.length = 53 → (∀ d ∈ ps, BadPr ((n, v :: us) :: t) l d) → Q (.ref L) H'
abbrev nBp7 : List Str := ["book", "pool", "table", "text", "act", "pairs", "bad"]
section
variable {P : Program} {w : World} {K : PySem.W.Frag} {mg : Str → Option Value} {base : Heap}
theorem scBp7 : FnScope nBp7 ["book", "pool", "table"] (defScope sLBadPairs) := ⟨rfl, rfl, rfl, by decide +kernel, rfl, by decide +kernel, by decide +kernel⟩
theorem ok_badPs7 {f : Addr} {fd : FuncData} (F : Fun K "_law_bad_pairs" "_law_bad_pairs" sLBadPairs f fd) (T : Be7 mg) (KT : Kn P w K mg base 1 "_law_bad_texts" ["pool"] (spBadTs7 K)) (KA : Kn P w K mg base 2 "_law_bad_acts" ["table"] (spBadAs7 K)) : FnOk P w K mg base CX0 3 f fd ["book", "pool", "table"] (spBadPs7 K) := by
  obtain ⟨fT, fdT, GT, kT, bT, mT⟩ := KT.ex
  obtain ⟨fA, fdA, GA, kA, bA, mA⟩ := KA.ex
  refine F.ok scBp7 (fun vs H Q E h => ?_) (fun cdv A outer s H vs Q E hr h => ?_)
  · obtain ⟨S, bk, tb, p, l, ls, x, ws, n, v, us, t, rfl, _⟩ := h
    rfl
  have hr1 := hr.mono (show 1 ≤ 2 by decide)
  have vl_ : PySem.bootBuiltins "list" = some (.type "list") := by decide +kernel
  refine ⟨_, pss_cons (ps_asg (pe_ix (ix_both K rfl) (pv 0) pe_int (fun _ _ => rfl)) (pg_row rfl (pgs_cons (pg_name (i := 3) scBp7.nd rfl (.inr rfl)) (pgs_cons (pg_name (i := 4) scBp7.nd rfl (.inr rfl)) pgs_nil))))
    (pss_cons (ps_set (i := 5) scBp7.nd rfl (.inl rfl) (pe_lst (pa_cons pe_non (pa_cons pe_int (pa_cons pe_str (pa_cons (pe_tupZ pa_nil) (pa_cons (pe_tupZ (pa_cons (pv 3) pa_nil)) (pa_cons (pe_tupZ (pa_cons (pv 3) (pa_cons (pv 4) (pa_cons (pv 4) pa_nil)))) (pa_cons (pe_lst (pa_cons (pv 4) (pa_cons (pv 3) pa_nil))) (pa_cons (pe_tupZ (pa_cons (pv 4) (pa_cons (pv 4) pa_nil))) (pa_cons (pe_tupZ (pa_cons (pv 3) (pa_cons (pv 3) pa_nil))) (pa_cons pe_bl pa_nil))))))))))))
    (pss_cons (ps_set (i := 5) scBp7.nd rfl (.inl rfl) (pe_op op_cat (pe_op op_cat (pv 5) (pe_lc (own := [("bad", 6)]) (g := gName 6) (tt := tYes) (by rfl) scBp7.nd (pi_row (pe_call GT hr1 (by rfl) mT kT bT .nil pass0 (pa_cons (pv 1) pa_nil))) (blkOk_by (N := nBp7) (sc := defScope sLBadPairs) (by decide +kernel)) (fun _ _ _ _ _ => (pg_name (i := 6) scBp7.nd rfl (.inl rfl))) (fun _ _ _ _ _ => pts_nil) (fun _ _ _ _ _ => (pe_tupZ (pa_cons (pv 6) (pa_cons (pv 4) pa_nil)))))) (pe_lc (own := [("bad", 6)]) (g := gName 6) (tt := tYes) (by rfl) scBp7.nd (pi_row (pe_call GA hr (by rfl) mA kA bA .nil pass0 (pa_cons (pv 2) pa_nil))) (blkOk_by (N := nBp7) (sc := defScope sLBadPairs) (by decide +kernel)) (fun _ _ _ _ _ => (pg_name (i := 6) scBp7.nd rfl (.inl rfl))) (fun _ _ _ _ _ => pts_nil) (fun _ _ _ _ _ => (pe_tupZ (pa_cons (pv 3) (pa_cons (pv 6) pa_nil)))))))
    (pss_one (ps_ret (pe_op op_cat (pv 5) (pe_lst (pa_cons (pe_tupZ (pa_cons (pv 3) (pa_cons (pv 4) pa_nil))) (pa_cons (pe_lst (pa_cons (pv 3) (pa_cons (pe_callTy (call_listE7 K rfl) (by rfl) T.list vl_ (pa_cons (pv 4) pa_nil)) pa_nil))) pa_nil)))))))), ?_⟩
  obtain ⟨S, bk, tb, p, l, ls, x, ws, n, v, us, t, rfl, A0, hb, hp, hx, ht, O, lo, k⟩ := h
  have B : Blk K S (Alive S) _ _ _ _ H := Blk.new floA A0 (.cons hb (.cons ht .nil))
  try simp only [L2.start, gName, List.map_cons, List.map_nil, List.length_cons, List.length_nil, Nat.reduceAdd, Nat.reduceSub, List.replicate_succ, List.replicate_zero, List.cons_append, List.nil_append, List.set_cons_succ, List.set_cons_zero]
  obtain ⟨q, ys, rfl, hq, hys⟩ := TD.of hb
  cases hys with
  | @cons y1 ys _ _ c1 hys =>
  obtain ⟨q1, zs, rfl, hq1, hzs⟩ := TD.of c1
  cases hzs with
  | @cons z1 _ _ _ d1 hzs =>
  cases hzs with
  | @cons z2 _ _ _ d2 hzs =>
  cases hzs
  cases d1
  refine ⟨_, rfl, ix_row (.inr (seqT_same rm_le hq)) at0 (.inl ⟨q1, [.str l.1, z2], rfl, seqT_same rm_le hq1, rfl, .str l.1, [z2], rfl, z2, [], rfl, rfl, ?_⟩)⟩
  try simp only [gName, List.set_cons_succ, List.set_cons_zero]
  replace B := B.add d2
  refine asg_X B (mx_lst (es := badP1 l) (by rfl) (mkl_cons mk_non (mkl_cons (mk_int 5) (mkl_cons (mk_str "ab") (mkl_cons (mk_tup B.al (by rfl) mkl_nil) (mkl_cons (mk_tup B.al (by rfl) (mkl_cons (mk_var (i := 3) (by rfl) (.str l.1)) mkl_nil)) (mkl_cons (mk_tup B.al (by rfl) (mkl_cons (mk_var (i := 3) (by rfl) (.str l.1)) (mkl_cons (mk_var (i := 4) (by rfl) (dget B.E 0 rfl rfl)) (mkl_cons (mk_var (i := 4) (by rfl) (dget B.E 0 rfl rfl)) mkl_nil)))) (mkl_cons (mk_lst B.al (by rfl) (mkl_cons (mk_var (i := 4) (by rfl) (dget B.E 0 rfl rfl)) (mkl_cons (mk_var (i := 3) (by rfl) (.str l.1)) mkl_nil))) (mkl_cons (mk_tup B.al (by rfl) (mkl_cons (mk_var (i := 4) (by rfl) (dget B.E 0 rfl rfl)) (mkl_cons (mk_var (i := 4) (by rfl) (dget B.E 0 rfl rfl)) mkl_nil))) (mkl_cons (mk_tup B.al (by rfl) (mkl_cons (mk_var (i := 3) (by rfl) (.str l.1)) (mkl_cons (mk_var (i := 3) (by rfl) (.str l.1)) mkl_nil))) (mkl_cons (mk_bl true) mkl_nil))))))))))) fun La oa H1 s1 nL n0 nS B XA => ?_
  try simp only [gName, List.set_cons_succ, List.set_cons_zero]
  have l17 : (badTs x).length = 17 := rfl
  -- texts that are none
  have X1 := mx_cat (S := La :: S) (σ := [some (.ref q), some (.ref p), some tb, some (.str l.1), some z2, some (.ref La), none]) (me_var (i := 5) rfl XA) (me_new (mx_lcL (t0 := tCall (spBadTs7 K) [] E0 (tCons (tVar 1) tNil)) (g := gName 6) (tt := tYes) (te := tTupZ (tCons (tVar 6) (tCons (tVar 4) tNil))) (ws := [6]) (ds := badTs x) (es := (badTs x).map fun b => PyData.tuple [b, .tuple (l.2.map PyData.str)]) (fun _ => true) (fun i => .tuple [(badTs x).getD i .none, .tuple (l.2.map PyData.str)]) B.al
    (fun H Q s k => ⟨_, rfl, La :: S, p, x, ws, rfl, B.al.same s, (rm_same s) _ _ (B.base _ _ hp), hx, fun v H' s' h => k v H' s' h⟩) (by rw [l17]; decide) ?e1 ?t1)) (Nat.le_of_ble_eq_true rfl)
  case e1 =>
    have := range_H7 (badTs x) .none (fun _ => true) fun b => PyData.tuple [b, .tuple (l.2.map PyData.str)]
    rw [this, List.filter_eq_self.mpr (fun _ _ => rfl)]
  case t1 =>
    intro i v e D H' yes no he hv al sS s0 hy hn
    have eg : (badTs x).getD i .none = e := getD_H7 he
    refine ⟨rfl, ?_⟩
    unfold tYes
    rw [eg] at hy
    exact iteT ((mk_tup al (by rfl) (mkl_cons (mk_var (i := 6) (by rfl) hv) (mkl_cons (mk_var (i := 4) (by rfl) (dp_same sS (dget B.E 0 rfl rfl))) mkl_nil))) H' _ (Same.refl _) fun y H4 s4 hy4 => hy rfl y H4 s4 hy4)
  refine asg_cat2 (X1 _ _ (Same.refl _) fun pb ub H2 s2 npb hub => ?_)
  have XB : Lx K (La :: S) pb (badP1 l ++ (badTs x).map fun b => PyData.tuple [b, .tuple (l.2.map PyData.str)]) (L2.upd H2 pb (.lst ub)) := ⟨ub, upd_same, dps_same (rm_same (new_same npb _)) hub⟩
  replace B := (B.same s2).same (new_same npb (.lst ub))
  have sH : Same H (L2.upd H2 pb (.lst ub)) := (s1.trans (new_same nL _)).trans (s2.trans (new_same npb _))
  generalize L2.upd H2 pb (.lst ub) = G at XB B sH
  refine lc_callL (K := K) ?_
  refine ⟨_, rfl, La :: S, tb, n, v, us, t, rfl, B.al, dget B.E 2 rfl rfl, O, fun v' o y H3 s3 hv' ho wo hy wy => ?_⟩
  replace B := B.same s3
  replace XB := XB.same s3
  replace sH := sH.trans s3
  have l24 : (badAs n v o y).length = 24 := rfl
  refine (mx_lcLi (S := La :: S) (t0 := tC v') (ds := badAs n v o y) (es := (badAs n v o y).map fun b => PyData.tuple [.str l.1, b]) (fun _ => true) (fun i => .tuple [.str l.1, (badAs n v o y).getD i .none]) B.al (fun H Q s k => k v' H (Same.refl _) (dp_same (rm_same s) hv')) (by rw [l24]; decide) ?e2 ?t2) H3 _ (Same.refl _) fun pc uc H4 s4 npc huc => ?_
  case e2 =>
    have := range_H7 (badAs n v o y) .none (fun _ => true) fun b => PyData.tuple [.str l.1, b]
    rw [this, List.filter_eq_self.mpr (fun _ _ => rfl)]
  case t2 =>
    intro i v e D H' yes no he hv al sS s0 hy hn
    have eg : (badAs n _ o y).getD i .none = e := getD_H7 he
    refine ⟨rfl, ?_⟩
    unfold tYes
    rw [eg] at hy
    exact iteT ((mk_tup al (by rfl) (mkl_cons (mk_var (i := 3) (by rfl) (.str l.1)) (mkl_cons (mk_var (i := 6) (by rfl) hv) mkl_nil))) H' _ (Same.refl _) fun y H4 s4 hy4 => hy rfl y H4 s4 hy4)
  replace B := B.same s4
  replace XB := XB.same s4
  replace sH := sH.trans s4
  have XC : Lx K (La :: S) pc ((badAs n v o y).map fun b => PyData.tuple [.str l.1, b]) (L2.upd H4 pc (.lst uc)) := ⟨uc, upd_same, dps_same (rm_same (new_same npc _)) huc⟩
  replace B := B.same (new_same npc (.lst uc))
  replace XB := XB.same (new_same npc (.lst uc))
  replace sH := sH.trans (new_same npc (.lst uc))
  generalize L2.upd H4 pc (.lst uc) = G2 at XB XC B sH
  obtain ⟨u1, e1, h1⟩ := XB
  obtain ⟨u2, e2, h2⟩ := XC
  have lu1 := dps_len h1
  have lu2 := dps_len h2
  have k1 : (badP1 l ++ (badTs x).map fun b => PyData.tuple [b, .tuple (l.2.map PyData.str)]).length = 27 := rfl
  have k2 : ((badAs n v o y).map fun b => PyData.tuple [.str l.1, b]).length = 24 := rfl
  refine ⟨pb, pc, u1, u2, rfl, rfl, e1, e2, le_line (by omega), fun pd hpd => ?_⟩
  have XD : Lx K (La :: S) pd ((badP1 l ++ (badTs x).map fun b => PyData.tuple [b, .tuple (l.2.map PyData.str)]) ++ (badAs n v o y).map fun b => PyData.tuple [.str l.1, b]) (L2.upd G2 pd (.lst (u1 ++ u2))) := ⟨_, upd_same, dps_same (rm_same (new_same hpd _)) (dps_app h1 h2)⟩
  replace B := B.same (new_same hpd (.lst (u1 ++ u2)))
  replace sH := sH.trans (new_same hpd (.lst (u1 ++ u2)))
  generalize L2.upd G2 pd (.lst (u1 ++ u2)) = G3 at XD B sH
  try simp only [gName, List.set_cons_succ, List.set_cons_zero]
  refine (mx_cat (S := La :: S) (es := badP4 l) (me_var (by rfl) XD) (me_new (mx_lst (by rfl) (mkl_cons (mk_tup B.al (by rfl) (mkl_cons (mk_var (i := 3) (by rfl) (.str l.1)) (mkl_cons (mk_var (i := 4) (by rfl) (dget B.E 0 rfl rfl)) mkl_nil)))
    (mkl_cons (mk_lst B.al (by rfl) (mkl_cons (mk_var (i := 3) (by rfl) (.str l.1)) (mkl_cons (mk_new B.al (mx_list (mk_var (i := 4) (by rfl) (dget B.E 0 rfl rfl)) rfl)) mkl_nil))) mkl_nil)))) (Nat.le_of_ble_eq_true rfl)) _ _ (Same.refl _) fun r ur H8 s8 hr_ hur => ?_
  have sT := sH.trans s8
  have rS : r ∉ S := fun z => A0.same sT r z hr_
  have hH : H r = none := by
    cases e : H r with
    | none => rfl
    | some o =>
      have := sT _ _ e
      rw [hr_] at this
      cases this
  exact k r (badPs l x n v o y) _ (sT.trans (new_same hr_ _)) hH (rm_at rS) ⟨ur, upd_same, dps_same (rm_same (new_same hr_ _)) (dps_same (rm_sub B.sub) hur)⟩ rfl (badPs_bad O lo hx (badAs_bad O List.mem_cons_self ho wo hy wy))
end
end Q
set_option Elab.async false
set_option linter.all false
set_option maxRecDepth 100000
set_option maxHeartbeats 4000000
/-! Within an except suite: isinstance of what was caught (it has its own dict); all(..) of a list of truths; a list comprehension over a range. -/
namespace XH
open PySem PySem.Spec PySem.W PySem.Calls PyProof.Rows
section
variable {prog : Program} {w : World} {A : Around} {E : Value → Shared → Prop} {s : Shared} {K : Frag} {x D : Addr} {ox : Obj} {od : Option Obj}
/-- what the class says, so that isinstance asks its instances rightly -/
structure ClsQ (K : Frag) (D : Addr) : Prop where
  hg : findIn K (.ref D) "__getattribute__" = some (some (.builtin "BaseException.__getattribute__"))
  hk : findIn K (.ref D) "__getattr__" = some none
  hs : subIn K (.ref D) (.type "BaseException") = some true
  hd : hasDictIn K D = true
  ha : findIn K (.ref D) "__class__" = some (some (.builtin "object.__class__"))
  hn : specialIn K (.builtin "object.__class__") "__get__" = some (some (.builtin "getset_descriptor.__get__"))
  ht : takesIn K (.builtin "object.__class__") = some true
  hm : mroIn K D (.type "object") = some true
theorem class_found (T : ClsQ K D) : findObj K D od "__class__" = some (.bind (.builtin "getset_descriptor.__get__") (.builtin "object.__class__")) := by
  obtain ⟨cd, hc, _⟩ := any_some T.hd
  have h1 := T.hn
  have h2 := T.ht
  unfold findObj
  rw [hc, Option.bind_some, T.ha, Option.bind_some]
  simp [h1, h2]
theorem asked_class (T : ClsQ K D) {Q : Option Value → Shared → Prop} (X : K.In s.heap) (I : InstAt s.heap x ox D od)
    (h : Q (some (.ref D)) { s with toks := s.toks + 1 }) : wpAny (model prog w) A (getAttr? (.ref x) "__class__") Q E s := by
  have hf := class_found (od := od) T
  obtain ⟨hp, g, d, t, os⟩ := s
  have ty := I.type (M := model prog w)
  have l1 := looks_findIn (M := model prog w) X T.hg
  have l2 := looks_findIn (M := model prog w) X T.hk
  have l3 := looks_find (M := model prog w) X I hf
  have sub : Looks (model prog w) hp (isInstance (.ref x) (.type "BaseException")) true := ty.andThen (looks_subIn X T.hs)
  have no0 : (false && onTheHeap (Value.builtin "BaseException.__getattribute__")) = false := rfl
  have no2 : (Value.builtin "BaseException.__getattribute__" == Value.builtin "object.__getattribute__") = false := by
    decide +kernel
  have no1 : (onTheHeap (Value.ref D) && Value.builtin "BaseException.__getattribute__" == Value.builtin "object.__getattribute__") = false := by
    rw [no2]
    rfl
  unfold getAttr? getAttrBy? getAttrBy
  refine wpAny_bind (wpAny_mkText (wpAny_bind (wpAny_attempt (wpAny_holding (wpAny_bind (ty.at (wpAny_bind (l1.at ?_))))))))
  show wpAny _ _ (if (onTheHeap (Value.ref D) && Value.builtin "BaseException.__getattribute__" == Value.builtin "object.__getattribute__") = true then _ else _) _ _ _
  rw [no1, if_neg Bool.false_ne_true]
  unfold getAttrByItsOwn hookBefore
  refine wpAny_bind ?_
  rw [if_pos (show onTheHeap (Value.ref D) = true from rfl)]
  refine l2.at ?_
  refine wpAny_bind (wpAny_attempt (wpAny_holding ?_))
  unfold callGetattribute
  rw [no0, if_neg Bool.false_ne_true]
  unfold boundAndCalled
  rw [PySem.F.excAttr_ValueError.ga.bind (.ref x)]
  refine wpAny_bind (wpAny_pure ?_)
  show wpAny _ _ (call (.builtin "BaseException.__getattribute__") [.ref x, .str "__class__" t]) _ _ _
  refine wpAny_call (codeAny_call_builtin PySem.F.excAttr_ValueError.ga.plain PySem.F.entry_bexc_ga ?_)
  refine @check_slot (model prog w) _ _ ⟨hp, g, d, t + 1, os⟩ "BaseException.__getattribute__" "BaseException" "__getattribute__" (.ref x) [.str "__class__" t] [] _ (by decide +kernel) (by decide +kernel) sub (PySem.F.args_bexc_ga (.ref x) (.str "__class__" t)) ?_
  unfold Builtin.«object.__getattribute__»
  refine wpAny_bind (wpAny_of_eq (a := ((Value.ref x : Value), [Value.str "__class__" t])) (by first | rfl | (simp only [slotArgs]; rfl)) ?_)
  refine wpAny_bind (wpAny_pure (wpAny_bind (ty.at (wpAny_bind (l3.at ?_)))))
  show wpAny _ _ (holding [Value.builtin "object.__class__"] (call (.builtin "getset_descriptor.__get__") [.builtin "object.__class__", .ref x, .ref D]) >>= ret) _ _ _
  refine wpAny_bind (wpAny_holding (wpAny_call (class_get (s := ⟨hp, g, d, t + 1, os⟩) (ox := ox) (od := od) X I T.hm ?_)))
  refine wpAny_pure ?_
  show wpAny _ _ (handedOut (.ref D)) _ _ _
  rw [handedOut_of (v := .ref D) rfl]
  first
    | exact wpAny_pure (wpAny_pure h)
    | exact wpAny_pure h
    | exact wpAny_pure (wpAny_bind (wpAny_pure (wpAny_pure h)))
theorem kit_err (T : ClsQ K D) : KitX K (.ref x) (.ref D) (fun h => ∃ ox od, InstAt h x ox D od) where
  ty := fun _ _ _ ⟨_, _, I⟩ => I.type
  it := fun _ _ X _ => by
    obtain ⟨cd, hc, _⟩ := any_some T.hd
    unfold clsIn at hc
    split at hc
    · rename_i c' d' cd' sl' ho
      intro A' Q' E' s' k q
      unfold isType loadHead
      exact wpAny_bind (wpAny_loadPart (k _ _ (X _ _ ho)) (wpAny_pure q))
    · cases hc
  ne := fun h tp dd its n sl X htp => by
    obtain ⟨cd, hc, _⟩ := any_some T.hd
    refine Bool.eq_false_iff.mpr fun q => ?_
    have e : D = tp := Value.ref.inj (beq_iff_eq.mp q)
    subst e
    unfold clsIn at hc
    split at hc
    · rename_i c' d' cd' sl' ho
      have z := (X _ _ ho).symm.trans htp
      cases z
    · cases hc
  ca := fun X I k => by
    obtain ⟨ox, od, I⟩ := I
    exact asked_class T X I k
end
end XH
namespace XH
open PySem PySem.Spec PyProof.Rows L2
/-- isinstance(e, c): e what the suite holds, c one class -/
def rIs1 (K : PySem.W.Frag) (D a : Addr) : List V → Hp → VK → Prop := fun xs H Q =>
  ∃ (c : V) (cv : Value) (b : Bool), xs = [.ref a, c] ∧ ClsV c cv ∧ PySem.W.kitOne K (.ref D) cv = some b ∧ Q (.bl b) H
/-- isinstance(e, (c1, ..)): the tuple just laid -/
def rIsN (K : PySem.W.Frag) (D a : Addr) : List V → Hp → VK → Prop := fun xs H Q =>
  ∃ (tp : Addr) (cs : List V) (us : List Value) (b : Bool), xs = [.ref a, .ref tp] ∧ H tp = some (.tup cs) ∧ Paired ClsV cs us ∧ PySem.W.kitAny K (.ref D) us = some b ∧ Q (.bl b) H
section
variable {X : Cx} {a D dx : Addr} {oe : Obj} {pn : List (Addr × Obj)} {fs : List (Str × V)} {cls : Value} {d : Option Addr}
theorem held_inst {pins : List (Addr × Obj)} {σ : L2.St} {H : Hp} {s : Shared} (I : Inv (X.suite a ((a, oe) :: pn)) pins σ H s)
    (hz : Zc (.ref D) (some dx) oe) (hf : ∃ vs, oe.data = .fields vs) (hd : H dx = some (.xd fs)) : ∃ ox od, PySem.W.InstAt s.heap a ox D od := by
  obtain ⟨hget, _⟩ := I.pin (a, oe) (List.mem_append.mpr (.inl List.mem_cons_self))
  have hx : ObjOk X.prog X.w H s.heap dx (.xd fs) := I.hok dx _ hd
  obtain ⟨mA, hns, _⟩ := hx
  obtain ⟨o1, ho, _⟩ := lookIn_ns hns
  obtain ⟨vs, hv⟩ := hf
  exact ⟨oe, some o1, hget, hz.1, by unfold PySem.W.notCls; rw [hv] <;> rfl, by rw [hz.2]; exact ho⟩
/-- the class of what is held, its dict -/
def Held (K : PySem.W.Frag) (cls : Value) (d : Option Addr) (D : Addr) (H : Hp) : Prop :=
  cls = .ref D ∧ ClsQ K D ∧ ∃ dx fs, d = some dx ∧ H dx = some (.xd fs)
theorem call_is1 (hz : Zc cls d oe) (hf : ∃ vs, oe.data = .fields vs) :
    CallR (X.suite a ((a, oe) :: pn)) (.builtin "isinstance") (fun xs H Q => ∃ D, Held X.K cls d D H ∧ rIs1 X.K D a xs H Q) := by
  intro pins s σ H xs us Q I r h
  obtain ⟨D, ⟨rfl, T, dx, fs, rfl, hd⟩, c, cv, b, rfl, hc, e, q⟩ := h
  obtain ⟨u1, u2, rfl, r1, r2⟩ := vals2 r
  have ec := hc.eq r2
  subst ec
  cases (show u1 = Value.ref a from r1)
  exact PySem.W.kia_one (kit_err T) I.kIn (held_inst I hz hf hd) e (fun z => nomatch z) fun tk => ⟨.bl b, H, I.tok tk, rfl, q⟩
theorem call_isN (hz : Zc cls d oe) (hf : ∃ vs, oe.data = .fields vs) :
    CallR (X.suite a ((a, oe) :: pn)) (.builtin "isinstance") (fun xs H Q => ∃ D, Held X.K cls d D H ∧ rIsN X.K D a xs H Q) := by
  intro pins s σ H xs us Q I r h
  obtain ⟨D, ⟨rfl, T, dx, fs, rfl, hd⟩, tp, cs, ws, b, rfl, hT, hc, e, q⟩ := h
  obtain ⟨u1, u2, rfl, r1, r2⟩ := vals2 r
  cases (show u1 = Value.ref a from r1)
  cases (show u2 = Value.ref tp from r2)
  obtain ⟨_, its, rv, o, h1, h2, n, h3⟩ := (show ObjOk X.prog X.w H s.heap tp (.tup cs) from I.hok tp _ hT)
  have e3 := ClsV.all hc rv
  subst e3
  have ht : s.heap.get? tp = some ⟨.type "tuple", o.dict, .seq its.toArray n, o.slots⟩ := by
    rw [h1]
    obtain ⟨oc, od, oda, osl⟩ := o
    cases h2
    cases h3
    rfl
  exact PySem.W.kia_tup (kit_err T) I.kIn (held_inst I hz hf hd) ht e (fun z => nomatch z) fun tk => ⟨.bl b, H, I.tok tk, rfl, q⟩
end
end XH
namespace XH
open PySem PySem.Spec PyProof.Rows L2 HotX L2H
section
variable {prog : Program} {w : World} {A : Around} {E : Value → Shared → Prop} {s : Shared}
/-- the end of a list's iterator while an exception is handled: the StopIteration has it as its context, and is dropped -/
theorem list_end_hot {it l x1 : Addr} {i : Nat} {items : Array Value} {Q : Option Value → Shared → Prop} (hot : HotAt A x1 s.heap) (nx : x1 ≠ it)
    (hit : s.heap.IsListIter it l i) (hl : s.heap.IsList l items) (hx : items[i]? = none)
    (hQ : ∀ h', Heap.ExtBut it s.heap h' → Q none { s with heap := h' }) : wpAny (model prog w) A (pyNext (.ref it)) Q E s := by
  obtain ⟨o, ho, hc, hd⟩ := id hit
  obtain ⟨ol, hol, _, nl, hdl⟩ := hl
  obtain ⟨hh, o1, vs1, g1, d1, c1⟩ := hot
  unfold pyNext
  refine wpAny_bind (wpAny_attempt (wpAny_callSpecial?_slot (name := Str.ofString "__next__") hit.typeIs slot_listiter_next
    (wpAny_call_entry slot_listiter_next hit.typeIs entry_listiter_next ?_ (args_listiter_next _))))
  show wpAny _ _ (field (.ref it) 0 >>= _) _ _ s
  refine wpAny_bind (wpAny_field ho hd (x := .ref l) rfl ?_)
  show wpAny _ _ (if (Value.ref l == Value.none) = true then _ else _) _ _ s
  rw [if_neg (show ¬ ((Value.ref l == Value.none) = true) from Bool.false_ne_true)]
  show wpAny _ _ (field (.ref it) 1 >>= _) _ _ s
  refine wpAny_bind (wpAny_field ho hd (x := .int i 0) rfl ?_)
  show wpAny _ _ (seqItems? (.ref l) >>= _) _ _ s
  refine wpAny_bind (wpAny_seqItems hol hdl ?_)
  simp only [Int.toNat_natCast, hx]
  refine wpAny_bind (wpAny_rule (wpAny_bind (wpAny_setField ho hd (by simp) ?_)))
  show wpAny _ _ (newExc (.type "StopIteration") [] >>= _) _ _ _
  refine wpAny_bind ?_
  simp only [newExc, newTuple]
  refine wpAny_bind (wpAny_newObj_type ?_ (by size_fits))
  refine wpAny_bind (m := firstArgMember _ _) (wpAny_of_eq (a := Value.none) (by first | rfl | (simp only [firstArgMember]; rfl)) ?_)
  refine wpAny_newObj_type ?_ (by size_fits)
  have up : ∀ (f : Array Value → Array Value), (s.heap.update it (Obj.mapFields f)).get? x1 = some o1 := fun f =>
    (Heap.get?_update_other _ _ (Ne.symm nx)).trans g1
  refine raiseNew_hot ⟨hh, o1, vs1, Heap.get?_push_of_some _ (Heap.get?_push_of_some _ (up _)), d1, c1⟩
    (Nat.ne_of_lt (Heap.lt_size (Heap.get?_push_of_some _ (up _)))) (Heap.get?_push_size _ rfl) rfl
    (by first | (simp; done) | (simp; omega) | (simp only [Array.size_append]; simp; omega)) ?_
  refine wpAny_bind (wpAny_isInstance (T := "StopIteration") (b := true) ⟨_, Heap.get?_update_self _ (Heap.get?_push_size _ rfl) rfl, rfl⟩ isSubtype_stop ?_)
  refine wpAny_pure (hQ _ ?_)
  have base := ((Heap.SameBut.update (h := s.heap) it (Obj.mapFields fun vs => vs.setIfInBounds 0 Value.none)).extBut)
  intro b ob nb e
  have lt : b < s.heap.objs.size := Heap.lt_size e
  have e1 : (s.heap.update it (Obj.mapFields fun vs => vs.setIfInBounds 0 Value.none)).get? b = some ob := base b ob nb e
  have e2 := Heap.get?_push_of_some (h := s.heap.update it (Obj.mapFields fun vs => vs.setIfInBounds 0 Value.none)) { cls := .type "tuple", data := .seq ([] : List Value).toArray } e1
  rw [Heap.get?_update_other _ _ (Nat.ne_of_gt (Heap.lt_size e2))]
  exact Heap.get?_push_of_some _ e2
end
end XH
set_option Elab.async false
set_option linter.all false
set_option maxRecDepth 100000
set_option maxHeartbeats 4000000
/-! A def that is called while an exception is handled and is given that very exception: its promise speaks of the exception's object. -/
namespace XP
open PySem PySem.Spec PyProof.Rows L2 HotX L2H XH
abbrev SpX := Addr × Obj → Sp
/-- what such a def promises -/
structure FnP (P : Program) (w : World) (K : PySem.W.Frag) (mg : Str → Option Value) (base : Heap) (CX : CXT) (k : Nat) (f : Addr) (fd : FuncData) (ps : List Str) (sp : SpX) : Prop where
  len : ∀ x vs H Q E, sp x vs H Q E → vs.length = ps.length
  run : ∀ (A : Around) (fr : List Env) (s : Shared) (H : Hp) (ar : Args) (us : List Value) (vs : List V) (Q : VK) (E : XK) (x : Addr × Obj), RoomH k A → Hot1 A x → PinOk fr H s x → Env0 P w K mg base A fr s H → BindsTo s fd ar (ps.zip us) → Vals vs us → sp x vs H Q E →
    codeAny (model P w) A (.call (.ref f) ar) (CR CX fr P w H s Q E) s
theorem FnP.of {CX : CXT} {P : Program} {w : World} {K : PySem.W.Frag} {mg : Str → Option Value} {base : Heap} {k : Nat} {x qual : Str} {st : Stmt} {f : Addr} {fd : FuncData} {N ps : List Str} {sp : SpX} (F : Fun K x qual st f fd) (S : FnScope N ps (defScope st)) (len : ∀ e vs H Q E, sp e vs H Q E → vs.length = ps.length)
    (body : ∀ (cdv : Value) (A : Around) (fr : List Env) (s : Shared) (H : Hp) (vs : List V) (Q : VK) (E : XK) (e : Addr × Obj), Hot1 A e → RoomH k (A.deeper (PyProof.Rows.envOfC qual (defScope st) s.heap.objs.size f cdv)) → sp e vs H Q E →
      ∃ t, PSs (cxH CX P w K mg base N qual (defScope st) f cdv A fr s H E e) (defBody st) t ∧ t { nx := fun _ H' => Q .non H', rt := Q } (L2.start N vs) H) : FnP P w K mg base CX (k + 1) f fd ps sp := by
  obtain ⟨oc, od, kV, doc, pm, an, cdv, ct, osl, rfl, lk, code⟩ := F.ex
  constructor
  · exact len
  intro A fr s H ar us vs Q E e room hot pin e0 bind vals good
  have many := len _ _ _ _ _ good
  have inK : K.In s.heap := e0.mod.kin.keeps fun b o z => (e0.bs b o z).1
  have nolim : s.heap.NoLimit := e0.mod.nolimit.keeps fun b o z => (e0.bs b o z).1
  have kinds : ∀ y ∈ ps.zip us, (defScope st).names.lookup y.1 = some .local ∨ ((defScope st).names.lookup y.1 = some .cell ∧ ((cellsFrom (s.heap.objs.size + 1) (defScope st).names []).lookup y.1).isSome = true) := by
    rintro ⟨n, v⟩ hy
    exact (S.par n (List.of_mem_zip hy).1).imp id fun q => ⟨q, PySem.W.cellsFrom_some _ _ _ (.inl q)⟩
  refine codeAny_call_function room.depth (inK _ _ lk) rfl S.co S.gen rfl (PySem.W.codeRec_of inK code) (bind _ _ _ _ (wpAny_newFunctionEnv_cells S.kind kinds fun env he s1 new => ?_))
  subst he
  refine ⟨nolim.keeps new.toInCall.keep, codeAny_func ?_⟩
  obtain ⟨t, ht, hq⟩ := body cdv A fr s H vs Q E e hot (room.deeper _) good
  have I := inv_startH (CX := CX) (E := E) (f := f) (cd := cdv) (qual := qual) S pin e0 many vals new
  refine wpAny_mono (ht.run [] s1 (L2.start N vs) H _ I hq) (fun fl z hz => ?_) fun _ _ hz => hz
  match fl, hz with
  | .ret u, ⟨v, σ', H', J, rv, q⟩ => exact ⟨v, H', J.os, J.bare, J.base, J.hok, rv, q⟩
  | .next, ⟨σ', H', J, q⟩ => exact ⟨.non, H', J.os, J.bare, J.base, J.hok, rfl, q⟩
  | .brk, ⟨_, _, _, q⟩ => exact q.elim
  | .cont, ⟨_, _, _, q⟩ => exact q.elim
section
variable {X : Cx} {CX : CXT} {k : Nat} {f : Addr} {fd : FuncData} {ps : List Str} {sp : SpX} {E : L2.St → XK} {x : Str} {q pos : Pos} {e : Expr} {es : List Expr} {t : TA} {p : Addr × Obj}
theorem pe_callP (F : FnP X.prog X.w X.K X.mg X.base CX k f fd ps sp) (room : RoomH k X.A) (hot : Hot1 X.A p) (hp : p ∈ X.pn) (hg : Gl X x) (hm : X.mg x = some (.ref f)) (kp : PySem.W.keepIn X.K (.ref f) = true) (hb : Binds X.K fd ps []) (hx : ∀ σ, PassesAt CX X σ (E σ))
    (ha : PA X (e :: es) t) (hdb : (x == ("__debug__" : Str)) = false := by decide) (he : starEach (e :: es) X.env = (false, eval e X.env) :: starEach es X.env := by rfl) (hpl : (backTo pos (starEach es X.env)).any (·.1) = false := by rfl) :
    PE X (.Call (.Name x q) (e :: es) [] pos) (tCallS (sp p) E t) := by
  refine ⟨fun pins s σ H Q I h => ?_⟩
  refine wpAny_Call_Name_kw (ld_glob I hg hm ?_ hdb)
  refine PySem.W.callWith_K (h₀ := X.base) I.ok.mod.kin kp (thn (ha.run pos pins s σ H _ I h) fun us s1 ⟨vs, H1, J, r, good⟩ => ⟨J.kIn, ?_⟩) he hpl
  have many : us.length = ps.length := by
    rw [← r.length]
    exact F.len _ _ _ _ _ good
  have bind := hb s1 us J.kIn (by rw [List.append_nil]; exact many)
  rw [List.append_nil] at bind
  have P1 := J.pin p (List.mem_append_left _ hp)
  have pin : PinOk X.stack H1 s1 p := ⟨P1.1, P1.2.1, fun z => (List.mem_cons.mp (J.stkSub p.1 z)).elim P1.2.2.1 P1.2.2.2.1, P1.2.2.2.2⟩
  refine wpAny_call (codeAny_mono (F.run X.A X.stack s1 H1 ⟨us, []⟩ us vs Q (E σ) p room hot pin J.env0 bind r good) fun r z hz => ?_)
  match r, hz with
  | .error _, hz => exact hx σ pins H1 s1 _ z J hz
  | .ok (.ret _), hz => exact J.after hz
  | .ok .next, hz => exact hz.elim
  | .ok .brk, hz => exact hz.elim
  | .ok .cont, hz => exact hz.elim
end
/-! what may be asked of the exception in such a def -/
section
variable {Y : Cx} {a D dx : Addr} {oe : Obj} {fs : List (Str × V)} {cls : Value} {d : Option Addr}
theorem instP {pins : List (Addr × Obj)} {σ : L2.St} {H : Hp} {s : Shared} (I : Inv Y pins σ H s) (hp : (a, oe) ∈ Y.pn) (hz : Zc (.ref D) (some dx) oe) (hf : ∃ vs, oe.data = .fields vs) (hd : H dx = some (.xd fs)) : ∃ ox od, PySem.W.InstAt s.heap a ox D od := by
  have hx : ObjOk Y.prog Y.w H s.heap dx (.xd fs) := I.hok dx _ hd
  obtain ⟨mA, hns, _⟩ := hx
  obtain ⟨o1, ho, _⟩ := lookIn_ns hns
  obtain ⟨vs, hv⟩ := hf
  refine ⟨oe, some o1, (I.pin (a, oe) (List.mem_append_left _ hp)).1, hz.1, ?_, ?_⟩
  · unfold PySem.W.notCls
    rw [hv] <;> rfl
  · rw [hz.2]
    exact ho
theorem is1P (hp : (a, oe) ∈ Y.pn) (hz : Zc cls d oe) (hf : ∃ vs, oe.data = .fields vs) : CallR Y (.builtin "isinstance") (fun xs H Q => ∃ D, Held Y.K cls d D H ∧ rIs1 Y.K D a xs H Q) := by
  rintro pins s σ H xs us Q I r ⟨D, ⟨rfl, T, dx, fs, rfl, hd⟩, c, cv, b, rfl, hc, e, q⟩
  obtain ⟨u1, u2, rfl, r1, r2⟩ := vals2 r
  have ec := hc.eq r2
  subst ec
  cases (show u1 = Value.ref a from r1)
  exact PySem.W.kia_one (kit_err T) I.kIn (instP I hp hz hf hd) e (fun z => nomatch z) fun tk => ⟨.bl b, H, I.tok tk, rfl, q⟩
theorem isNP (hp : (a, oe) ∈ Y.pn) (hz : Zc cls d oe) (hf : ∃ vs, oe.data = .fields vs) : CallR Y (.builtin "isinstance") (fun xs H Q => ∃ D, Held Y.K cls d D H ∧ rIsN Y.K D a xs H Q) := by
  rintro pins s σ H xs us Q I r ⟨D, ⟨rfl, T, dx, fs, rfl, hd⟩, tp, cs, ws, b, rfl, hT, hc, e, q⟩
  obtain ⟨u1, u2, rfl, r1, r2⟩ := vals2 r
  cases (show u1 = Value.ref a from r1)
  cases (show u2 = Value.ref tp from r2)
  obtain ⟨_, its, rv, o, h1, h2, n, h3⟩ := (show ObjOk Y.prog Y.w H s.heap tp (.tup cs) from I.hok tp _ hT)
  have e3 := ClsV.all hc rv
  subst e3
  have ht : s.heap.get? tp = some ⟨.type "tuple", o.dict, .seq its.toArray n, o.slots⟩ := by
    obtain ⟨oc, od, oda, osl⟩ := o
    cases h2
    cases h3
    exact h1
  exact PySem.W.kia_tup (kit_err T) I.kIn (instP I hp hz hf hd) ht e (fun z => nomatch z) fun tk => ⟨.bl b, H, I.tok tk, rfl, q⟩
theorem pe_xfP {C : Addr} {e : Expr} {te : TE} {pos : Pos} {n : Str} (T : XfC Y.K C) (hno : PySem.W.findIn Y.K (.ref C) n = some none) (hp : (a, oe) ∈ Y.pn) (hz : Zc cls d oe) (hf : ∃ vs, oe.data = .fields vs) (he : PE Y e te)
    (hb : attributeBase e n Y.env (eval e Y.env) = eval e Y.env := by rfl) : PE Y (.Attribute e n pos) (tXf a cls d C n te) := by
  refine ⟨fun pins s σ H Q I h => attr_of hb (thn (he.run pins s σ H _ I h) fun u s1 ⟨x, H1, J, rx, ex, ec, dd, fs, v, ed, ea, l, q⟩ => ?_)⟩
  subst ex ec ed
  obtain rfl : u = Value.ref a := rx
  have ha := (J.pin (a, oe) (List.mem_append_left _ hp)).1
  obtain ⟨vs, hd⟩ := hf
  have hx : ObjOk Y.prog Y.w H1 s1.heap dd (.xd fs) := J.hok dd _ ea
  obtain ⟨mA, hns, hr⟩ := hx
  obtain ⟨od, ho, hl⟩ := lookIn_ns hns
  obtain ⟨u, hu, ru⟩ := RelO.some_of (v := v) (o := mA n) (by rw [← l]; exact hr n)
  have at_ : PySem.W.InstAt s1.heap a oe C (some od) := ⟨ha, hz.1, by unfold PySem.W.notCls; rw [hd] <;> rfl, by rw [hz.2]; exact ho⟩
  exact HandSPX.exc_get J.kIn at_ T.ga T.gg T.exC (PySem.W.findObj_own T.hdC hno rfl (by rw [hl, hu])) (handed_of ru) ⟨v, H1, J.tok _, ru, q⟩
end
end XP
set_option Elab.async false
set_option linter.all false
set_option maxRecDepth 100000
set_option maxHeartbeats 4000000
/-! A def called by keywords alone. -/
namespace XW
open PySem PySem.Spec PyProof.Rows L2
section
variable {X : Cx} {CX : CXT} {k : Nat} {f : Addr} {fd : FuncData} {ps ks : List Str} {sp : Sp} {E : XK} {x : Str} {p pos : Pos} {kws : List Keyword} {tk : TA} {g : List Value → List Value → List Value} {gV : List V → List V → List V}
def tKw (m : Nat) (sp : Sp) (gV : List V → List V → List V) (E : XK) (tk : TA) : TE := fun σ H Q => tk σ H fun zs H1 => zs.length = m ∧ sp (gV [] zs) H1 Q E
theorem pe_callKw (F : FnOk X.prog X.w X.K X.mg X.base CX k f fd ps sp) (hr : Room k X.A) (hg : Gl X x) (hm : X.mg x = some (.ref f)) (keep : PySem.W.keepIn X.K (.ref f) = true) (hb : KBn X.K fd ps 0 ks g gV) (hx : Passes CX X E) (hkw : PK X kws tk)
    (named : (backToKw pos (keywordEach kws X.env)).all (·.1.isSome) = true := by rfl) (hks : (backToKw pos (keywordEach kws X.env)).filterMap (·.1) = ks := by rfl) (hdb : (x == ("__debug__" : Str)) = false := by decide)
    (plain : ((backTo pos (starEach [] X.env)).any (·.1) || (backToKw pos (keywordEach kws X.env)).any (·.1.isNone)) = false := by rfl) : PE X (.Call (.Name x p) [] kws pos) (tKw ks.length sp gV E tk) := by
  constructor
  intro pins s σ H Q I h
  refine wpAny_Call_Name_kw (ld_glob I hg hm ?_ hdb)
  refine PySem.W.callWith_KW0 (h₀ := X.base) I.ok.mod.kin keep named (thn (hkw.run pos pins s σ H _ I h) fun ws s1 ⟨zs, H1, I1, rz, l1, q1⟩ => ⟨I1.kIn, ?_⟩) plain
  rw [hks]
  exact run_fnN (us := []) (vs := []) F hr hb hx I1 .nil rz rfl l1 q1
end
def rev2 {α : Type} : List α → List α → List α
  | [], [a, b] => [b, a]
  | _, _ => []
def rev3 {α : Type} : List α → List α → List α
  | [], [a, b, c] => [c, b, a]
  | _, _ => []
theorem rev2_rel {vs zs : List V} {us ws : List Value} (r : Vals vs us) (rz : Vals zs ws) : Vals (rev2 vs zs) (rev2 us ws) := by
  cases r with
  | cons a b => exact .nil
  | nil =>
    cases rz with
    | nil => exact .nil
    | cons a r1 =>
      cases r1 with
      | nil => exact .nil
      | cons b r2 =>
        cases r2 with
        | nil => exact .cons b (.cons a .nil)
        | cons c r3 => exact .nil
theorem rev3_rel {vs zs : List V} {us ws : List Value} (r : Vals vs us) (rz : Vals zs ws) : Vals (rev3 vs zs) (rev3 us ws) := by
  cases r with
  | cons a b => exact .nil
  | nil =>
    cases rz with
    | nil => exact .nil
    | cons a r1 =>
      cases r1 with
      | nil => exact .nil
      | cons b r2 =>
        cases r2 with
        | nil => exact .nil
        | cons c r3 =>
          cases r3 with
          | nil => exact .cons c (.cons b (.cons a .nil))
          | cons d r4 => exact .nil
section
variable {K : PySem.W.Frag} {x qual : Str} {st : Stmt} {f : Addr} {fd : FuncData}
theorem kbn2 (F : Fun K x qual st f fd) {p1 p2 : Str} (h : ∀ (kV doc pm : Value) (an : Option Addr) (cdv ct a b : Value), bindArgs (PySem.W.fnOf x qual (defArgs st) (defBody st) (defScope st) .none kV doc pm an cdv ct) ⟨[], [(p2, a), (p1, b)]⟩ = pure [(p1, b), (p2, a)]) :
    KBn K fd [p1, p2] 0 [p2, p1] rev2 rev2 := by
  obtain ⟨oc, od, kV, doc, pm, an, cdv, ct, osl, rfl, lk, hcd⟩ := F.ex
  refine ⟨fun s us ws X l1 l2 => ?_, fun r rz => rev2_rel r rz⟩
  match us, ws, l1, l2 with
  | [], [a, b], _, _ => exact BindsTo.of_eq (h kV doc pm an cdv ct a b)
theorem kbn3 (F : Fun K x qual st f fd) {p1 p2 p3 : Str} (h : ∀ (kV doc pm : Value) (an : Option Addr) (cdv ct a b c : Value), bindArgs (PySem.W.fnOf x qual (defArgs st) (defBody st) (defScope st) .none kV doc pm an cdv ct) ⟨[], [(p3, a), (p2, b), (p1, c)]⟩ = pure [(p1, c), (p2, b), (p3, a)]) :
    KBn K fd [p1, p2, p3] 0 [p3, p2, p1] rev3 rev3 := by
  obtain ⟨oc, od, kV, doc, pm, an, cdv, ct, osl, rfl, lk, hcd⟩ := F.ex
  refine ⟨fun s us ws X l1 l2 => ?_, fun r rz => rev3_rel r rz⟩
  match us, ws, l1, l2 with
  | [], [a, b, c], _, _ => exact BindsTo.of_eq (h kV doc pm an cdv ct a b c)
end
end XW
set_option Elab.async false
set_option linter.all false
set_option maxRecDepth 100000
set_option maxHeartbeats 4000000
/-! C(..) of an own class whose __init__ may let errors out, told by the slots at the call: within a try. -/
namespace XK
open PySem PySem.Spec PyProof.Rows L2
def tMakeS (C : Addr) (sp : Sp) (E : L2.St → XK) (t : TA) : TE := fun σ H Q => t σ H fun vs H1 => ∀ x dx, H1 x = none → H1 dx = none → dx ≠ x →
  sp (.ref x :: vs) (upd (upd H1 dx (.own x)) x (.ins C dx [])) (fun v H2 => v = .non ∧ Q (.ref x) H2) (E σ)
section
variable {X : Cx} {CX : CXT} {k : Nat} {f C : Addr} {fd : FuncData} {ps : List Str} {sp : Sp} {E : L2.St → XK} {x : Str} {p pos : Pos} {e : Expr} {es : List Expr} {t : TA}
theorem run_makeS {pins : List (Addr × Obj)} {σ : L2.St} {H : Hp} {s : Shared} {Q : VK} {us : List Value} {vs : List V} (M : Mk X.K C f) (F : FnOk X.prog X.w X.K X.mg X.base CX k f fd ps sp) (hr : Room (k + 1) X.A) (hb : Binds X.K fd ps [])
    (hx : PassesAt CX X σ (E σ)) (I : Inv X pins σ H s) (r : Vals vs us)
    (h : ∀ x dx, H x = none → H dx = none → dx ≠ x → sp (.ref x :: vs) (upd (upd H dx (.own x)) x (.ins C dx [])) (fun v H2 => v = .non ∧ Q (.ref x) H2) (E σ)) :
    wpAny (model X.prog X.w) X.A (call (.ref C) us) (EP X pins σ Q) X.xe s := by
  have hq := h (s.heap.objs.size + 1) s.heap.objs.size (I.hok.fresh (Nat.le_succ _)) (I.hok.fresh (Nat.le_refl _)) (Nat.ne_of_lt (Nat.lt_succ_self _))
  have I2 := Inv.made (C := C) I
  have r2 : Vals (V.ref (s.heap.objs.size + 1) :: vs) (Value.ref (s.heap.objs.size + 1) :: us) := .cons rfl r
  have hl : (Value.ref (s.heap.objs.size + 1) :: us).length = ps.length := by
    have e := r2.length
    rw [F.len _ _ _ _ hq] at e
    exact e.symm
  have b := fun s1 kin => hb s1 (Value.ref (s.heap.objs.size + 1) :: us) kin (by rw [List.append_nil]; exact hl)
  rw [List.append_nil] at b
  refine wpAny_call (make_map (f := f) I.kIn M.makes M.init (beq_iff_eq.mp M.fn) (codeAny_mono (F.run _ X.stack _ _ ⟨Value.ref (s.heap.objs.size + 1) :: us, []⟩ (Value.ref (s.heap.objs.size + 1) :: us) _ _ (E σ) (hr.make C us [])
    (I2.env0.make C us []) (b _ I2.kIn) r2 hq) fun r s' hq' => ?_))
  cases r with
  | error e => exact hx pins _ _ e s' I2 hq'
  | ok fl =>
    cases fl with
    | ret u =>
      obtain ⟨v, H', I3, rv, ev, q3⟩ := I2.after hq'
      subst ev
      exact ⟨rv, ⟨V.ref (s.heap.objs.size + 1), H', I3, rfl, q3⟩⟩
    | next => exact False.elim hq'
    | brk => exact False.elim hq'
    | cont => exact False.elim hq'
theorem pe_makeS (M : Mk X.K C f) (F : FnOk X.prog X.w X.K X.mg X.base CX k f fd ps sp) (hr : Room (k + 1) X.A) (hg : Gl X x) (hm : X.mg x = some (.ref C)) (hb : Binds X.K fd ps []) (hx : ∀ σ, PassesAt CX X σ (E σ))
    (ha : PA X (e :: es) t) (hdb : (x == ("__debug__" : Str)) = false := by decide) (he : starEach (e :: es) X.env = (false, eval e X.env) :: starEach es X.env := by rfl) (hpl : (backTo pos (starEach es X.env)).any (·.1) = false := by rfl) :
    PE X (.Call (.Name x p) (e :: es) [] pos) (tMakeS C sp E t) := by
  refine ⟨fun pins s σ H Q I h => ?_⟩
  refine wpAny_Call_Name_kw (ld_glob I hg hm ?_ hdb)
  refine PySem.W.callWith_K (h₀ := X.base) I.ok.mod.kin M.kp (thn (ha.run pos pins s σ H _ I h) fun us s1 ⟨vs, H1, I1, r, q⟩ => ⟨I1.kIn, ?_⟩) he hpl
  exact run_makeS M F hr hb (hx σ) I1 r q
end
end XK
set_option Elab.async false
set_option linter.all false
set_option maxRecDepth 100000
set_option maxHeartbeats 4000000
/-! ### k07: meanings of what are no phrases; _law_refuses -/
namespace Q
open PySem PySem.Spec L2 L2H XD XN XT XM XH XP XW HotX PyProof.Rows
theorem pss_dead {X : Cx} {b : List Stmt} : PSs X b (fun _ _ _ => False) := ⟨fun _ _ _ _ _ _ h => h.elim⟩
theorem takes7 {X : Cx} : L2N.Takes X (fun _ _ _ _ => False) := fun _ _ x => by
  obtain ⟨_, _, _, _, _, _, _, _, _, _, _, _, _, _, _, _, z⟩ := x
  exact z.elim
theorem pass7 {X : Cx} {σ : L2.St} : PassesAt CX0 X σ E0 := fun _ _ _ _ _ _ c => c.elim
theorem hot7 {X : Cx} {a : Addr} {oe : Obj} {cls : Value} {d : Option Addr} {pn : List (Addr × Obj)} (hz : L2N.Zn cls d oe) (hf : ∃ vs, oe.data = .fields vs) : Hot1 (X.suite a ((a, oe) :: pn)).A (a, oe) := by
  obtain ⟨vs, hv⟩ := hf
  exact ⟨rfl, vs, hv, hz.2.2 vs hv⟩
section
variable {X : Cx} {CX : CXT} {k : Nat} {f : Addr} {fd : FuncData} {ps ks : List Str} {sp : Sp} {E : L2.St → XK} {x : Str} {p pos : Pos} {kws : List Keyword} {tk : TA} {g : List Value → List Value → List Value} {gV : List V → List V → List V}
def tKwS (m : Nat) (sp : Sp) (gV : List V → List V → List V) (E : L2.St → XK) (tk : TA) : TE := fun σ H Q => tk σ H fun zs H1 => zs.length = m ∧ sp (gV [] zs) H1 Q (E σ)
/-- a call by keywords alone, in a try -/
theorem pe_callKwS (F : FnOk X.prog X.w X.K X.mg X.base CX k f fd ps sp) (room : Room k X.A) (hg : Gl X x) (hm : X.mg x = some (.ref f)) (keep : PySem.W.keepIn X.K (.ref f) = true) (hb : KBn X.K fd ps 0 ks g gV) (hx : ∀ σ, PassesAt CX X σ (E σ)) (hkw : PK X kws tk)
    (named : (backToKw pos (keywordEach kws X.env)).all (·.1.isSome) = true := by rfl) (nms : (backToKw pos (keywordEach kws X.env)).filterMap (·.1) = ks := by rfl) (dbg : (x == ("__debug__" : Str)) = false := by decide)
    (plain : ((backTo pos (starEach [] X.env)).any (·.1) || (backToKw pos (keywordEach kws X.env)).any (·.1.isNone)) = false := by rfl) : PE X (.Call (.Name x p) [] kws pos) (tKwS ks.length sp gV E tk) := by
  refine ⟨fun pins s σ H Q I h => wpAny_Call_Name_kw (ld_glob I hg hm (PySem.W.callWith_KW0 (h₀ := X.base) I.ok.mod.kin keep named (thn (hkw.run pos pins s σ H _ I h) fun ws s1 ⟨zs, H1, J, rz, l1, q1⟩ => ⟨J.kIn, ?_⟩) plain) dbg)⟩
  rw [nms]
  have b2 := hb.to s1 [] ws J.kIn rfl (rz.length.symm.trans l1)
  refine wpAny_call (codeAny_mono (F.run X.A X.stack s1 H1 ⟨[], ks.zip ws⟩ (g [] ws) (gV [] zs) Q (E σ) room J.env0 b2 (hb.rel .nil rz) q1) fun r z hz => ?_)
  match r, hz with
  | .error _, hz => exact hx σ pins H1 s1 _ z J hz
  | .ok (.ret _), hz => exact J.after hz
  | .ok .next, hz => exact hz.elim
  | .ok .brk, hz => exact hz.elim
  | .ok .cont, hz => exact hz.elim
end
/-- what is known of the errors -/
structure Er7 (K : PySem.W.Frag) (mg : Str → Option Value) (CV CB CM B : Addr) : Prop where
  tv : ∃ fI qual, XM.XcT K CV fI "at" qual
  gv : mg "BadValue" = some (.ref CV)
  gb : mg "BadField" = some (.ref CB)
  gm : mg "TooMany" = some (.ref CM)
  gB : mg "TalkError" = some (.ref B)
  qv : XH.ClsQ K CV
  kvB : PySem.W.kitOne K (.ref CV) (.ref B) = some true
  kvb : PySem.W.kitOne K (.ref CV) (.ref CB) = some false
  kvm : PySem.W.kitOne K (.ref CV) (.ref CM) = some false
  vv : PySem.W.exmOne K (.ref CV) (.ref CV) = some true
def spMean7 (K : PySem.W.Frag) (C CV : Addr) : Sp := fun vs H _ E => ∃ (x pf pr : Addr) (t : List (Str × List Str)) (v u : V) (d : PyData), vs = [.ref x, v, u] ∧ FormAt C H x pf pr ∧ TabAt K H pf t ∧ NStr t ∧ Dp K H v d ∧ PsOk d ∧ isPhrases t d = false ∧ bad3 CV 1 H E
def spSame7 : Sp := fun vs H Q _ => ∃ i j : Int, vs = [.int i, .int j] ∧ Q (.bl (decide (i = j))) H
abbrev nMe7 : List Str := ["form", "phrases", "utterance"]
abbrev nSa7 : List Str := ["actual", "due", "k"]
section
variable {P : Program} {w : World} {K : PySem.W.Frag} {mg : Str → Option Value} {base : Heap}
theorem scMe7 : FnScope nMe7 ["form", "phrases", "utterance"] (defScope sMeanings) := ⟨rfl, rfl, rfl, by decide +kernel, rfl, by decide +kernel, by decide +kernel⟩
theorem scSa7 : FnScope nSa7 ["actual", "due"] (defScope sLSame) := ⟨rfl, rfl, rfl, by decide +kernel, rfl, by decide +kernel, by decide +kernel⟩
theorem ok_mean7 {f fC C CV : Addr} {fd fdC : FuncData} (F : Fun K "meanings" "meanings" sMeanings f fd)
    (GC : FnOk P w K mg base (L2N.CX P w) 6 fC fdC ["form", "phrases"] (spCheck K C CV)) (kC : PySem.W.keepIn K (.ref fC) = true) (bC : Binds K fdC ["form", "phrases"] []) (mC : mg "check_phrases" = some (.ref fC)) :
    FnOk P w K mg base (L2N.CX P w) 7 f fd ["form", "phrases", "utterance"] (spMean7 K C CV) := by
  refine Fun_okH3 F scMe7 (fun vs H Q E h => ?_) (fun cdv A outer s H vs Q E hr h => ?_)
  · obtain ⟨x, pf, pr, t, v, u, d, rfl, _⟩ := h
    rfl
  refine ⟨_, pss_cons (ps_expr (pe_call GC hr rfl mC kC bC .nil (L2N.passes_call (L2N.takes_of rfl rfl rfl rfl) (fun _ _ _ _ h => h)) (pa_cons (pv 0) (pa_cons (pv 1) pa_nil)))) pss_dead, ?_⟩
  obtain ⟨x, pf, pr, t, v, u, d, rfl, hx, hT, hn, hd, ho, hno, hE⟩ := h
  refine ⟨_, rfl, _, rfl, x, pf, pr, t, v, d, rfl, hx, hT, hn, hd, ho, fun _ => hE, fun z => ?_⟩
  rw [hno] at z
  cases z
theorem ok_same7 {f : Addr} {fd : FuncData} (F : Fun K "_law_same" "_law_same" sLSame f fd) (T : Be7 mg) : FnH P w K mg base CX0 1 f fd ["actual", "due"] spSame7 := by
  obtain ⟨oc, od, kV, doc, pm, an, cdv, ct, osl, rfl, lk, hcd⟩ := F.ex
  have v1 : PySem.bootBuiltins "int" = some (.type "int") := by decide +kernel
  have v2 : PySem.bootBuiltins "bool" = some (.type "bool") := by decide +kernel
  have v3 : PySem.bootBuiltins "tuple" = some (.type "tuple") := by decide +kernel
  refine fn_ofH lk hcd scSa7 (fun vs H Q E h => ?_) (fun A outer s H vs Q E pin hot hr h => ?_)
  · obtain ⟨i, j, rfl, _⟩ := h
    rfl
  obtain ⟨i, j, rfl, k⟩ := h
  refine ⟨_, pss_cons (ps_if (pt_cmp (pc_isN (pv 1))) pss_dead pss_nil) (pss_cons (ps_if (pt_val (pe_isi T.isi T.tup v3 (pv 1))) pss_dead pss_nil) (pss_cons (ps_if (pt_val (pe_isi T.isi T.bool v2 (pv 1))) pss_dead pss_nil)
    (pss_cons (ps_if (pt_val (pe_isi T.isi T.int v1 (pv 1))) (pss_one (ps_ret (pe_and (pe_isi T.isi T.int v1 (pv 0)) (pe_and (pe_not (pe_isi T.isi T.bool v2 (pv 0))) (pe_one (pe_cmpR op_eq (pv 0) (pv 1) (nomark _))))))) pss_nil) pss_dead))), ?_⟩
  refine ⟨_, rfl, _, rfl, iteDF (by intro z; cases z) (nxt ?_)⟩
  refine ⟨_, rfl, _, _, _, _, _, rfl, .ty _, .base (.int j), kit_ty (r := false) (by decide +kernel), _, rfl, iteF (nxt ?_)⟩
  refine ⟨_, rfl, _, _, _, _, _, rfl, .ty _, .base (.int j), kit_ty (r := false) (by decide +kernel), _, rfl, iteF (nxt ?_)⟩
  refine ⟨_, rfl, _, _, _, _, _, rfl, .ty _, .base (.int j), kit_ty (r := true) (by decide +kernel), _, rfl, iteT ?_⟩
  refine ⟨_, rfl, _, _, _, _, _, rfl, .ty _, .base (.int i), kit_ty (r := true) (by decide +kernel), _, rfl, iteT ?_⟩
  refine ⟨_, rfl, _, _, _, _, _, rfl, .ty _, .base (.int i), kit_ty (r := false) (by decide +kernel), _, rfl, _, rfl, iteT ⟨_, rfl, _, rfl, rfl, q_is (decide_eq_decide.mpr ⟨fun z => V.int.inj z, fun z => by rw [z]⟩) k⟩⟩
end
end Q
set_option Elab.async false
set_option linter.all false
set_option maxRecDepth 100000
set_option maxHeartbeats 4000000
/-! ### k07: _law_refuses -/
namespace Q
open PySem PySem.Spec L2 L2H XD XN XT XM XH XP XW HotX
theorem is1t7 {X Y : Cx} {a : Addr} {oe : Obj} {pn : List (Addr × Obj)} {cls : Value} {d : Option Addr} (hz : L2N.Zn cls d oe) (hf : ∃ vs, oe.data = .fields vs) (K : PySem.W.Frag) (hK : Y.K = K) (e : Y = X.suite a ((a, oe) :: pn)) :
    CallR Y (.builtin "isinstance") (fun xs H Q => ∃ D, Held K cls d D H ∧ rIs1 K D a xs H Q) := by
  subst hK
  subst e
  exact call_is1 hz.zc hf
theorem xf_of7 {K : PySem.W.Frag} {C fI : Addr} {f q : Str} (T : XM.XcT K C fI f q) : XfC K C := ⟨T.ga, T.gg, T.exC, T.hdC⟩
abbrev tIs7 (K : PySem.W.Frag) (cls : Value) (d : Option Addr) (a D : Addr) : TE := tCB (fun xs H Q => ∃ D, Held K cls d D H ∧ rIs1 K D a xs H Q) (tCons (tVar 3) (tCons (tC (.ref D)) tNil))
def ts7 (K : PySem.W.Frag) (CV CB CM B : Addr) : Addr → Value → Option Addr → TS := fun a cls d =>
  tSeq (tIfS (tOr (tNot (tB (tIs7 K cls d a B))) (tOr (tB (tIs7 K cls d a CB)) (tB (tIs7 K cls d a CM)))) (tRet (tC (.bl false))) tNext) (tRet (tCallS spSame7 (fun _ => E0) (tCons (tXf a cls d CV "at" (tVar 3)) (tCons (tC (.int 1)) tNil))))
theorem ts7_ok {K : PySem.W.Frag} {mg : Str → Option Value} {CV CB CM B a dd : Addr} {D : Ends} {σ : L2.St} {H : Hp} (R : Er7 K mg CV CB CM B) (e3 : σ[3]? = some (some (.ref a))) (hd : H dd = some (.xd [("at", .int 1)])) (k : D.rt (.bl true) H) :
    ts7 K CV CB CM B a (.ref CV) (some dd) D σ H := by
  refine ⟨_, e3, CV, ⟨rfl, R.qv, dd, _, rfl, hd⟩, .ref B, .ref B, true, rfl, .own B, R.kvB, _, rfl, ?_⟩
  refine iteF ⟨_, e3, CV, ⟨rfl, R.qv, dd, _, rfl, hd⟩, .ref CB, .ref CB, false, rfl, .own CB, R.kvb, _, rfl, iteF ?_⟩
  refine ⟨_, e3, CV, ⟨rfl, R.qv, dd, _, rfl, hd⟩, .ref CM, .ref CM, false, rfl, .own CM, R.kvm, _, rfl, iteF (nxt ?_)⟩
  exact ⟨_, e3, rfl, rfl, dd, _, .int 1, rfl, hd, by simp [List.lookup], 1, 1, rfl, by rw [decide_eq_true rfl]; exact k⟩
abbrev tIx7 (K : PySem.W.Frag) : TE := tOp (rBoth K) (tTupZ (tCons (tC (.str "a")) (tCons (tC .non) tNil))) (tOp (rI0 fun i j => .int (i - j)) (tVar 2) (tC (.int 2)))
abbrev tb7 (K : PySem.W.Frag) (C CV : Addr) : WX → TS := fun W => tIfS (tTest (tOp rEq (tVar 2) (tC (.int 0)))) (tDrop (tCallS (spCheck K C CV) (L2.WE W) (tCons (tVar 0) (tCons (tVar 1) tNil))))
  (tIfS (tTest (tOp rEq (tVar 2) (tC (.int 1)))) (tDrop (tKwS 2 (spCheck K C CV) XW.rev2 (L2.WE W) (tCons (tVar 1) (tCons (tVar 0) tNil)))) (tDrop (tCallS (spMean7 K C CV) (L2.WE W) (tCons (tVar 0) (tCons (tVar 1) (tCons (tIx7 K) tNil))))))
def spRefu7 (K : PySem.W.Frag) (C : Addr) : Sp := fun vs H Q _ => ∃ (x pf pr : Addr) (t : List (Str × List Str)) (v : V) (d : PyData) (way : Nat), vs = [.ref x, v, .int (way : Int)] ∧ way < 4 ∧ FormAt C H x pf pr ∧ TabAt K H pf t ∧ NStr t ∧ Dp K H v d ∧ PsOk d ∧ isPhrases t d = false ∧ ∀ H', Same H H' → Q (.bl true) H'
abbrev nRe7 : List Str := ["shape", "book", "way", "error"]
section
variable {P : Program} {w : World} {K : PySem.W.Frag} {mg : Str → Option Value} {base : Heap}
theorem scRe7 : FnScope nRe7 ["shape", "book", "way"] (defScope sLRefuses) := ⟨rfl, rfl, rfl, by decide +kernel, rfl, by decide +kernel, by decide +kernel⟩
theorem ok_refu7 {f fC fM fS C CV CB CM B : Addr} {fd fdC fdM fdS : FuncData} (F : Fun K "_law_refuses" "_law_refuses" sLRefuses f fd) (T : Be7 mg) (R : Er7 K mg CV CB CM B)
    (GC : FnOk P w K mg base (L2N.CX P w) 6 fC fdC ["form", "phrases"] (spCheck K C CV)) (kC : PySem.W.keepIn K (.ref fC) = true) (bC : Binds K fdC ["form", "phrases"] []) (mC : mg "check_phrases" = some (.ref fC)) (wC : KBn K fdC ["form", "phrases"] 0 ["phrases", "form"] XW.rev2 XW.rev2)
    (GM : FnOk P w K mg base (L2N.CX P w) 7 fM fdM ["form", "phrases", "utterance"] (spMean7 K C CV)) (kM : PySem.W.keepIn K (.ref fM) = true) (bM : Binds K fdM ["form", "phrases", "utterance"] []) (mM : mg "meanings" = some (.ref fM))
    (GS : FnH P w K mg base CX0 1 fS fdS ["actual", "due"] spSame7) (kS : PySem.W.keepIn K (.ref fS) = true) (bS : Binds K fdS ["actual", "due"] []) (mS : mg "_law_same" = some (.ref fS)) : FnOk P w K mg base CX0 8 f fd ["shape", "book", "way"] (spRefu7 K C) := by
  obtain ⟨fIv, qv, XV⟩ := R.tv
  refine F.ok scRe7 (fun vs H Q E h => ?_) (fun cdv A outer s H vs Q E hr h => ?_)
  · obtain ⟨x, pf, pr, t, v, d, way, rfl, _⟩ := h
    rfl
  have hr6 := hr.mono (show 6 ≤ 7 by decide)
  have hr1 := hr.mono (show 1 ≤ 7 by decide)
  have vI : PySem.bootBuiltins "isinstance" = some (.builtin "isinstance") := by decide +kernel
  refine ⟨_, pss_cons (ps_try_cls (tb := tb7 K C CV) (l := [⟨.ref CV, 3, ts7 K CV CB CM B⟩]) (Wout := fun _ _ _ _ => False) rfl rfl scRe7.nd takes7 (fun W pn xe tk _ => pss_one (ps_if (pt_cmpR op_eq (pv 2) pe_int (nomark _)) (pss_one (ps_expr (pe_callS GC hr6 (by rfl) mC kC bC (fun σ => L2N.passAt tk σ) (pa_cons (pv 0) (pa_cons (pv 1) pa_nil)))))
      (pss_one (ps_if (pt_cmpR op_eq (pv 2) pe_int (nomark _)) (pss_one (ps_expr (pe_callKwS GC hr6 (by rfl) mC kC wC (fun σ => L2N.passAt tk σ) (pk_cons (pv 1) (pk_cons (pv 0) pk_nil)))))
        (pss_one (ps_expr (pe_callS GM hr (by rfl) mM kM bM (fun σ => L2N.passAt tk σ) (pa_cons (pv 0) (pa_cons (pv 1) (pa_cons (pe_ix (ix_both K rfl) (pe_tupZ (pa_cons pe_str (pa_cons pe_non pa_nil))) (pe_op op_sub (pv 2) pe_int) (fun _ _ => rfl)) pa_nil)))))))))) (.cons ⟨rfl, by decide, .inl R.gv⟩ rfl rfl ?s1 .nil))
    (pss_one (ps_ret pe_bl)), ?_⟩
  case s1 =>
    intro a oe cls d pn hz hf
    show PSs _ _ (ts7 K CV CB CM B a cls d)
    unfold ts7
    refine pss_cons ?c1 (pss_one ?c2)
    case c1 => exact ps_if (PW.pt (pw_or (pt_not (pt_val (pe_callB (is1t7 hz hf K (by rfl) (by rfl)) (by rfl) T.isi vI (pa_cons (pv 3) (pa_cons (pe_glob (v := .ref B) (by rfl) R.gB (by rfl)) pa_nil))))) (pw_or (pt_val (pe_callB (is1t7 hz hf K (by rfl) (by rfl)) (by rfl) T.isi vI (pa_cons (pv 3) (pa_cons (pe_glob (v := .ref CB) (by rfl) R.gb (by rfl)) pa_nil))))
      (pw_or1 (pt_val (pe_callB (is1t7 hz hf K (by rfl) (by rfl)) (by rfl) T.isi vI (pa_cons (pv 3) (pa_cons (pe_glob (v := .ref CM) (by rfl) R.gm (by rfl)) pa_nil)))))))) (pss_one (ps_ret pe_bl)) pss_nil
    case c2 => exact ps_ret (pe_callH GS ⟨hr1.dp, hr1.un⟩ ⟨_, hot7 hz hf, List.mem_cons_self⟩ (by rfl) mS kS bS (fun _ => pass7) (pa_cons (pe_xf (xf_of7 XV) XV.noN hz.zc hf (pv 3)) (pa_cons pe_int pa_nil)))
  obtain ⟨x, pf, pr, t, v, d, way, rfl, w4, hx, hT, hn, hd, ho, hno, k⟩ := h
  try simp only [L2.start, gName, List.map_cons, List.map_nil, List.length_cons, List.length_nil, Nat.reduceAdd, Nat.reduceSub, List.replicate_succ, List.replicate_zero, List.cons_append, List.nil_append, List.set_cons_succ, List.set_cons_zero]
  have fin : ∀ dd H1, Same H H1 → H1 dd = none → ∀ (a : Addr) (D : Ends) (σ : L2.St), σ[3]? = some (some (.ref a)) → (∀ H', Same H H' → D.rt (.bl true) H') → ts7 K CV CB CM B a (.ref CV) (some dd) D σ (L2.upd H1 dd (.xd [("at", .int 1)])) := fun dd H1 s1 hdd a D σ e3 hD =>
    ts7_ok R e3 upd_same (hD _ (s1.trans (new_same hdd _)))
  refine ⟨_, rfl, rfl, _, rfl, iteB (fun _ => ?_) (fun e0 => ⟨_, rfl, rfl, _, rfl, iteB (fun _ => ?_) (fun e1 => ?_)⟩)⟩
  · refine ⟨_, rfl, _, rfl, x, pf, pr, t, v, d, rfl, hx, hT, hn, hd, ho, fun _ dd H1 s1 hdd => ⟨true, R.vv, fun _ a _ => fin dd H1 s1 hdd a _ _ rfl fun H' s' => k H' s', fun z => Bool.noConfusion z⟩, fun z => ?_⟩
    rw [hno] at z
    cases z
  · refine ⟨_, rfl, _, rfl, rfl, x, pf, pr, t, v, d, rfl, hx, hT, hn, hd, ho, fun _ dd H1 s1 hdd => ⟨true, R.vv, fun _ a _ => fin dd H1 s1 hdd a _ _ rfl fun H' s' => k H' s', fun z => Bool.noConfusion z⟩, fun z => ?_⟩
    rw [hno] at z
    cases z
  · have w2 : 2 ≤ way := by
      have h0 := of_decide_eq_false e0
      have h1 := of_decide_eq_false e1
      match way, h0, h1 with
      | 0, h0, _ => exact absurd rfl h0
      | 1, _, h1 => exact absurd rfl h1
      | way + 2, _, _ => omega
    obtain ⟨j, rfl⟩ : ∃ j, way = j + 2 := ⟨way - 2, by omega⟩
    have ej : ((j + 2 : Nat) : Int) - 2 = ((j : Nat) : Int) := by omega
    refine ⟨_, rfl, _, rfl, by show 2 ≤ sizeLine; decide, fun z o hz _ => ⟨_, rfl, _, _, rfl, rfl, ?_⟩⟩
    have s1 := new_same hz (.frz o (.tup [V.str "a", V.non]))
    have hu : ∃ u, atI [V.str "a", V.non] (((j + 2 : Nat) : Int) - 2) = some u := by
      rw [ej]
      match j, w4 with
      | 0, _ => exact ⟨_, rfl⟩
      | 1, _ => exact ⟨_, rfl⟩
    obtain ⟨u, hu⟩ := hu
    refine ix_row (.inr (.inl (.inr ⟨o, upd_same⟩))) hu ⟨x, pf, pr, t, v, u, d, rfl, hx.imp fun _ h => s1 _ _ h, tabS s1 hT, hn, dp_same s1 hd, ho, hno, fun dd H1 s2 hdd => ⟨true, R.vv, fun _ a _ => fin dd H1 (s1.trans s2) hdd a _ _ rfl fun H' s' => k H' s', fun z => Bool.noConfusion z⟩⟩
end
end Q
set_option Elab.async false
set_option linter.all false
set_option maxRecDepth 100000
set_option maxHeartbeats 4000000
/-! ### k07: _law_long_book -/
namespace Q
open PySem L2 XD XN
def tx3 (f s t : Str) : Str := f ++ " " ++ s ++ " " ++ t
theorem tx3_join (f s t : Str) : tx3 f s t = joinW [f, s, t] := tlx_inj (by
  unfold tx3
  rw [tlx_app, tlx_app, tlx_app, tlx_app, tl_joinW, tl_blank]
  show _ = TL.tl f ++ ([32] ++ (TL.tl s ++ ([32] ++ TL.tl t)))
  rw [tl_lit, tl_lit, tl_lit]
  simp)
def txK (pool : List Str) (k : Nat) : Str := tx3 (pool.getD (k / 25) Str.empty) (pool.getD (k / 5 % 5) Str.empty) (pool.getD (k % 5) Str.empty)
theorem range_more (m n : Nat) : List.range (m + n) = List.range m ++ (List.range n).map (m + ·) := by
  induction n with
  | zero => simp
  | succ n ih => rw [← Nat.add_assoc, List.range_succ, ih, List.range_succ, List.map_append, List.append_assoc] <;> rfl
theorem txK_inj {pool : List Str} (l5 : pool.length = 5) (hw : AllW pool) (nd : pool.Nodup) {i j : Nat} (hi : i < 125) (hj : j < 125) (h : txK pool i = txK pool j) : i = j := by
  have gd : ∀ q, q < 5 → ∃ h : q < pool.length, pool.getD q Str.empty = pool[q] := fun q hq => ⟨by omega, getD_H7 (List.getElem?_eq_getElem _)⟩
  have ww : ∀ q, q < 5 → word (pool.getD q Str.empty) = true := fun q hq => by
    obtain ⟨h, e⟩ := gd q hq
    rw [e]
    exact hw _ (List.getElem_mem h)
  have sp : ∀ k, k < 125 → wordsOf (txK pool k) = [pool.getD (k / 25) Str.empty, pool.getD (k / 5 % 5) Str.empty, pool.getD (k % 5) Str.empty] := fun k hk => by
    unfold txK
    rw [tx3_join]
    refine words_W (by simp) fun x hx => ?_
    simp only [List.mem_cons, List.not_mem_nil, or_false] at hx
    rcases hx with rfl | rfl | rfl
    · exact ww _ (by omega)
    · exact ww _ (by omega)
    · exact ww _ (by omega)
  have e := congrArg wordsOf h
  rw [sp i hi, sp j hj] at e
  obtain ⟨e1, e⟩ := List.cons.inj e
  obtain ⟨e2, e⟩ := List.cons.inj e
  have e3 := (List.cons.inj e).1
  have inj : ∀ q r, q < 5 → r < 5 → pool.getD q Str.empty = pool.getD r Str.empty → q = r := fun q r hq hr h => by
    obtain ⟨h1, g1⟩ := gd q hq
    obtain ⟨h2, g2⟩ := gd r hr
    rw [g1, g2] at h
    have pw := List.pairwise_iff_getElem.mp (List.nodup_iff_pairwise_ne.mp nd)
    rcases Nat.lt_trichotomy q r with lt | eq | gt
    · exact absurd h (pw q r h1 h2 lt)
    · exact eq
    · exact absurd h.symm (pw r q h2 h1 gt)
  have a1 := inj _ _ (by omega) (by omega) e1
  have a2 := inj _ _ (by omega) (by omega) e2
  have a3 := inj _ _ (by omega) (by omega) e3
  omega
theorem txK_ok {pool : List Str} (l5 : pool.length = 5) (hw : AllW pool) {k : Nat} (hk : k < 125) : ∃ ws : List Str, ws ≠ [] ∧ ws.length ≤ 6 ∧ AllW ws ∧ txK pool k = joinW ws := by
  have ww : ∀ q, q < 5 → word (pool.getD q Str.empty) = true := fun q hq => by
    rw [getD_H7 (List.getElem?_eq_getElem (show q < pool.length by omega))]
    exact hw _ (List.getElem_mem _)
  refine ⟨[pool.getD (k / 25) Str.empty, pool.getD (k / 5 % 5) Str.empty, pool.getD (k % 5) Str.empty], by simp, Nat.le_of_ble_eq_true rfl, fun x hx => ?_, tx3_join _ _ _⟩
  simp only [List.mem_cons, List.not_mem_nil, or_false] at hx
  rcases hx with rfl | rfl | rfl
  · exact ww _ (by omega)
  · exact ww _ (by omega)
  · exact ww _ (by omega)
def spLong7 (K : PySem.W.Frag) : Sp := fun vs H Q _ => ∃ (a c q p : Addr) (t : List (Str × List Str)) (as : List (List Str)) (pool : List Str), vs = [.ref a, .ref q, .ref p] ∧ Fl7 c H a ∧ Dp K (Bs7 a c H) (.ref q) (.list (as.map actD)) ∧ 1 ≤ as.length ∧ as.length ≤ 100 ∧ (∀ w ∈ as, ActOf t w) ∧
  Bs7 a c H p = some (.lst (pool.map V.str)) ∧ pool.length = 5 ∧ AllW pool ∧ pool.Nodup ∧
  ∀ (v : V) (ls : List Li) (H' : Hp), Dp K (Bs7 a c H') v (.list (ls.map lineD)) → ls.length = 61 → ls.Nodup → (∀ l ∈ ls, LiOk t 6 l) → Fl7 c H' a → Same (Bs7 a c H) (Bs7 a c H') → Q v H'
abbrev nLo7 : List Str := ["state", "acts", "pool", "texts", "first", "second", "third", "book", "k"]
section
variable {P : Program} {w : World} {K : PySem.W.Frag} {mg : Str → Option Value} {base : Heap}
theorem scLo7 : FnScope nLo7 ["state", "acts", "pool"] (defScope sLLongBook) := ⟨rfl, rfl, rfl, by decide +kernel, rfl, by decide +kernel, by decide +kernel⟩
theorem ok_long7 {f : Addr} {fd : FuncData} (F : Fun K "_law_long_book" "_law_long_book" sLLongBook f fd) (T : Be7 mg) (KD : Kn P w K mg base 1 "_law_draw" ["state", "many"] spDraw7) : FnOk P w K mg base CX0 2 f fd ["state", "acts", "pool"] (spLong7 K) := by
  obtain ⟨fD, fdD, GD, kD, bD, mD⟩ := KD.ex
  refine F.ok scLo7 (fun vs H Q E h => ?_) (fun cdv A outer s H vs Q E hr h => ?_)
  · obtain ⟨a, c, q, p, t, as, pool, rfl, _⟩ := h
    rfl
  refine ⟨_, pss_cons (ps_set (i := 3) scLo7.nd rfl (.inl rfl) (pe_lst pa_nil))
    (pss_cons (ps_for PassesOwn.never rfl (pi_row (pv 2)) (pg_name (i := 4) scLo7.nd rfl (.inr rfl))
      (pss_one (ps_for PassesOwn.never rfl (pi_row (pv 2)) (pg_name (i := 5) scLo7.nd rfl (.inr rfl))
      (pss_one (ps_set (i := 3) scLo7.nd rfl (.inl rfl) (pe_op op_cat (pv 3) (pe_lc (own := [("third", 6)]) (g := gName 6) (tt := tYes) (by rfl) scLo7.nd (pi_row (pv 2)) (blkOk_by (N := nLo7) (sc := defScope sLLongBook) (by decide +kernel)) (fun _ _ _ _ _ => (pg_name (i := 6) scLo7.nd rfl (.inl rfl))) (fun _ _ _ _ _ => pts_nil) (fun _ _ _ _ _ => (pe_op op_add_str (pe_op op_add_str (pe_op op_add_str (pe_op op_add_str (pv 4) pe_str) (pv 5)) pe_str) (pv 6))))))))))
    (pss_cons (ps_set (i := 7) scLo7.nd rfl (.inl rfl) (pe_lst pa_nil))
    (pss_cons (ps_for PassesOwn.never rfl (pi_range1 rfl T.range (pa_cons pe_int pa_nil)) (pg_name (i := 8) scLo7.nd rfl (.inl rfl))
      (pss_one (ps_expr (pe_bm PySem.F.plainAttrs_list PySem.F.slot_list_append PySem.F.type_list_append mt_append (pv 7) (pa_cons (pe_tupZ (pa_cons (pe_ix (ix_both K rfl) (pv 3) (pv 8) (fun _ _ => rfl)) (pa_cons (pe_ix (ix_both K rfl) (pv 1) (pe_call GD hr (by rfl) mD kD bD .nil pass0 (pa_cons (pv 0) (pa_cons (pe_callB call_len_seq (by rfl) T.len PySem.boot_len (pa_cons (pv 1) pa_nil)) pa_nil))) (fun _ _ => rfl)) pa_nil))) pa_nil)))))
    (pss_one (ps_ret (pv 7)))))), ?_⟩
  obtain ⟨a, c, q, p, t, as, pool, rfl, Fl, hq, a1, a100, ha, hp, l5, hw, nd, k⟩ := h
  have B : Bl7 K a c _ _ _ _ H := Blk.new flo7 Fl .nil
  have l1 : (" " : Str).length = 1 := rfl
  have w8 : ∀ x ∈ pool, x.length ≤ 8 := fun x hx => word_len (hw x hx)
  have sub0 : ∀ {X : Addr}, ∀ x ∈ [a, c], x ∈ [X, a, c] := fun {X} x hx => List.mem_cons_of_mem _ hx
  try simp only [L2.start, gName, List.map_cons, List.map_nil, List.length_cons, List.length_nil, Nat.reduceAdd, Nat.reduceSub, List.replicate_succ, List.replicate_zero, List.cons_append, List.nil_append, List.set_cons_succ, List.set_cons_zero]
  refine asg_X B (mx_lst (es := []) (by rfl) mkl_nil) fun L oL H1 s1 nL n0 nS B XL => ?_
  try simp only [gName, List.set_cons_succ, List.set_cons_zero]
  replace B := B.sub1 sub0 fun _ z => z
  replace XL := XL.sub (S' := [a, c]) sub0
  have s0 := B.base
  have hp1 := s0 _ _ hp
  have hq1 := dp_same s0 hq
  replace B := B.rebase
  refine seq_for (for_D0 (i := 2) (S := [a, c]) rfl (strs_dp7 hp1) rfl (fun i σ' H' => ∃ (X : Addr) (f4 f5 f6 : Option V), σ' = [some (.ref a), some (.ref q), some (.ref p), some (.ref X), f4, f5, f6, none, none] ∧ X ∉ [a, c] ∧ Bl7 K a c (rmL [a, c] (L2.upd H1 L oL)) [a, c] [] [] H' ∧ Lx K [a, c] X (((List.range (25 * i)).map (txK pool)).map PyData.str) H')
    ⟨L, _, _, _, rfl, n0, B, XL⟩ (fun i σ' H' ⟨_, _, _, _, _, _, B, _⟩ => B.base) ?_ ?_)
  · clear B XL
    rintro i e y σ' H2 he hy ⟨X, f4, f5, f6, rfl, n0, B, XX⟩
    rw [List.getElem?_map] at he
    obtain ⟨x, ex, rfl⟩ := Option.map_eq_some_iff.mp he
    cases hy
    have il := (List.getElem?_eq_some_iff.mp ex).1
    have lx := w8 x (List.mem_of_getElem? ex)
    have gx : pool.getD i Str.empty = x := getD_H7 ex
    try simp only [gName, List.set_cons_succ, List.set_cons_zero]
    have sR := B.base
    have nwX := B.nw
    have hp2 := sR _ _ hp1
    replace B := B.rebase
    refine for_D0 (i := 2) (S := [a, c]) rfl (strs_dp7 hp2) rfl (fun j σ' H' => ∃ (X : Addr) (f5 f6 : Option V), σ' = [some (.ref a), some (.ref q), some (.ref p), some (.ref X), some (.str x), f5, f6, none, none] ∧ X ∉ [a, c] ∧ Bl7 K a c (rmL [a, c] H2) [a, c] [] [] H' ∧ Lx K [a, c] X (((List.range (25 * i + 5 * j)).map (txK pool)).map PyData.str) H')
      ⟨X, _, _, rfl, n0, B, XX⟩ (fun i σ' H' ⟨_, _, _, _, _, B, _⟩ => B.base) ?_ ?_
    · clear B XX n0 X
      rintro j e y σ' H3 he hy ⟨X, f5, f6, rfl, n0, B, XX⟩
      rw [List.getElem?_map] at he
      obtain ⟨z, ez, rfl⟩ := Option.map_eq_some_iff.mp he
      cases hy
      have jl := (List.getElem?_eq_some_iff.mp ez).1
      have lz := w8 z (List.mem_of_getElem? ez)
      have gz : pool.getD j Str.empty = z := getD_H7 ez
      try simp only [gName, List.set_cons_succ, List.set_cons_zero]
      have hp3 := strs_dp7 (K := K) (B.base _ _ hp2)
      refine asg_X1 B (mx_cat (es := ((List.range 5).map fun c => txK pool (25 * i + 5 * j + c)).map PyData.str) (me_var (by rfl) XX) (me_new (mx_lc (j := 2) (fun _ => true) (fun c => PyData.str (tx3 x z (pool.getD c Str.empty))) B.al (by rfl) hp3 rfl (by rw [List.length_map]; omega) ?lcE ?lcT)) (by rw [List.length_map, List.length_map, List.length_range, List.length_map, List.length_map, List.length_range]; omega)) fun Y oY H4 s4 nY y0 yS B XY => ?_
      case lcE =>
        rw [List.length_map, l5, List.filter_eq_self.mpr (fun _ _ => rfl), List.map_map]
        refine List.map_congr_left fun c hc => ?_
        have c5 := List.mem_range.mp hc
        show PyData.str _ = PyData.str (txK pool (25 * i + 5 * j + c))
        unfold txK
        have e1 : (25 * i + 5 * j + c) / 25 = i := by omega
        have e2 : (25 * i + 5 * j + c) / 5 % 5 = j := by omega
        have e3 : (25 * i + 5 * j + c) % 5 = c := by omega
        rw [e1, e2, e3, gx, gz]
      case lcT =>
        intro c v e D H' yes no he hv al sS s0 hy hn
        rw [List.getElem?_map] at he
        obtain ⟨u, eu, rfl⟩ := Option.map_eq_some_iff.mp he
        cases hv
        have lu := w8 u (List.mem_of_getElem? eu)
        have gu : pool.getD c Str.empty = u := getD_H7 eu
        rw [gu] at hy
        refine ⟨rfl, ?_⟩
        unfold tYes
        refine iteT ((mk_add (mk_add (mk_add (mk_add (mk_var (i := 4) (by rfl) (.str x)) (mk_str " ") (by omega)) (mk_var (i := 5) (by rfl) (.str z)) (by rw [len_app]; omega)) (mk_str " ") (by rw [len_app, len_app]; omega)) (mk_var (i := 6) (by rfl) (.str u)) (by rw [len_app, len_app, len_app]; omega)) H' _ (Same.refl _) fun y H4 s4 hy4 => hy rfl y H4 s4 hy4)
      refine ⟨Y, _, _, rfl, y0, B.sub1 sub0 fun _ z => z, ?_⟩
      have e5 : 25 * i + 5 * (j + 1) = 25 * i + 5 * j + 5 := by omega
      rw [e5, range_more (25 * i + 5 * j) 5, List.map_append, List.map_append, List.map_map (l := List.range 5)]
      exact XY.sub sub0
    · clear B XX n0 X
      rintro σ' H3 ⟨X, f5, f6, rfl, n0, B, XX⟩
      rw [List.length_map, l5] at XX
      exact ⟨X, _, _, _, rfl, n0, B.back sR nwX, XX⟩
  · clear B XL n0
    rintro σ' H2 ⟨X, f4, f5, f6, rfl, n0, B, XX⟩
    rw [List.length_map, l5] at XX
    try dsimp only
    refine asg_X B (mx_lst (es := []) (by rfl) mkl_nil) fun D oD H3 s3 nD d0 dS B XD => ?_
    try simp only [gName, List.set_cons_succ, List.set_cons_zero]
    replace XX := XX.same s3
    have XDne : X ≠ D := fun z => by
      obtain ⟨us, e, _⟩ := XX
      rw [z, nD] at e
      cases e
    replace XX := XX.enter (o := oD) nD
    refine ⟨_, rfl, by decide, by decide, ?_⟩
    refine for_range (lo := 0) (n := 61) (fun i σ' H' => ∃ (ls : List Li) (f8 : Option V), σ' = [some (.ref a), some (.ref q), some (.ref p), some (.ref X), f4, f5, f6, some (.ref D), f8] ∧ Bl7 K a c (rmL [a, c] (L2.upd H1 L oL)) [D, a, c] [] [] H' ∧ Lx K [D, a, c] X (((List.range (25 * 5)).map (txK pool)).map PyData.str) H' ∧ Lx K [D, a, c] D (ls.map lineD) H' ∧ ls.map (·.1) = (List.range i).map (txK pool) ∧ ∀ l ∈ ls, LiOk t 6 l)
      ⟨[], _, rfl, B, XX, XD, rfl, fun l hl => absurd hl List.not_mem_nil⟩ ?_ ?_
    · clear B XX XD
      rintro i σ' H4 hi ⟨ls, f8, rfl, B, XX, XD, g1, g2⟩
      have ll : ls.length = i := by
        have := congrArg List.length g1
        rw [List.length_map, List.length_map, List.length_range] at this
        exact this
      have ei : (0 : Int) + (i : Int) = ((i : Nat) : Int) := by omega
      rw [ei]
      try simp only [gName, List.set_cons_succ, List.set_cons_zero]
      refine ⟨_, rfl, .inl ⟨rfl, _, XD.lst.choose_spec⟩, _, rfl, _, rfl, ix_X XX (by rw [List.length_map, List.length_map, List.length_range]; omega) fun e v he hv => ?_⟩
      rw [List.getElem?_map, List.getElem?_map, List.getElem?_range (by omega)] at he
      cases he
      cases hv
      refine pickF draw7_ok B rfl rfl (dp_same B.base hq1) rfl (by rw [List.length_map]; exact a1) (by rw [List.length_map]; omega) fun r d v H5 hd B s5 => ?_
      rw [List.getElem?_map] at hd
      obtain ⟨wa, ewa, rfl⟩ := Option.map_eq_some_iff.mp hd
      replace XX := XX.move B.sub n0 s5
      replace XD := XD.move B.sub d0 s5
      refine ⟨by show 2 ≤ sizeLine; decide, fun z o hz _ => ?_⟩
      have hzd := TD.dp (tup_td B.al hz (o := o) (.cons (.str (txK pool i)) (.cons (dget B.E 0 rfl rfl) .nil)))
      replace XX := XX.same (new_same hz (.frz o (.tup [.str (txK pool i), v])))
      dsimp only [tNil]
      refine rApp_X ((B.same (new_same hz _)).drop 1) (XD.same (new_same hz _)) List.mem_cons_self d0 hzd (by rw [List.length_map]; omega) fun o B XD => ?_
      refine ⟨ls ++ [(txK pool i, wa)], _, rfl, B, XX.put List.mem_cons_self XDne, by rw [List.map_append]; exact XD, ?_, fun l hl => ?_⟩
      · rw [List.map_append, g1, List.range_succ, List.map_append] <;> rfl
      · rcases List.mem_append.mp hl with hl | hl
        · exact g2 l hl
        · rw [List.mem_singleton.mp hl]
          exact ⟨txK_ok l5 hw (by omega), ha wa (List.mem_of_getElem? ewa)⟩
    · clear B XX XD
      rintro σ' H4 ⟨ls, f8, rfl, B, XX, XD, g1, g2⟩
      have ll : ls.length = 61 := by
        have := congrArg List.length g1
        rw [List.length_map, List.length_map, List.length_range] at this
        exact this
      refine ⟨_, rfl, k (.ref D) ls H4 (XD.dp B.sub d0) ll ?_ g2 B.fl (s0.trans B.keep)⟩
      refine List.nodup_iff_pairwise_ne.mpr (List.Pairwise.of_map (S := fun a b => a ≠ b) (fun l : Li => l.1) (fun a b h z => h (by rw [z])) ?_)
      rw [show ls.map (fun l : Li => l.1) = _ from g1, List.pairwise_map]
      refine (List.nodup_iff_pairwise_ne.mp List.nodup_range).imp_of_mem fun {x y} hx hy n z => n ?_
      have := List.mem_range.mp hx
      have := List.mem_range.mp hy
      exact txK_inj l5 hw nd (by omega) (by omega) z
end
end Q
set_option Elab.async false
set_option linter.all false
set_option maxRecDepth 100000
set_option maxHeartbeats 4000000
/-! ### k07: what are phrases and what are none -/
namespace Q
open PySem L2 XD XN
theorem isAct_row {t : List (Str × List Str)} {a b : PyData} (h : rowOf a = rowOf b) : isAct t a = isAct t b := by
  unfold isAct
  rw [h]
theorem aok_row {a b : PyData} (h : rowOf a = rowOf b) (k : AOk b) : AOk a := fun xs e => k xs (by rw [← h]; exact e)
/-- lines as handed in, the acts as whatever rows -/
def LinesG (ls : List Li) (d : PyData) : Prop := ∃ f : Li → PyData, rowOf d = some (ls.map f) ∧ ∀ l, ∃ a, pairOf (f l) = some (.str l.1, a) ∧ rowOf a = some (l.2.map PyData.str)
theorem linesG_l {ls : List Li} : LinesG ls (.list (ls.map lineD)) := ⟨lineD, rfl, fun l => ⟨.tuple (l.2.map PyData.str), rfl, rfl⟩⟩
theorem linesG_t {ls : List Li} : LinesG ls (.tuple (ls.map lineD)) := ⟨lineD, rfl, fun l => ⟨.tuple (l.2.map PyData.str), rfl, rfl⟩⟩
theorem linesG_ll {ls : List Li} : LinesG ls (.list (ls.map lineLL)) := ⟨lineLL, rfl, fun l => ⟨.list (l.2.map PyData.str), rfl, rfl⟩⟩
theorem linesG_tl {ls : List Li} : LinesG ls (.tuple (ls.map lineLL)) := ⟨lineLL, rfl, fun l => ⟨.list (l.2.map PyData.str), rfl, rfl⟩⟩
theorem one_good7 {t : List (Str × List Str)} (O : GridOk t) {l : Li} (hl : LiOk t 6 l) {p a : PyData} (hp : pairOf p = some (.str l.1, a)) (ha : rowOf a = some (l.2.map PyData.str)) : isPhrase t p = true ∧ POk p ∧ keyOfP p = .tup [.text l.1, .tup (l.2.map NestedKey.text)] := by
  obtain ⟨s9, ak⟩ := hl.pok O _ _ (show pairOf (lineD l) = some (.str l.1, .tuple (l.2.map PyData.str)) from rfl)
  refine ⟨?_, pok_two hp s9 (aok_row (b := .tuple (l.2.map PyData.str)) ha ak), ?_⟩
  · obtain ⟨⟨ws, a1, a2, a3, a4⟩, a5⟩ := hl
    unfold isPhrase
    rw [hp]
    show (isText (.str l.1) && (decide ((wordsOf l.1).length ≤ 6) && isAct t a)) = true
    have tx : isText (.str l.1) = true := by
      show text l.1 = true
      rw [a4]
      exact text_W a1 a3
    have wl : (wordsOf l.1).length ≤ 6 := by
      rw [a4, words_W a1 a3]
      omega
    rw [tx, decide_eq_true wl, isAct_row (b := .tuple (l.2.map PyData.str)) ha, act_good O a5] <;> rfl
  · unfold keyOfP
    rw [hp]
    show NestedKey.tup [.text l.1, .tup (((rowOf a).getD []).map leafK)] = _
    rw [ha]
    show NestedKey.tup [.text l.1, .tup ((l.2.map PyData.str).map leafK)] = _
    rw [leaf_texts]
theorem LinesG.good {t : List (Str × List Str)} (O : GridOk t) {ls : List Li} {d : PyData} (h : LinesG ls d) (h1 : 1 ≤ ls.length) (h60 : ls.length ≤ 60) (nd : ls.Nodup) (hl : ∀ l ∈ ls, LiOk t 6 l) : isPhrases t d = true := by
  obtain ⟨f, hr, hp⟩ := h
  have one : ∀ l ∈ ls, isPhrase t (f l) = true ∧ POk (f l) ∧ keyOfP (f l) = .tup [.text l.1, .tup (l.2.map NestedKey.text)] := fun l hm => by
    obtain ⟨a, e1, e2⟩ := hp l
    exact one_good7 O (hl l hm) e1 e2
  unfold isPhrases
  rw [hr]
  show (decide (1 ≤ (ls.map f).length) && (decide ((ls.map f).length ≤ 60) && ((ls.map f).all (isPhrase t) && decide ((ls.map f).map keyOfP).Nodup))) = true
  have nd2 : ((ls.map f).map keyOfP).Nodup := by
    rw [List.map_map, List.nodup_iff_pairwise_ne, List.pairwise_map]
    refine (List.nodup_iff_pairwise_ne.mp nd).imp_of_mem fun {a b} ha hb n z => n ?_
    have z : keyOfP (f a) = keyOfP (f b) := z
    rw [(one a ha).2.2, (one b hb).2.2] at z
    have z := NestedKey.tup.inj z
    obtain ⟨z1, z2⟩ := List.cons.inj z
    have z3 := NestedKey.tup.inj (List.cons.inj z2).1
    exact Prod.ext (NestedKey.text.inj z1) (leaf_inj z3)
  rw [List.length_map, decide_eq_true h1, decide_eq_true h60, decide_eq_true nd2, List.all_eq_true.mpr fun p hp' => ?_]
  · rfl
  · obtain ⟨l, hm, rfl⟩ := List.mem_map.mp hp'
    exact (one l hm).1
theorem LinesG.ok {t : List (Str × List Str)} (O : GridOk t) {ls : List Li} {d : PyData} (h : LinesG ls d) (h1 : ls.length ≤ 1000) (hl : ∀ l ∈ ls, LiOk t 6 l) : PsOk d := fun qs e => by
  obtain ⟨f, hr, hp⟩ := h
  rw [hr] at e
  cases e
  refine ⟨by rw [List.length_map]; exact h1, fun p hq => ?_⟩
  obtain ⟨l, hm, rfl⟩ := List.mem_map.mp hq
  obtain ⟨a, e1, e2⟩ := hp l
  exact (one_good7 O (hl l hm) e1 e2).2.1
theorem bad_of7 {t : List (Str × List Str)} {d : PyData} {rs : List PyData} (hr : rowOf d = some rs) (hl : rs.length ≤ 1000) (ok : ∀ p ∈ rs, POk p) (h : (∃ x ∈ rs, isPhrase t x = false) ∨ ¬ (rs.map keyOfP).Nodup ∨ 60 < rs.length) : BadLines t d := by
  refine ⟨?_, fun qs e => ?_⟩
  · unfold isPhrases
    rw [hr]
    show (decide (1 ≤ rs.length) && (decide (rs.length ≤ 60) && (rs.all (isPhrase t) && decide (rs.map keyOfP).Nodup))) = false
    rcases h with ⟨x, hx, hb⟩ | h | h
    · have : rs.all (isPhrase t) = false := List.all_eq_false.mpr ⟨x, hx, by rw [hb]; exact Bool.false_ne_true⟩
      rw [this, Bool.false_and, Bool.and_false, Bool.and_false]
    · rw [decide_eq_false h, Bool.and_false, Bool.and_false, Bool.and_false]
    · rw [decide_eq_false (by omega : ¬ rs.length ≤ 60), Bool.false_and, Bool.and_false]
  · rw [hr] at e
    cases e
    exact ⟨hl, ok⟩
/-- one of them spoilt behind the first -/
abbrev spoilt7 (ls : List Li) (at_ : Nat) (x : PyData) : List PyData := (ls.map lineD).take at_ ++ [x] ++ (ls.map lineD).drop at_
theorem spoilt_bad7 {t : List (Str × List Str)} (O : GridOk t) {l : Li} {ls : List Li} (hl : ∀ z ∈ l :: ls, LiOk t 6 z) (h12 : (l :: ls).length ≤ 60) {at_ : Nat} (a1 : 1 ≤ at_) {x : PyData} (hx : BadPr t l x) {d : PyData} (hr : rowOf d = some (spoilt7 (l :: ls) at_ x)) : BadLines t d := by
  obtain ⟨px, hx⟩ := hx
  have lok : ∀ z ∈ (l :: ls).map lineD, POk z := fun z hz => by
    obtain ⟨y, hy, rfl⟩ := List.mem_map.mp hz
    exact (hl y hy).pok O
  have mx : x ∈ spoilt7 (l :: ls) at_ x := List.mem_append_left _ (List.mem_append_right _ (List.mem_singleton.mpr rfl))
  refine bad_of7 hr ?_ (fun p hp => ?_) ?_
  · have : (spoilt7 (l :: ls) at_ x).length ≤ (l :: ls).length + 1 + (l :: ls).length := by
      show (((l :: ls).map lineD).take at_ ++ [x] ++ ((l :: ls).map lineD).drop at_).length ≤ _
      rw [List.length_append, List.length_append, List.length_take, List.length_drop, List.length_map, List.length_singleton]
      omega
    omega
  · rcases List.mem_append.mp hp with hp | hp
    · rcases List.mem_append.mp hp with hp | hp
      · exact lok p (List.mem_of_mem_take hp)
      · rw [List.mem_singleton.mp hp]
        exact px
    · exact lok p (List.mem_of_mem_drop hp)
  · rcases hx with hx | hx
    · exact .inl ⟨x, mx, hx⟩
    · refine .inr (.inl fun nd => ?_)
      obtain ⟨b, rfl⟩ : ∃ b, at_ = b + 1 := ⟨at_ - 1, by omega⟩
      have e : spoilt7 (l :: ls) (b + 1) x = lineD l :: ((ls.map lineD).take b ++ [x] ++ (ls.map lineD).drop b) := rfl
      rw [e, List.map_cons, List.nodup_cons] at nd
      refine nd.1 ?_
      rw [← hx]
      exact List.mem_map.mpr ⟨x, List.mem_append_left _ (List.mem_append_right _ (List.mem_singleton.mpr rfl)), rfl⟩
/-- what are no phrases at all -/
abbrev noneP (l : Li) : List PyData := [.none, .int 5, .tuple [], .list [], .str "a", .bool true, lineD l]
theorem noneP_bad {t : List (Str × List Str)} (O : GridOk t) {l : Li} (hl : LiOk t 6 l) : ∀ d ∈ noneP l, BadLines t d := fun d hd => by
  simp only [List.mem_cons, List.not_mem_nil, or_false] at hd
  rcases hd with rfl | rfl | rfl | rfl | rfl | rfl | rfl
  · exact ps_row rfl
  · exact ps_row rfl
  · exact ps_nil rfl
  · exact ps_nil rfl
  · exact ps_row rfl
  · exact ps_row rfl
  · refine bad_of7 (rs := [.str l.1, .tuple (l.2.map PyData.str)]) rfl (Nat.le_of_ble_eq_true rfl) (fun p hp => ?_) (.inl ⟨.str l.1, List.mem_cons_self, phr_no rfl⟩)
    rcases List.mem_cons.mp hp with rfl | hp
    · exact pok_no rfl
    · rw [List.mem_singleton.mp hp]
      rcases hl.2 with e | e | ⟨f, hf, e | ⟨w, hw, e | e⟩⟩
      · rw [e]
        exact pok_no rfl
      · rw [e]
        exact pok_no rfl
      · rw [e]
        exact pok_two (x := .str "drop") rfl (show (4 : Nat) ≤ 900 by decide) (aok_no rfl)
      · rw [e]
        exact pok_no rfl
      · rw [e]
        exact pok_no rfl
theorem many_bad7 {t : List (Str × List Str)} (O : GridOk t) {ls : List Li} (h : ls.length = 61) (hl : ∀ l ∈ ls, LiOk t 6 l) : BadLines t (.list (ls.map lineD)) :=
  ps_many (by rw [List.length_map]; omega) (by rw [List.length_map]; omega) fun p hp => by
    obtain ⟨l, hm, rfl⟩ := List.mem_map.mp hp
    exact (hl l hm).pok O
theorem llay {t : List (Str × List Str)} (O : GridOk t) {ls : List Li} (hl : ∀ l ∈ ls, LiOk t 6 l) : SeqAt.shaped (.list (ls.map lineLL)) = true ∧ PyData.eqv (.list (ls.map lineLL)) (.list (ls.map lineLL)) = true := by
  have one : ∀ l ∈ ls, (lineLL l).canLay0 = true ∧ (lineLL l).depth ≤ 2 := fun l hm => by
    have h := strs_shaped (ws := l.2) (act_ok O (hl l hm).2).2
    have hx := sh_str (ok_joinW (hl l hm).1.choose_spec.2.2.1)
    have e1 := (hl l hm).1.choose_spec.2.2.2
    rw [← e1] at hx
    unfold SeqAt.shaped at h hx
    rw [Bool.and_eq_true] at h hx
    have d1 : ∀ ws : List Str, PyData.depthAll (ws.map PyData.str) = 0 := by
      intro ws
      induction ws with
      | nil => rfl
      | cons w ws ih => rw [List.map_cons, PyData.depthAll, ih] <;> rfl
    constructor
    · show PyData.canLay0 (.list [.str l.1, .list (l.2.map PyData.str)]) = true
      simp only [PyData.canLay0, PyData.canLayAll0, Bool.and_eq_true] at h hx ⊢
      exact ⟨hx.1, h.1, trivial⟩
    · show PyData.depth (.list [.str l.1, .list (l.2.map PyData.str)]) ≤ 2
      simp only [PyData.depth, PyData.depthAll, d1]
      decide
  have all : ∀ qs : List Li, (∀ l ∈ qs, (lineLL l).canLay0 = true ∧ (lineLL l).depth ≤ 2) → PyData.canLayAll0 (qs.map lineLL) = true ∧ PyData.depthAll (qs.map lineLL) ≤ 2 := by
    intro qs
    induction qs with
    | nil => exact fun _ => ⟨rfl, by decide⟩
    | cons q qs ih =>
      intro h
      obtain ⟨a, b⟩ := ih fun l hm => h l (List.mem_cons_of_mem _ hm)
      obtain ⟨c, d⟩ := h q List.mem_cons_self
      rw [List.map_cons]
      refine ⟨by rw [PyData.canLayAll0, c, a] <;> rfl, ?_⟩
      rw [PyData.depthAll]
      exact Nat.max_le.mpr ⟨d, b⟩
  obtain ⟨a, b⟩ := all ls one
  have lay : PyData.canLay0 (.list (ls.map lineLL)) = true := by
    rw [PyData.canLay0]
    exact a
  refine ⟨?_, PySem.SeqAt.eqv_refl _ lay⟩
  unfold SeqAt.shaped
  rw [lay, Bool.true_and]
  refine decide_eq_true ?_
  rw [PyData.depth]
  refine Nat.le_trans (Nat.succ_le_succ b) (by decide)
end Q
set_option Elab.async false
set_option linter.all false
set_option maxRecDepth 100000
set_option maxHeartbeats 4000000
/-! ### xs[lo:hi:k] of a list: what is picked stands in it -/
namespace XS5
open PySem PySem.Spec PyProof.Rows L2
def tStep (K : PySem.W.Frag) (te : TE) (tl : TO) : TE := fun σ H Q => te σ H fun x H1 => tl σ H1 fun l H4 => ∃ a xs, x = .ref a ∧ SqL K H4 a xs ∧ ∀ p ys, H4 p = none → (∀ y ∈ ys, y ∈ xs) → ys.length ≤ xs.length → Q (.ref p) (upd H4 p (.lst ys))
theorem vals_at {xs : List V} {us : List Value} (r : Vals xs us) : ∀ n : Nat, (xs[n]? = none ∧ us[n]? = none) ∨ ∃ x u, xs[n]? = some x ∧ us[n]? = some u ∧ RelV x u := by
  induction r with
  | nil => exact fun n => .inl ⟨rfl, rfl⟩
  | cons a _ ih =>
    intro n
    cases n with
    | zero => exact .inr ⟨_, _, rfl, rfl, a⟩
    | succ n => exact ih n
theorem vals_pick {xs : List V} {us : List Value} (r : Vals xs us) : ∀ ix : List Nat, Vals (ix.filterMap (xs[·]?)) (ix.filterMap (us[·]?))
  | [] => .nil
  | n :: ix => by
    rw [List.filterMap_cons, List.filterMap_cons]
    rcases vals_at r n with ⟨h1, h2⟩ | ⟨x, u, h1, h2, h3⟩
    · rw [h1, h2]
      exact vals_pick r ix
    · rw [h1, h2]
      exact .cons h3 (vals_pick r ix)
theorem pe_step {X : Cx} {e lo : Expr} {te : TE} {tl : TO} {z : Int} {kk : Nat} {pk p3 pos : Pos} (he : PE X e te) (hl : PO X (some lo) tl) (n0 : z ≠ 0) (K : PySem.W.Frag) (eK : X.K = K) : PE X (.Subscript e (.Slice (some lo) none (some (.Constant (.int z) kk pk)) p3) pos) (tStep K te tl) := by
  subst eK
  have hst : PO X (some (.Constant (.int z) kk pk)) (tPart (tC (.int z))) := po_some pe_int
  refine ⟨fun pins s σ H Q I hq => Subscript_ (thn (he.run pins s σ H _ I hq) fun v s1 ⟨x, H1, I1, r1, q1⟩ => ?_)⟩
  refine wpAny_Slice (thn (hl.run pins s1 σ H1 _ I1 q1) fun vl s2 ⟨l, H2, I2, pl, q2⟩ => thn (po_none.run pins s2 σ H2 (fun o J => o = none ∧ J = H2) I2 ⟨rfl, rfl⟩) fun vu s3 ⟨u, H3, I3, pu, eu, e3⟩ => ?_)
  subst eu e3
  refine thn (hst.run pins s3 σ H3 (fun o J => o = some z ∧ J = H3) I3 ⟨z, rfl, rfl, rfl⟩) fun vk s4 ⟨o, H4, I4, pk, eo, e4⟩ => ?_
  subst eo e4
  obtain ⟨a, xs, rfl, hx, q⟩ := q2
  cases r1
  have J : Inv X pins σ H4 { s4 with heap := s4.heap.push { cls := .type "slice", data := .fields #[vl, vu, vk] } } := I4.kept (t' := s4.toks) fun b ob z => Heap.get?_push_of_some _ z
  obtain ⟨its, r, ht, hz⟩ := J.list hx
  have ln := r.length
  show wpAny (model X.prog X.w) X.A (subscriptTail e (.Slice (some lo) none (some _) p3) (.ref a) (.ref s4.heap.objs.size)) (EP X pins σ Q) X.xe { s4 with heap := s4.heap.push { cls := .type "slice", data := .fields #[vl, vu, vk] } }
  refine tail_any (ops := [.ref a, .ref s4.heap.objs.size]) ht.isList.typeIs (PySem.slot_list_getitem.lookup) ?_ (by with_unfolding_all rfl)
  refine wpAny_getItem_list_slice ht.isList (Heap.IsSliceOf.new _ vl vu vk) pl pu pk (fun w => n0 (Option.some.inj w)) ?_ (by rw [List.size_toArray]; omega)
  obtain ⟨ix, hix⟩ : ∃ ix : List Nat, (slicePick its.toArray l none (some z)).toList = ix.filterMap (its[·]?) := ⟨_, by simp [slicePick]; rfl⟩
  have few := slicePick_size_le its.toArray l none (some z)
  have rp := vals_pick r ix
  rw [← hix] at rp
  generalize slicePick its.toArray l none (some z) = picked at rp few
  have lp := rp.length
  have few2 : (ix.filterMap (xs[·]?)).length ≤ xs.length := by
    rw [lp, ln, Array.length_toList]
    exact few
  refine ⟨.ref _, _, J.laid (t' := s4.toks) (o := .lst (ix.filterMap (xs[·]?))) (fun b ob z => Heap.get?_push_of_some _ z) (Nat.le_refl _) ?_, rfl, q _ _ (J.hok.fresh (Nat.le_refl _)) (fun y hy => ?_) few2⟩
  · exact ⟨by omega, _, 0, rp, Heap.get?_push_size _ rfl⟩
  · obtain ⟨n, _, hn⟩ := List.mem_filterMap.mp hy
    exact List.mem_of_getElem? hn
end XS5
set_option Elab.async false
set_option linter.all false
set_option maxRecDepth 100000
set_option maxHeartbeats 4000000
/-! ### parts of tuples and lists, as data; keywords in the def's own order -/
namespace Q
open PySem PySem.Spec PyProof.Rows L2 L2H XD
def inn2 {α : Type} : List α → List α → List α
  | [], [a, b] => [a, b]
  | _, _ => []
theorem inn2_rel {vs zs : List V} {us ws : List Value} (r : Vals vs us) (rz : Vals zs ws) : Vals (inn2 vs zs) (inn2 us ws) := by
  cases r with
  | cons a b => exact .nil
  | nil =>
    cases rz with
    | nil => exact .nil
    | cons a r1 =>
      cases r1 with
      | nil => exact .nil
      | cons b r2 =>
        cases r2 with
        | nil => exact .cons a (.cons b .nil)
        | cons c r3 => exact .nil
theorem kbs2 {K : PySem.W.Frag} {x qual : Str} {st : Stmt} {f : Addr} {fd : FuncData} (F : Fun K x qual st f fd) {p1 p2 : Str} (h : ∀ (kV doc pm : Value) (an : Option Addr) (cdv ct a b : Value), bindArgs (PySem.W.fnOf x qual (defArgs st) (defBody st) (defScope st) .none kV doc pm an cdv ct) ⟨[], [(p1, a), (p2, b)]⟩ = pure [(p1, a), (p2, b)]) :
    KBn K fd [p1, p2] 0 [p1, p2] inn2 inn2 := by
  obtain ⟨oc, od, kV, doc, pm, an, cdv, ct, osl, rfl, lk, hcd⟩ := F.ex
  refine ⟨fun s us ws X l1 l2 => ?_, fun r rz => inn2_rel r rz⟩
  match us, ws, l1, l2 with
  | [], [a, b], _, _ => exact BindsTo.of_eq (h kV doc pm an cdv ct a b)
theorem op_neD7 {X : Cx} (K : PySem.W.Frag) (h : X.K = K) (hu : X.A.units + 64 < cLine) : OpR X (compareOp .NotEq) (rNeD K) := by
  subst h
  exact op_neD hu
section
variable {K : PySem.W.Frag} {S : List Addr} {H0 : Hp} {σ : L2.St} {H : Hp} {Q : VK} {i j : Nat}
theorem slA_D {v : V} {es : List PyData} {lo hi : Option Int} {a b : Nat} (A : Alive S H) (hv : Dp K (rmL S H) v (.tuple es)) (e1 : HT.sIx es.length 0 lo = a) (e2 : HT.sIx es.length es.length hi = b) (k : ∀ u H', Same H H' → Dp K (rmL S H') u (.tuple ((es.drop a).take (b - a))) → Q u H') : rSlA K v lo hi H Q := by
  obtain ⟨q, ys, rfl, hq, ha⟩ := TD.of hv
  have ln := dps_len ha
  rw [← ln] at e1 e2
  have cut : cutV ys lo hi = (ys.drop a).take (b - a) := by
    unfold cutV
    rw [e1, e2]
  have dd : DpAll K (rmL S H) ((ys.drop a).take (b - a)) ((es.drop a).take (b - a)) := dps_take _ (dps_drop a ha)
  refine ⟨q, ys, rfl, seqT_same rm_le hq, fun z => k _ H (Same.refl H) ?_, fun _ p hp => ?_⟩
  · obtain ⟨z1, z2⟩ := z
    rw [e1] at z1
    rw [e2] at z2
    subst z1
    have g1 : (es.drop 0).take (b - 0) = es := by
      rw [List.drop_zero, Nat.sub_zero, List.take_of_length_le]
      omega
    rw [g1]
    exact hv
  · have s := new_same hp (.tup (cutV ys lo hi))
    refine k _ _ s (.tup (.inl (.inl (rm_new A hp))) ?_)
    rw [cut]
    exact dps_same (rm_same (new_same hp _)) dd
theorem mk_takeT {v : V} {es : List PyData} {n : Nat} (A : Alive S H0) (e : σ[i]? = some (some v)) (h : Dp K (rmL S H0) v (.tuple es)) (ej : σ[j]? = some (some (.int (n : Int)))) (hn : n ≤ es.length) : MkD K S H0 σ (tSl (rSlA K) (tVar i) tNoPart (tPart (tVar j))) (.tuple (es.take n)) := fun H Q s k =>
  ⟨v, e, ⟨_, ej, _, rfl, slA_D (a := 0) (b := n) (A.same s) (dp_same (rm_same s) h) rfl (by rw [HT.sIx_nat, Nat.min_eq_left hn]) k⟩⟩
theorem mk_dropT {v : V} {es : List PyData} {n : Nat} (A : Alive S H0) (e : σ[i]? = some (some v)) (h : Dp K (rmL S H0) v (.tuple es)) (ej : σ[j]? = some (some (.int (n : Int)))) (hn : n ≤ es.length) : MkD K S H0 σ (tSl (rSlA K) (tVar i) (tPart (tVar j)) tNoPart) (.tuple (es.drop n)) := fun H Q s k =>
  ⟨v, e, ⟨_, ej, _, rfl, slA_D (a := n) (b := es.length) (A.same s) (dp_same (rm_same s) h) (by rw [HT.sIx_nat, Nat.min_eq_left hn]) rfl fun u H' s' hu => k u H' s' (by
    rw [List.take_of_length_le (by rw [List.length_drop]; exact Nat.le_refl _)] at hu
    exact hu)⟩⟩
theorem mk_catP {t1 t2 : TE} {ds es : List PyData} (A : Alive S H0) (h : MkD K S H0 σ t1 (.tuple ds)) (g : MkD K S H0 σ t2 (.tuple es)) (h1 : ds ≠ []) (hl : ds.length + es.length ≤ 1000) : MkD K S H0 σ (tOp (rCatT K) t1 t2) (.tuple (ds ++ es)) := mk_catT A h g h1 (Nat.ble_eq_true_of_le hl)
theorem mx_takeL {v : V} {es : List PyData} {n : Nat} (e : σ[i]? = some (some v)) (h : Dp K (rmL S H0) v (.list es)) (hn : n ≤ es.length) : MkX K S H0 σ (tSl (rSlB K) (tVar i) tNoPart (tPart (tC (.int (n : Int))))) (es.take n) := fun H Q s k => by
  have hv := dp_same (rm_same s) h
  cases hv with
  | @lst q ys _ hq ha =>
    have ln := dps_len ha
    refine ⟨_, e, ⟨_, rfl, .inr ⟨q, ys, rfl, Same.seq rm_le hq, fun p hp => ?_⟩⟩⟩
    have cut : cutV ys none (some (n : Int)) = ys.take n := by
      unfold cutV
      rw [HT.sIx_none, HT.sIx_nat, Nat.min_eq_left (by omega), List.drop_zero, Nat.sub_zero]
    rw [cut]
    exact k p _ H (Same.refl H) hp (dps_take n ha)
/-- the first of them, more are there -/
theorem step_D {tl : TO} {v : V} {es : List PyData} (Pp : Hp → Prop) (he : σ[i]? = some (some v)) (hl : ∀ Q : Option Int → Hp → Prop, (∀ lo H', Same (rmL S H) (rmL S H') → Pp H' → Q lo H') → tl σ H Q) (hv : Dp K (rmL S H) v (.list es))
    (k : ∀ p ys (fs : List PyData) H' , Same (rmL S H) (rmL S H') → Pp H' → H' p = none → DpAll K (rmL S H') ys fs → (∀ d ∈ fs, d ∈ es) → fs.length ≤ es.length → Q (.ref p) (L2.upd H' p (.lst ys))) : XS5.tStep K (tVar i) tl σ H Q :=
  ⟨v, he, hl _ fun lo H' s A' => by
    have hv := dp_same s hv
    cases hv with
    | @lst q ys _ hq ha =>
      have ln := dps_len ha
      refine ⟨q, ys, rfl, Same.seq rm_le hq, fun p zs hp hz lz => ?_⟩
      have pick : ∀ ws : List V, (∀ y ∈ ws, y ∈ ys) → ∃ fs : List PyData, DpAll K (rmL S H') ws fs ∧ ∀ d ∈ fs, d ∈ es := by
        intro ws
        induction ws with
        | nil => exact fun _ => ⟨[], .nil, fun d hd => absurd hd List.not_mem_nil⟩
        | cons w ws ih =>
          intro hw
          obtain ⟨fs, h1, h2⟩ := ih fun y hy => hw y (List.mem_cons_of_mem _ hy)
          obtain ⟨m, hm⟩ := List.mem_iff_getElem?.mp (hw w List.mem_cons_self)
          obtain ⟨e, he, hd⟩ := dps_get ha hm
          refine ⟨e :: fs, .cons hd h1, fun d hd => ?_⟩
          rcases List.mem_cons.mp hd with rfl | hd
          · exact List.mem_of_getElem? he
          · exact h2 d hd
      obtain ⟨fs, h1, h2⟩ := pick zs hz
      exact k p zs fs H' s A' hp h1 h2 (by rw [← dps_len h1]; omega)⟩
end
end Q
set_option Elab.async false
set_option linter.all false
set_option maxRecDepth 100000
set_option maxHeartbeats 4000000
/-! ### k07: law -/
namespace Q
open PySem PySem.Spec L2 XD
def spLaw (K : PySem.W.Frag) : Sp := fun vs H Q _ => ∃ (sc : Addr) (ns : List Int), vs = [.ref sc] ∧ SqL K H sc (ns.map V.int) ∧ ns.length ≤ 63 ∧ ∀ H', Q (.bl true) H'
theorem tcons_c {v : V} {σ : L2.St} {H : Hp} {Q : List V → Hp → Prop} (h : Q [v] H) : tCons (tC v) tNil σ H Q := h
abbrev nLaw : List Str := ["script", "state", "table", "shape", "acts", "pool", "book", "rows", "kept", "pairs", "pair", "at", "spoilt", "way", "none", "long"]
section
variable {P : Program} {w : World} {K : PySem.W.Frag} {mg : Str → Option Value} {base : Heap}
theorem scLaw : FnScope nLaw ["script"] (defScope sLaw) := ⟨rfl, rfl, rfl, by decide +kernel, rfl, by decide +kernel, by decide +kernel⟩
theorem ok_law {f fK C CV : Addr} {fd fdK : FuncData} (F : Fun K "law" "law" sLaw f fd) (T : Be7 mg)
    (KA : Kn P w K mg base 1 "_law_start" ["script"] (spStart7 K)) (KD : Kn P w K mg base 1 "_law_draw" ["state", "many"] spDraw7) (KT : Kn P w K mg base 3 "_law_table" ["state"] (spTable7 K)) (KF : Kn P w K mg base 8 "_law_form" ["state", "table"] (spSheet7 K C)) (KC : Kn P w K mg base 1 "_law_acts" ["table"] (spActs7 K))
    (KW : Kn P w K mg base 2 "_law_words" ["state", "many", "most"] (spWords7 K)) (KB : Kn P w K mg base 3 "_law_book" ["state", "acts", "pool", "many"] (spBook7 K)) (KL : Kn P w K mg base 1 "_law_listed" ["book"] (spListed7 K)) (KP : Kn P w K mg base 3 "_law_bad_pairs" ["book", "pool", "table"] (spBadPs7 K))
    (KR : Kn P w K mg base 8 "_law_refuses" ["shape", "book", "way"] (spRefu7 K C)) (KG : Kn P w K mg base 2 "_law_long_book" ["state", "acts", "pool"] (spLong7 K))
    (GK : FnOk P w K mg base (L2N.CX P w) 6 fK fdK ["form", "phrases"] (spCheck K C CV)) (kK : PySem.W.keepIn K (.ref fK) = true) (bK : Binds K fdK ["form", "phrases"] []) (mK : mg "check_phrases" = some (.ref fK)) (wK : KBn K fdK ["form", "phrases"] 0 ["form", "phrases"] inn2 inn2) : FnOk P w K mg base CX0 9 f fd ["script"] (spLaw K) := by
  obtain ⟨fA, fdA, GA, kA, bA, mA⟩ := KA.ex
  obtain ⟨fD, fdD, GD, kD, bD, mD⟩ := KD.ex
  obtain ⟨fT, fdT, GT, kT, bT, mT⟩ := KT.ex
  obtain ⟨fF, fdF, GF, kF, bF, mF⟩ := KF.ex
  obtain ⟨fC, fdC, GC, kC, bC, mC⟩ := KC.ex
  obtain ⟨fW, fdW, GW, kW, bW, mW⟩ := KW.ex
  obtain ⟨fB, fdB, GB, kB, bB, mB⟩ := KB.ex
  obtain ⟨fL, fdL, GL, kL, bL, mL⟩ := KL.ex
  obtain ⟨fP, fdP, GP, kP, bP, mP⟩ := KP.ex
  obtain ⟨fR, fdR, GR, kR, bR, mR⟩ := KR.ex
  obtain ⟨fG, fdG, GG, kG, bG, mG⟩ := KG.ex
  refine F.ok scLaw (fun vs H Q E h => ?_) (fun cdv A outer s H vs Q E hr h => ?_)
  · obtain ⟨sc, ns, rfl, _⟩ := h
    rfl
  have hr1 := hr.mono (show 1 ≤ 8 by decide)
  have hr2 := hr.mono (show 2 ≤ 8 by decide)
  have hr3 := hr.mono (show 3 ≤ 8 by decide)
  have hr6 := hr.mono (show 6 ≤ 8 by decide)
  have hu : (A.deeper (PyProof.Rows.envOfC "law" (defScope sLaw) s.heap.objs.size f cdv)).units + 64 < cLine := by
    have := hr.un
    omega
  have vl_ : PySem.bootBuiltins "list" = some (.type "list") := by decide +kernel
  refine ⟨_, pss_cons (ps_set (i := 1) scLaw.nd rfl (.inl rfl) (pe_call GA hr1 (by rfl) mA kA bA .nil pass0 (pa_cons (pv 0) pa_nil)))
    (pss_cons (ps_set (i := 2) scLaw.nd rfl (.inl rfl) (pe_call GT hr3 (by rfl) mT kT bT .nil pass0 (pa_cons (pv 1) pa_nil)))
    (pss_cons (ps_set (i := 3) scLaw.nd rfl (.inl rfl) (pe_call GF hr (by rfl) mF kF bF .nil pass0 (pa_cons (pv 1) (pa_cons (pv 2) pa_nil))))
    (pss_cons (ps_set (i := 4) scLaw.nd rfl (.inl rfl) (pe_call GC hr1 (by rfl) mC kC bC .nil pass0 (pa_cons (pv 2) pa_nil)))
    (pss_cons (ps_set (i := 5) scLaw.nd rfl (.inl rfl) (pe_call GW hr2 (by rfl) mW kW bW .nil pass0 (pa_cons (pv 1) (pa_cons pe_int (pa_cons pe_int pa_nil)))))
    (pss_cons (ps_set (i := 6) scLaw.nd rfl (.inl rfl) (pe_call GB hr3 (by rfl) mB kB bB .nil pass0 (pa_cons (pv 1) (pa_cons (pv 4) (pa_cons (pv 5) (pa_cons (pe_op op_add pe_int (pe_call GD hr1 (by rfl) mD kD bD .nil pass0 (pa_cons (pv 1) (pa_cons pe_int pa_nil)))) pa_nil))))))
    (pss_cons (ps_set (i := 7) scLaw.nd rfl (.inl rfl) (pe_call GL hr1 (by rfl) mL kL bL .nil pass0 (pa_cons (pv 6) pa_nil)))
    (pss_cons (ps_set (i := 8) scLaw.nd rfl (.inl rfl) (pe_call GL hr1 (by rfl) mL kL bL .nil pass0 (pa_cons (pv 6) pa_nil)))
    (pss_cons (ps_if (PW.pt (pw_or (pt_cmp (pc_notN (pe_call GK hr6 (by rfl) mK kK bK .nil passF (pa_cons (pv 3) (pa_cons (pv 6) pa_nil))))) (pw_or (pt_cmp (pc_notN (XW.pe_callKw GK hr6 (by rfl) mK kK wK passF (pk_cons (pv 3) (pk_cons (pv 7) pk_nil))))) (pw_or1 (pt_cmpR (op_neD7 K rfl hu) (pv 7) (pv 8) (nomark _)))))) (pss_one (ps_ret pe_bl)) pss_nil)
    (pss_cons (ps_set (i := 9) scLaw.nd rfl (.inl rfl) (pe_call GP hr3 (by rfl) mP kP bP .nil pass0 (pa_cons (pv 6) (pa_cons (pv 5) (pa_cons (pv 2) pa_nil)))))
    (pss_cons (ps_for PassesOwn.never rfl (pi_row (XS5.pe_step (pv 9) (po_some (pe_call GD hr1 (by rfl) mD kD bD .nil pass0 (pa_cons (pv 1) (pa_cons pe_int pa_nil)))) (by decide) K rfl)) (pg_name (i := 10) scLaw.nd rfl (.inl rfl))
      (pss_cons (ps_set (i := 11) scLaw.nd rfl (.inl rfl) (pe_op op_add (pe_call GD hr1 (by rfl) mD kD bD .nil pass0 (pa_cons (pv 1) (pa_cons (pe_callB (call_lenE7 K rfl) (by rfl) T.len PySem.boot_len (pa_cons (pv 6) pa_nil)) pa_nil))) pe_int))
    (pss_cons (ps_set (i := 12) scLaw.nd rfl (.inl rfl) (pe_op op_catT (pe_op op_catT (pe_slice (sl_tupAK K rfl) (pv 6) po_none (po_some (pv 11))) (pe_tupZ (pa_cons (pv 10) pa_nil))) (pe_slice (sl_tupAK K rfl) (pv 6) (po_some (pv 11)) po_none)))
    (pss_cons (ps_set (i := 13) scLaw.nd rfl (.inl rfl) (pe_call GD hr1 (by rfl) mD kD bD .nil pass0 (pa_cons (pv 1) (pa_cons pe_int pa_nil))))
    (pss_one (ps_if (PW.pt (pw_or (pt_not (pt_val (pe_call GR hr (by rfl) mR kR bR .nil pass0 (pa_cons (pv 3) (pa_cons (pv 12) (pa_cons (pv 13) pa_nil)))))) (pw_or1 (pt_not (pt_val (pe_call GR hr (by rfl) mR kR bR .nil pass0 (pa_cons (pv 3) (pa_cons (pe_callTy (call_listE7 K rfl) (by rfl) T.list vl_ (pa_cons (pv 12) pa_nil)) (pa_cons pe_int pa_nil))))))))) (pss_one (ps_ret pe_bl)) pss_nil))))))
    (pss_cons (ps_for PassesOwn.never rfl (pi_tup (pe_tupZ (pa_cons pe_non (pa_cons pe_int (pa_cons (pe_tupZ pa_nil) (pa_cons (pe_lst pa_nil) (pa_cons pe_str (pa_cons pe_bl (pa_cons (pe_ix (ix_both K rfl) (pv 6) pe_int (fun _ _ => rfl)) pa_nil))))))))) (pg_name (i := 14) scLaw.nd rfl (.inl rfl))
      (pss_one (ps_if (pt_not (pt_val (pe_call GR hr (by rfl) mR kR bR .nil pass0 (pa_cons (pv 3) (pa_cons (pv 14) (pa_cons (pe_call GD hr1 (by rfl) mD kD bD .nil pass0 (pa_cons (pv 1) (pa_cons pe_int pa_nil))) pa_nil)))))) (pss_one (ps_ret pe_bl)) pss_nil)))
    (pss_cons (ps_if (pt_cmpR op_eq (pe_call GD hr1 (by rfl) mD kD bD .nil pass0 (pa_cons (pv 1) (pa_cons pe_int pa_nil))) pe_int (nomark _)) (pss_cons (ps_set (i := 15) scLaw.nd rfl (.inl rfl) (pe_call GG hr2 (by rfl) mG kG bG .nil pass0 (pa_cons (pv 1) (pa_cons (pv 4) (pa_cons (pv 5) pa_nil)))))
    (pss_one (ps_if (PW.pt (pw_or (pt_cmp (pc_notN (pe_call GK hr6 (by rfl) mK kK bK .nil passF (pa_cons (pv 3) (pa_cons (pe_slice (sl_bothK K rfl) (pv 15) po_none (po_some pe_int)) pa_nil))))) (pw_or1 (pt_not (pt_val (pe_call GR hr (by rfl) mR kR bR .nil pass0 (pa_cons (pv 3) (pa_cons (pv 15) (pa_cons pe_int pa_nil))))))))) (pss_one (ps_ret pe_bl)) pss_nil))) pss_nil)
    (pss_one (ps_ret (pe_cmp (pc_isN (pe_call GK hr6 (by rfl) mK kK bK .nil passF (pa_cons (pv 3) (pa_cons (pe_callTy (call_tupK K rfl) (by rfl) T.tup (by decide +kernel) (pa_cons (pv 7) pa_nil)) pa_nil))))))))))))))))))), ?_⟩
  obtain ⟨sc, ns, rfl, hs, hn, k⟩ := h
  try simp only [L2.start, gName, List.map_cons, List.map_nil, List.length_cons, List.length_nil, Nat.reduceAdd, Nat.reduceSub, List.replicate_succ, List.replicate_zero, List.cons_append, List.nil_append, List.set_cons_succ, List.set_cons_zero]
  refine ⟨_, rfl, sc, ns, rfl, hs, fun a c H1 s1 F1 => ?_⟩
  try simp only [gName, List.set_cons_succ, List.set_cons_zero]
  refine ⟨_, rfl, a, c, rfl, F1, fun p t H2 hT W F2 s2 => ?_⟩
  try simp only [gName, List.set_cons_succ, List.set_cons_zero]
  refine ⟨_, rfl, _, rfl, a, c, p, t, rfl, F2, hT, W, fun x pf pr H3 hx hX F3 s3 => ?_⟩
  have O := W.grid
  have B : Bl7 K a c _ _ _ _ H3 := Blk.new flo7 F3 (.cons (dp_same s3 hT) .nil)
  try simp only [gName, List.set_cons_succ, List.set_cons_zero]
  refine ⟨_, rfl, [a, c], p, t, rfl, B.al, dget B.E 0 rfl rfl, W, fun v as H4 s4 hv a1 a100 ha => ?_⟩
  replace B := (B.same s4).add hv
  obtain ⟨q, ys, rfl, _, _⟩ := row_len (dget B.E 0 (v := v) rfl rfl) rfl
  try simp only [gName, List.set_cons_succ, List.set_cons_zero]
  refine ⟨_, rfl, a, c, 5, 8, rfl, B.fl, by decide, by decide, by decide, fun L ws H5 _ hL l5 Wd F5 s5 => ?_⟩
  replace B := B.move F5 s5
  have s35 : Same (Bs7 a c H3) (rmL [a, c] H5) := B.keep
  replace hx : FormAt C (rmL [a, c] H5) x pf pr := hx.imp fun _ e => s35 _ _ e
  replace hX := tabS s35 hX
  clear s35
  replace B := B.rebase
  try simp only [gName, List.set_cons_succ, List.set_cons_zero]
  refine ⟨_, rfl, _, rfl, _, rfl, drawF (n := 12) draw7_ok B rfl rfl rfl fun r H6 hr12 B _ => ⟨_, _, rfl, rfl, ?_⟩⟩
  dsimp only [tNil]
  refine ⟨a, c, q, L, t, as, ws, 1 + r, by rw [show ((1 + r : Nat) : Int) = 1 + (r : Int) by omega] <;> rfl, B.fl, O, dget B.E 0 rfl rfl, a1, a100, ha, B.keep _ _ hL, by omega, by omega, Wd.2, by omega, by omega, fun bk ls H7 hbk l1 lr nd hl F7 s7 => ?_⟩
  replace B := (B.move F7 s7).add hbk
  try simp only [gName, List.set_cons_succ, List.set_cons_zero]
  have chk : ∀ (v : V) (d : PyData) (H' : Hp) (Q : VK) (E : XK), Same (rmL [a, c] H5) (rmL [a, c] H') → Dp K (rmL [a, c] H') v d → isPhrases t d = true → PsOk d → (∀ H2, Same H' H2 → Q .non H2) → spCheck K C CV [.ref x, v] H' Q E := fun v d H' Q E s hd yes ok k =>
    ⟨x, pf, pr, t, v, d, rfl, hx.imp fun _ e => rm_le _ _ (s _ _ e), tabS (s.trans rm_le) hX, O.nstr, dp_same rm_le hd, ok, fun h => absurd (yes.symm.trans h) (by decide), fun _ H2 s2 => k H2 s2⟩
  have ref : ∀ (v : V) (d : PyData) (way : Nat) (H' : Hp) (Q : VK) (E : XK), Same (rmL [a, c] H5) (rmL [a, c] H') → Dp K (rmL [a, c] H') v d → BadLines t d → way < 4 → (∀ H2, Same H' H2 → Q (.bl true) H2) → spRefu7 K C [.ref x, v, .int (way : Int)] H' Q E := fun v d way H' Q E s hd bad w4 k =>
    ⟨x, pf, pr, t, v, d, way, rfl, w4, hx.imp fun _ e => rm_le _ _ (s _ _ e), tabS (s.trans rm_le) hX, O.nstr, dp_same rm_le hd, bad.2, bad.1, fun H2 s2 => k H2 s2⟩
  have l12 : ls.length ≤ 12 := by omega
  have la : ∀ l ∈ ls, l.2.length ≤ 1000 := fun l h => Nat.le_trans (act_ok O (hl l h).2).1 (by decide)
  have gd : ∀ d, LinesG ls d → isPhrases t d = true ∧ PsOk d := fun d h => ⟨h.good O l1 (by omega) nd hl, h.ok O (by omega) hl⟩
  refine ⟨_, rfl, [a, c], bk, ls, rfl, B.al, dget B.E 0 rfl rfl, by omega, la, fun rw_ H8 s8 hrw => ?_⟩
  replace B := (B.same s8).add hrw
  try simp only [gName, List.set_cons_succ, List.set_cons_zero]
  refine ⟨_, rfl, [a, c], bk, ls, rfl, B.al, dget B.E 1 rfl rfl, by omega, la, fun kp H9 s9 hkp => ?_⟩
  replace B := (B.same s9).add hkp
  try simp only [gName, List.set_cons_succ, List.set_cons_zero]
  obtain ⟨sh1, sh2⟩ := llay O hl
  refine ⟨_, rfl, _, rfl, ?_⟩
  dsimp only [tNil, List.cons_append, List.nil_append, List.append_nil]
  refine chk bk _ _ _ _ B.keep (dget B.E 2 rfl rfl) (gd _ linesG_t).1 (gd _ linesG_t).2 fun H10 s10 => ⟨_, rfl, iteDF' (by simp) ?_⟩
  replace B := B.same s10
  refine ⟨_, rfl, _, rfl, rfl, ?_⟩
  dsimp only [tNil, List.cons_append, List.nil_append, List.append_nil]
  refine chk rw_ _ _ _ _ B.keep (dget B.E 1 rfl rfl) (gd _ linesG_ll).1 (gd _ linesG_ll).2 fun H11 s11 => ⟨_, rfl, iteDF' (by simp) ?_⟩
  replace B := B.same s11
  refine ⟨_, rfl, _, rfl, _, _, dp_same rm_le (dget B.E 1 rfl rfl), dp_same rm_le (dget B.E 0 rfl rfl), sh1, sh1, _, rfl, iteDF' (by rw [sh2] <;> rfl) (nxt ?_)⟩
  -- the first of each
  obtain ⟨l, lr', rfl⟩ : ∃ l lr', ls = l :: lr' := by
    cases ls with
    | nil => exact absurd l1 (by decide)
    | cons l r => exact ⟨l, r, rfl⟩
  obtain ⟨w0, wr, rfl⟩ : ∃ w0 wr, ws = w0 :: wr := by
    cases ws with
    | nil => cases l5
    | cons w0 r => exact ⟨w0, r, rfl⟩
  obtain ⟨n, v0, us, tr, rfl⟩ : ∃ n v0 us tr, t = (n, v0 :: us) :: tr := by
    cases t with
    | nil => exact absurd W.lo (by decide)
    | cons e r =>
      obtain ⟨n, us⟩ := e
      obtain ⟨m, _, hm, _⟩ := W.vs
      cases us with
      | nil => exact absurd (hm _ List.mem_cons_self).2.1 (Nat.not_succ_le_zero 0)
      | cons v us => exact ⟨n, v, us, r, rfl⟩
  have lo := hl l List.mem_cons_self
  refine ⟨_, rfl, _, rfl, _, rfl, [a, c], bk, .ref p, L, l, lr', w0, wr, n, v0, us, tr, rfl, B.al, dget B.E 2 rfl rfl, B.keep _ _ hL, Wd.2 _ List.mem_cons_self, dget B.E 4 rfl rfl, O, lo, fun M ps H12 s12 _ hM XM l53 bad => ?_⟩
  obtain ⟨vm, eM, hvm⟩ := XM
  replace B := (B.same s12).add (.lst (SqL.of (hM.trans eM)) hvm)
  have s512 := B.keep
  replace B := B.rebase
  try simp only [gName, List.set_cons_succ, List.set_cons_zero]
  have hb0 := dget B.E 3 (v := bk) rfl rfl
  have hr0 := dget B.E 2 (v := rw_) rfl rfl
  have ha0 := dget B.E 4 (v := .ref q) rfl rfl
  have hm0 := dget B.E 0 (v := .ref M) rfl rfl
  replace B : Bl7 K a c (rmL [a, c] H12) [a, c] [] [] H12 := B.drop 6
  have hp0 := s512 _ _ hL
  have lb : ((l :: lr').map lineD).length = (l :: lr').length := List.length_map _
  -- one of them spoilt
  refine seq_cut (fun σ H' => ∃ f10 f11 f12 f13, σ = [some (.ref sc), some (.ref a), some (.ref p), some (.ref x), some (.ref q), some (.ref L), some bk, some rw_, some kp, some (.ref M), f10, f11, f12, f13, none, none] ∧ Bl7 K a c (rmL [a, c] H12) [a, c] [] [] H') ?_ (fun join => ?_)
  rotate_left
  · refine .inl (step_D (S := [a, c]) (fun H' => Bl7 K a c (rmL [a, c] H12) [a, c] [] [] H') (by rfl) (fun Q kk => drawF (n := 5) draw7_ok B (by rfl) rfl rfl fun r H' _ B s => ⟨_, rfl, kk _ H' s B⟩) hm0 fun pn ys fs H13 s13 B hpn hys hf lf => ?_)
    have hfs := lst_dp B.al hpn hys
    replace B := B.same (new_same hpn (.lst ys))
    generalize L2.upd H13 pn (.lst ys) = H14 at hfs B
    have sB := B.base
    replace B := B.rebase
    refine forL_D (S := [a, c]) hfs (fun i σ H' => ∃ f10 f11 f12 f13, σ = [some (.ref sc), some (.ref a), some (.ref p), some (.ref x), some (.ref q), some (.ref L), some bk, some rw_, some kp, some (.ref M), f10, f11, f12, f13, none, none] ∧ Bl7 K a c (rmL [a, c] H14) [a, c] [] [] H') ⟨_, _, _, _, rfl, B⟩ (fun i σ' H' ⟨_, _, _, _, _, B⟩ => B.base) ?_ (fun σ' H' ⟨f10, f11, f12, f13, e, B⟩ => join _ _ ⟨f10, f11, f12, f13, e, B.back sB (fun x h0 h1 => absurd h0 h1)⟩)
    clear B
    rintro i e y σ' H15 he hy ⟨f10, f11, f12, f13, rfl, B⟩
    have bd := bad e (hf e (List.mem_of_getElem? he))
    have hb1 := dp_same (sB.trans B.base) hb0
    replace B := B.add hy
    try simp only [gName, List.set_cons_succ, List.set_cons_zero]
    refine drawL draw7_ok B (by rfl) (by rfl) hb1 rfl (by rw [lb]; exact l1) (by rw [lb]; omega) fun r H16 hr_ B s16 => ⟨_, _, rfl, rfl, ?_⟩
    rw [lb] at hr_
    have ez : (r : Int) + 1 = ((r + 1 : Nat) : Int) := rfl
    show gName 11 (V.int ((r + 1 : Nat) : Int)) _ H16 _
    try simp only [gName, List.set_cons_succ, List.set_cons_zero]
    have hb2 := dp_same s16 hb1
    have l13 : ((l :: lr').map lineD).length ≤ 12 := by rw [lb]; exact l12
    have lt : (((l :: lr').map lineD).take (r + 1)).length ≤ 12 := by
      rw [List.length_take]
      omega
    have ld : (((l :: lr').map lineD).drop (r + 1)).length ≤ 12 := by
      rw [List.length_drop]
      omega
    refine asg_D B (mk_catP B.al (mk_catP B.al (mk_takeT B.al (i := 6) (j := 11) (by rfl) hb2 (by rfl) (by rw [lb]; omega)) (mk_tup B.al (by rfl) (mkl_cons (mk_var (i := 10) (by rfl) (dget B.E 0 rfl rfl)) mkl_nil)) (fun z => by cases z) (by rw [List.length_singleton]; omega)) (mk_dropT B.al (i := 6) (j := 11) (by rfl) hb2 (by rfl) (by rw [lb]; omega)) (fun z => by cases z) (by rw [List.length_append, List.length_singleton]; omega)) fun u H17 s17 B => ?_
    have bl : ∀ d, rowOf d = some (spoilt7 (l :: lr') (r + 1) e) → BadLines ((n, v0 :: us) :: tr) d := fun d h => spoilt_bad7 O hl (Nat.le_trans l12 (by decide)) (by omega) bd h
    try simp only [gName, List.set_cons_succ, List.set_cons_zero]
    refine drawF (n := 4) draw7_ok B (by rfl) rfl rfl fun w4 H18 hw4 B s18 => ?_
    try simp only [gName, List.set_cons_succ, List.set_cons_zero]
    refine ⟨_, rfl, _, rfl, _, rfl, ?_⟩
    dsimp only [tNil, List.cons_append, List.nil_append, List.append_nil]
    refine ref u _ w4 _ _ _ ((s512.trans sB).trans B.keep) (dget B.E 0 rfl rfl) (bl _ rfl) hw4 fun H19 s19 => ⟨_, rfl, iteNS rfl ?_⟩
    replace B := B.same s19
    refine ⟨_, rfl, ?_⟩
    refine mk_new B.al (mx_list (mk_var (i := 12) (by rfl) (dget B.E 0 rfl rfl)) rfl) _ _ (Same.refl _) fun u2 H20 s20 hu2 => ?_
    replace B := B.same s20
    refine tcons_c ?_
    dsimp only [List.cons_append, List.nil_append, List.append_nil]
    refine ref u2 _ 0 _ _ _ ((s512.trans sB).trans B.keep) hu2 (bl _ rfl) (by decide) fun H21 s21 => ⟨_, rfl, iteNS rfl (nxt ?_)⟩
    replace B := B.same s21
    exact ⟨_, _, _, _, rfl, B.drop 2⟩
  clear B
  rintro σ' H13 ⟨f10, f11, f12, f13, rfl, B⟩
  -- what are no phrases at all
  refine seq_cut (fun σ H' => ∃ f14, σ = [some (.ref sc), some (.ref a), some (.ref p), some (.ref x), some (.ref q), some (.ref L), some bk, some rw_, some kp, some (.ref M), f10, f11, f12, f13, f14, none] ∧ Bl7 K a c (rmL [a, c] H12) [a, c] [] [] H') ?_ (fun join => ?_)
  rotate_left
  · have hN : MkD K [a, c] H13 [some (.ref sc), some (.ref a), some (.ref p), some (.ref x), some (.ref q), some (.ref L), some bk, some rw_, some kp, some (.ref M), f10, f11, f12, f13, none, none] _ (.tuple (noneP l)) := mk_tup B.al (by rfl) (mkl_cons mk_non (mkl_cons (mk_int 5) (mkl_cons (mk_tup B.al (by rfl) mkl_nil) (mkl_cons (mk_lst B.al (by rfl) mkl_nil) (mkl_cons (mk_str "a") (mkl_cons (mk_bl true) (mkl_cons (mk_at (mk_var (i := 6) (by rfl) (dp_same B.base hb0)) rfl at0) mkl_nil)))))))
    unfold tFor iTup
    refine hN _ _ (Same.refl _) fun v H14 s14 hv => ?_
    replace B := B.same s14
    have sB := B.base
    replace B := B.rebase
    refine forT_D (S := [a, c]) hv (fun i σ H' => ∃ f14, σ = [some (.ref sc), some (.ref a), some (.ref p), some (.ref x), some (.ref q), some (.ref L), some bk, some rw_, some kp, some (.ref M), f10, f11, f12, f13, f14, none] ∧ Bl7 K a c (rmL [a, c] H14) [a, c] [] [] H') ⟨_, rfl, B⟩ (fun i σ' H' ⟨_, _, B⟩ => B.base) ?_ (fun σ' H' ⟨f14, e, B⟩ => join _ _ ⟨f14, e, B.back sB (fun x h0 h1 => absurd h0 h1)⟩)
    clear B
    rintro i e y σ' H15 he hy ⟨f14, rfl, B⟩
    have bd := noneP_bad O lo e (List.mem_of_getElem? he)
    replace B := B.add hy
    try simp only [gName, List.set_cons_succ, List.set_cons_zero]
    refine ⟨_, rfl, _, rfl, drawF (n := 4) draw7_ok B (by rfl) rfl rfl fun w4 H16 hw4 B s16 => ?_⟩
    dsimp only [tNil, List.cons_append, List.nil_append, List.append_nil]
    refine ref y _ w4 _ _ _ ((s512.trans sB).trans B.keep) (dget B.E 0 rfl rfl) bd hw4 fun H17 s17 => ⟨_, rfl, iteNS rfl (nxt ?_)⟩
    exact ⟨_, rfl, (B.same s17).drop 1⟩
  clear B
  rintro σ' H14 ⟨f14, rfl, B⟩
  -- now and then many
  refine seq_cut (fun σ H' => ∃ f15, σ = [some (.ref sc), some (.ref a), some (.ref p), some (.ref x), some (.ref q), some (.ref L), some bk, some rw_, some kp, some (.ref M), f10, f11, f12, f13, f14, f15] ∧ Bl7 K a c (rmL [a, c] H12) [a, c] [] [] H') ?_ (fun join => ?_)
  rotate_left
  · refine drawF (n := 8) draw7_ok B (by rfl) rfl rfl fun r H15 _ B _ => ⟨rfl, _, rfl, iteB (fun _ => ?_) (fun _ => join _ _ ⟨_, rfl, B⟩)⟩
    refine ⟨_, rfl, _, rfl, _, rfl, a, c, q, L, (n, v0 :: us) :: tr, as, w0 :: wr, rfl, B.fl, dp_same B.base ha0, a1, a100, ha, B.keep _ _ hp0, l5, Wd.2, Wd.1, fun lv ls2 H16 hlv l61 nd2 hl2 F16 s16 => ?_⟩
    replace B := (B.move F16 s16).add hlv
    try simp only [gName, List.set_cons_succ, List.set_cons_zero]
    have nd60 : (ls2.take 60).Nodup := nd2.sublist (List.take_sublist 60 ls2)
    have g60 : LinesG (ls2.take 60) (.list ((ls2.map lineD).take 60)) := by
      rw [← List.map_take]
      exact linesG_l
    have l60 : (ls2.take 60).length = 60 := by rw [List.length_take, l61] <;> rfl
    have hl60 : ∀ l ∈ ls2.take 60, LiOk ((n, v0 :: us) :: tr) 6 l := fun l h => hl2 l (List.mem_of_mem_take h)
    refine ⟨_, rfl, ?_⟩
    refine mk_new B.al (mx_takeL (n := 60) (i := 15) (by rfl) (dget B.E 0 rfl rfl) (by rw [List.length_map, l61]; decide)) _ _ (Same.refl _) fun u H17 s17 hu => ?_
    replace B := B.same s17
    dsimp only [tNil, List.cons_append, List.nil_append, List.append_nil]
    refine chk u _ _ _ _ (s512.trans B.keep) hu (g60.good O (by omega) (by omega) nd60 hl60) (g60.ok O (by omega) hl60) fun H18 s18 => ⟨_, rfl, iteDF' (by simp) ?_⟩
    replace B := B.same s18
    refine ⟨_, rfl, _, rfl, ?_⟩
    dsimp only
    refine tcons_c ?_
    dsimp only [List.cons_append, List.nil_append, List.append_nil]
    refine ref lv _ 0 _ _ _ (s512.trans B.keep) (dget B.E 0 rfl rfl) (many_bad7 O l61 hl2) (by decide) fun H19 s19 => ⟨_, rfl, iteNS rfl (nxt ?_)⟩
    exact join _ _ ⟨_, rfl, (B.same s19).drop 1⟩
  clear B
  rintro σ' H15 ⟨f15, rfl, B⟩
  refine ⟨_, rfl, _, rfl, ?_⟩
  obtain ⟨q2, ys, rfl, hq2, hys⟩ := row_len (dp_same B.base hr0) rfl
  dsimp only [tNil, List.cons_append, List.nil_append, List.append_nil]
  refine rTup_any (lift_row hq2) fun du H16 s16 hdu => ?_
  have hd := Dp.tup (sqT_b7 (B.same s16).fl hdu) (dps_same (rm_same s16) hys)
  replace B := B.same s16
  refine chk (.ref du) _ _ _ _ (s512.trans B.keep) hd (gd _ linesG_tl).1 (gd _ linesG_tl).2 fun H17 s17 => ?_
  rw [decide_eq_true rfl]
  exact k _
end
end Q
set_option Elab.async false
set_option linter.all false
set_option maxRecDepth 100000
set_option maxHeartbeats 8000000
namespace Q
open PySem L2 XD
theorem kit_own {K : PySem.W.Frag} {C D : Addr} {b : Bool} (hc : PySem.W.isClsIn K D = true) (ht : PySem.W.typeIn K (.ref D) = some (.type "type")) (s : PySem.W.subIn K (.ref C) (.ref D) = some b) (o : PySem.W.subIn K (.ref D) (.ref D) = some true) :
    PySem.W.kitOne K (.ref C) (.ref D) = some b := by
  unfold PySem.W.kitOne
  by_cases e : (Value.ref C == Value.ref D) = true
  · rw [if_pos e]
    have q : C = D := Value.ref.inj (beq_iff_eq.mp e)
    subst q
    rw [s] at o
    exact o.symm
  · rw [if_neg e]
    have hc' : (PySem.W.clsIn K D).isSome = true := hc
    show (if ((PySem.W.clsIn K D).isSome && PySem.W.typeIn K (.ref D) == some (.type "type")) = true then PySem.W.subIn K (.ref C) (.ref D) else none) = some b
    rw [hc', ht]
    exact s
theorem kit_data {K : PySem.W.Frag} {D : Addr} {T : String} {b : Bool} (hc : PySem.W.isClsIn K D = true) (ht : PySem.W.typeIn K (.ref D) = some (.type "type")) (s : PySem.W.subIn K (.type T) (.ref D) = some b) : PySem.W.kitOne K (.type T) (.ref D) = some b := by
  unfold PySem.W.kitOne
  rw [if_neg (show ¬ ((Value.type T == Value.ref D) = true) from fun e => by cases beq_iff_eq.mp e)]
  have hc' : (PySem.W.clsIn K D).isSome = true := hc
  show (if ((PySem.W.clsIn K D).isSome && PySem.W.typeIn K (.ref D) == some (.type "type")) = true then PySem.W.subIn K (.type T) (.ref D) else none) = some b
  rw [hc', ht]
  exact s
theorem not_first {K : PySem.W.Frag} {D : Addr} {T : String} (s : PySem.W.subIn K (.type T) (.ref D) = some false) : PySem.W.notFirst K D (.type T) = true := by
  unfold PySem.W.notFirst
  rw [s]
  simp
theorem fn_of_ty {K : PySem.W.Frag} {f : Addr} (h : PySem.W.typeIn K (.ref f) = some (.type "function")) : PySem.W.isFn K (.ref f) = true := by
  unfold PySem.W.isFn
  rw [h]
  simp
theorem data_all {p : PyData → Prop} (h1 : p .none) (h2 : ∀ b, p (.bool b)) (h3 : ∀ i, p (.int i)) (h4 : ∀ s, p (.str s)) (h5 : ∀ xs, p (.list xs)) (h6 : ∀ xs, p (.tuple xs)) : ∀ d : PyData, (∀ kvs, d ≠ .dict kvs) → p d := fun d h => by
  cases d with
  | dict kvs => exact absurd rfl (h kvs)
  | none => exact h1
  | bool b => exact h2 b
  | int i => exact h3 i
  | str s => exact h4 s
  | list xs => exact h5 xs
  | tuple xs => exact h6 xs
theorem all_mk {l : PySem.W.OpenLaw} {w : World} {K : PySem.W.Frag} {h : Heap} {mg : Str → Option Value} {fa c0 i0 c1 i1 c2 i2 cB cF fInit fFieldsM fRulesM fEqM fIsRow fIsPair fIsSmall fIsWord fIsText fUnlike fAreFacts fInSeq fCheckPhrases fMeanings fIsPhrase fIsAct fAreFields fAreValues fAreRules fWays fEach fLStart fLDraw fLSame fLWords fLTable fLForm fLActs fLSpoken fLBook fLListed fLRefuses fLOther fLBadTexts fLBadActs fLBadPairs fLLongBook fLaw : Addr} (X : K.In h) (G : h.Ns mainGlobals mg) (hfa : mg "law" = some (.ref fa))
    {odc0 anc0 odc1 anc1 odc2 anc2 odInit anInit odFieldsM anFieldsM odRulesM anRulesM odEqM anEqM odIsRow anIsRow odIsPair anIsPair odIsSmall anIsSmall odIsWord anIsWord odIsText anIsText odUnlike anUnlike odAreFacts anAreFacts odInSeq anInSeq odCheckPhrases anCheckPhrases odMeanings anMeanings odIsPhrase anIsPhrase odIsAct anIsAct odAreFields anAreFields odAreValues anAreValues odAreRules anAreRules odWays anWays odEach anEach odLStart anLStart odLDraw anLDraw odLSame anLSame odLWords anLWords odLTable anLTable odLForm anLForm odLActs anLActs odLSpoken anLSpoken odLBook anLBook odLListed anLListed odLRefuses anLRefuses odLOther anLOther odLBadTexts anLBadTexts odLBadActs anLBadActs odLBadPairs anLBadPairs odLLongBook anLLongBook odLaw anLaw : Option Addr} {slc0 slc1 slc2 slInit slFieldsM slRulesM slEqM slIsRow slIsPair slIsSmall slIsWord slIsText slUnlike slAreFacts slInSeq slCheckPhrases slMeanings slIsPhrase slIsAct slAreFields slAreValues slAreRules slWays slEach slLStart slLDraw slLSame slLWords slLTable slLForm slLActs slLSpoken slLBook slLListed slLRefuses slLOther slLBadTexts slLBadActs slLBadPairs slLLongBook slLaw : Array (Option Value)} {occ0 dcc0 pmc0 cdc0 ctc0 occ1 dcc1 pmc1 cdc1 ctc1 occ2 dcc2 pmc2 cdc2 ctc2 ocInit kVInit dcInit pmInit cdInit ctInit ocFieldsM kVFieldsM dcFieldsM pmFieldsM cdFieldsM ctFieldsM ocRulesM kVRulesM dcRulesM pmRulesM cdRulesM ctRulesM ocEqM kVEqM dcEqM pmEqM cdEqM ctEqM ocIsRow kVIsRow dcIsRow pmIsRow cdIsRow ctIsRow ocIsPair kVIsPair dcIsPair pmIsPair cdIsPair ctIsPair ocIsSmall kVIsSmall dcIsSmall pmIsSmall cdIsSmall ctIsSmall ocIsWord kVIsWord dcIsWord pmIsWord cdIsWord ctIsWord ocIsText kVIsText dcIsText pmIsText cdIsText ctIsText ocUnlike kVUnlike dcUnlike pmUnlike cdUnlike ctUnlike ocAreFacts kVAreFacts dcAreFacts pmAreFacts cdAreFacts ctAreFacts ocInSeq kVInSeq dcInSeq pmInSeq cdInSeq ctInSeq ocCheckPhrases kVCheckPhrases dcCheckPhrases pmCheckPhrases cdCheckPhrases ctCheckPhrases ocMeanings kVMeanings dcMeanings pmMeanings cdMeanings ctMeanings ocIsPhrase kVIsPhrase dcIsPhrase pmIsPhrase cdIsPhrase ctIsPhrase ocIsAct kVIsAct dcIsAct pmIsAct cdIsAct ctIsAct ocAreFields kVAreFields dcAreFields pmAreFields cdAreFields ctAreFields ocAreValues kVAreValues dcAreValues pmAreValues cdAreValues ctAreValues ocAreRules kVAreRules dcAreRules pmAreRules cdAreRules ctAreRules ocWays kVWays dcWays pmWays cdWays ctWays ocEach kVEach dcEach pmEach cdEach ctEach ocLStart kVLStart dcLStart pmLStart cdLStart ctLStart ocLDraw kVLDraw dcLDraw pmLDraw cdLDraw ctLDraw ocLSame kVLSame dcLSame pmLSame cdLSame ctLSame ocLWords kVLWords dcLWords pmLWords cdLWords ctLWords ocLTable kVLTable dcLTable pmLTable cdLTable ctLTable ocLForm kVLForm dcLForm pmLForm cdLForm ctLForm ocLActs kVLActs dcLActs pmLActs cdLActs ctLActs ocLSpoken kVLSpoken dcLSpoken pmLSpoken cdLSpoken ctLSpoken ocLBook kVLBook dcLBook pmLBook cdLBook ctLBook ocLListed kVLListed dcLListed pmLListed cdLListed ctLListed ocLRefuses kVLRefuses dcLRefuses pmLRefuses cdLRefuses ctLRefuses ocLOther kVLOther dcLOther pmLOther cdLOther ctLOther ocLBadTexts kVLBadTexts dcLBadTexts pmLBadTexts cdLBadTexts ctLBadTexts ocLBadActs kVLBadActs dcLBadActs pmLBadActs cdLBadActs ctLBadActs ocLBadPairs kVLBadPairs dcLBadPairs pmLBadPairs cdLBadPairs ctLBadPairs ocLLongBook kVLLongBook dcLLongBook pmLLongBook cdLLongBook ctLLongBook ocLaw kVLaw dcLaw pmLaw cdLaw ctLaw : Value}
    (g0 : PySem.W.nsIn K mainGlobals "BadValue" = some (some (.ref c0)))
    (ini0 : PySem.W.excInitIn K c0 XM.exTail "Exception.__new__" = true)
    (ovr0 : PySem.W.excOver K c0 XM.exTail = true)
    (tkn0 : PySem.W.takerIn K c0 "at" = some none)
    (sa0 : PySem.W.findIn K (.ref c0) "__setattr__" = some (some (.builtin "object.__setattr__")))
    (ga0 : PySem.W.findIn K (.ref c0) "__getattribute__" = some (some (.builtin "BaseException.__getattribute__")))
    (gg0 : PySem.W.findIn K (.ref c0) "__getattr__" = some none)
    (no0 : PySem.W.findIn K (.ref c0) "at" = some none)
    (ic0 : PySem.W.findIn K (.ref c0) "__init__" = some (some (.ref i0)))
    (tc0 : PySem.W.typeIn K (.ref i0) = some (.type "function"))
    (kc0 : PySem.W.keepIn K (.ref c0) = true)
    (ex0 : PySem.W.subIn K (.ref c0) (.type "BaseException") = some true)
    (ty0 : PySem.W.typeIn K (.ref c0) = some (.type "type"))
    (hd0 : PySem.W.hasDictIn K c0 = true)
    (is0 : PySem.W.isClsIn K c0 = true)
    (cc0 : PySem.W.findIn K (.ref c0) "__class__" = some (some (.builtin "object.__class__")))
    (mo0 : PySem.W.mroIn K c0 (.type "object") = some true)
    (lc0 : K.lookup i0 = some ⟨occ0, odc0, .func (PySem.W.fnOf "__init__" "BadValue.__init__" (defArgs (inClass (sEBadValue) 0)) (defBody (inClass (sEBadValue) 0)) (defScope (inClass (sEBadValue) 0)) .none .none dcc0 pmc0 anc0 cdc0 ctc0), slc0⟩)
    (cc0X : PySem.W.codeIn K cdc0 "BadValue.__init__" = true)
    (s00 : PySem.W.subIn K (.ref c0) (.ref c0) = some true)
    (s01 : PySem.W.subIn K (.ref c0) (.ref c1) = some false)
    (s02 : PySem.W.subIn K (.ref c0) (.ref c2) = some false)
    (sB0 : PySem.W.subIn K (.ref c0) (.ref cB) = some true)
    (g1 : PySem.W.nsIn K mainGlobals "BadField" = some (some (.ref c1)))
    (ini1 : PySem.W.excInitIn K c1 XM.exTail "Exception.__new__" = true)
    (ovr1 : PySem.W.excOver K c1 XM.exTail = true)
    (tkn1 : PySem.W.takerIn K c1 "name" = some none)
    (sa1 : PySem.W.findIn K (.ref c1) "__setattr__" = some (some (.builtin "object.__setattr__")))
    (ga1 : PySem.W.findIn K (.ref c1) "__getattribute__" = some (some (.builtin "BaseException.__getattribute__")))
    (gg1 : PySem.W.findIn K (.ref c1) "__getattr__" = some none)
    (no1 : PySem.W.findIn K (.ref c1) "name" = some none)
    (ic1 : PySem.W.findIn K (.ref c1) "__init__" = some (some (.ref i1)))
    (tc1 : PySem.W.typeIn K (.ref i1) = some (.type "function"))
    (kc1 : PySem.W.keepIn K (.ref c1) = true)
    (ex1 : PySem.W.subIn K (.ref c1) (.type "BaseException") = some true)
    (ty1 : PySem.W.typeIn K (.ref c1) = some (.type "type"))
    (hd1 : PySem.W.hasDictIn K c1 = true)
    (is1 : PySem.W.isClsIn K c1 = true)
    (cc1 : PySem.W.findIn K (.ref c1) "__class__" = some (some (.builtin "object.__class__")))
    (mo1 : PySem.W.mroIn K c1 (.type "object") = some true)
    (lc1 : K.lookup i1 = some ⟨occ1, odc1, .func (PySem.W.fnOf "__init__" "BadField.__init__" (defArgs (inClass (sEBadField) 0)) (defBody (inClass (sEBadField) 0)) (defScope (inClass (sEBadField) 0)) .none .none dcc1 pmc1 anc1 cdc1 ctc1), slc1⟩)
    (cc1X : PySem.W.codeIn K cdc1 "BadField.__init__" = true)
    (s10 : PySem.W.subIn K (.ref c1) (.ref c0) = some false)
    (s11 : PySem.W.subIn K (.ref c1) (.ref c1) = some true)
    (s12 : PySem.W.subIn K (.ref c1) (.ref c2) = some false)
    (sB1 : PySem.W.subIn K (.ref c1) (.ref cB) = some true)
    (g2 : PySem.W.nsIn K mainGlobals "TooMany" = some (some (.ref c2)))
    (ini2 : PySem.W.excInitIn K c2 XM.exTail "Exception.__new__" = true)
    (ovr2 : PySem.W.excOver K c2 XM.exTail = true)
    (tkn2 : PySem.W.takerIn K c2 "word" = some none)
    (sa2 : PySem.W.findIn K (.ref c2) "__setattr__" = some (some (.builtin "object.__setattr__")))
    (ga2 : PySem.W.findIn K (.ref c2) "__getattribute__" = some (some (.builtin "BaseException.__getattribute__")))
    (gg2 : PySem.W.findIn K (.ref c2) "__getattr__" = some none)
    (no2 : PySem.W.findIn K (.ref c2) "word" = some none)
    (ic2 : PySem.W.findIn K (.ref c2) "__init__" = some (some (.ref i2)))
    (tc2 : PySem.W.typeIn K (.ref i2) = some (.type "function"))
    (kc2 : PySem.W.keepIn K (.ref c2) = true)
    (ex2 : PySem.W.subIn K (.ref c2) (.type "BaseException") = some true)
    (ty2 : PySem.W.typeIn K (.ref c2) = some (.type "type"))
    (hd2 : PySem.W.hasDictIn K c2 = true)
    (is2 : PySem.W.isClsIn K c2 = true)
    (cc2 : PySem.W.findIn K (.ref c2) "__class__" = some (some (.builtin "object.__class__")))
    (mo2 : PySem.W.mroIn K c2 (.type "object") = some true)
    (lc2 : K.lookup i2 = some ⟨occ2, odc2, .func (PySem.W.fnOf "__init__" "TooMany.__init__" (defArgs (inClass (sETooMany) 0)) (defBody (inClass (sETooMany) 0)) (defScope (inClass (sETooMany) 0)) .none .none dcc2 pmc2 anc2 cdc2 ctc2), slc2⟩)
    (cc2X : PySem.W.codeIn K cdc2 "TooMany.__init__" = true)
    (s20 : PySem.W.subIn K (.ref c2) (.ref c0) = some false)
    (s21 : PySem.W.subIn K (.ref c2) (.ref c1) = some false)
    (s22 : PySem.W.subIn K (.ref c2) (.ref c2) = some true)
    (sB2 : PySem.W.subIn K (.ref c2) (.ref cB) = some true)
    (gB : PySem.W.nsIn K mainGlobals "TalkError" = some (some (.ref cB)))
    (exB : PySem.W.subIn K (.ref cB) (.type "BaseException") = some true)
    (tyB : PySem.W.typeIn K (.ref cB) = some (.type "type"))
    (hdB : PySem.W.hasDictIn K cB = true)
    (isB : PySem.W.isClsIn K cB = true)
    (sBB : PySem.W.subIn K (.ref cB) (.ref cB) = some true)
    (spG : PySem.W.specialIn K (.builtin "object.__class__") "__get__" = some (some (.builtin "getset_descriptor.__get__")))
    (tkG : PySem.W.takesIn K (.builtin "object.__class__") = some true)
    (gF : PySem.W.nsIn K mainGlobals "Form" = some (some (.ref cF)))
    (pgF : PySem.W.plainGet K cF Str.empty = true)
    (hdF : PySem.W.hasDictIn K cF = true)
    (poF : PySem.W.plainOver K cF = true)
    (saF : PySem.W.findIn K (.ref cF) "__setattr__" = some (some (.builtin "object.__setattr__")))
    (nfF : PySem.W.findIn K (.ref cF) "_fields" = some none)
    (nrF : PySem.W.findIn K (.ref cF) "_rules" = some none)
    (ccF : PySem.W.findIn K (.ref cF) "__class__" = some (some (.builtin "object.__class__")))
    (moF : PySem.W.mroIn K cF (.type "object") = some true)
    (isF : PySem.W.isClsIn K cF = true)
    (tyF : PySem.W.typeIn K (.ref cF) = some (.type "type"))
    (sFF : PySem.W.subIn K (.ref cF) (.ref cF) = some true)
    (mkF : PySem.W.makesIn K cF = true)
    (kF : PySem.W.keepIn K (.ref cF) = true)
    (aInit : PySem.W.findIn K (.ref cF) "__init__" = some (some (.ref fInit)))
    (tInit : PySem.W.typeIn K (.ref fInit) = some (.type "function"))
    (lInit : K.lookup fInit = some ⟨ocInit, odInit, .func (PySem.W.fnOf "__init__" "Form.__init__" (defArgs sInit) (defBody sInit) (defScope sInit) .none kVInit dcInit pmInit anInit cdInit ctInit), slInit⟩)
    (cInit : PySem.W.codeIn K cdInit "Form.__init__" = true)
    (kInit : PySem.W.keepIn K (.ref fInit) = true)
    (aFieldsM : PySem.W.findIn K (.ref cF) "fields" = some (some (.ref fFieldsM)))
    (tFieldsM : PySem.W.typeIn K (.ref fFieldsM) = some (.type "function"))
    (lFieldsM : K.lookup fFieldsM = some ⟨ocFieldsM, odFieldsM, .func (PySem.W.fnOf "fields" "Form.fields" (defArgs sFieldsM) (defBody sFieldsM) (defScope sFieldsM) .none kVFieldsM dcFieldsM pmFieldsM anFieldsM cdFieldsM ctFieldsM), slFieldsM⟩)
    (cFieldsM : PySem.W.codeIn K cdFieldsM "Form.fields" = true)
    (kFieldsM : PySem.W.keepIn K (.ref fFieldsM) = true)
    (aRulesM : PySem.W.findIn K (.ref cF) "rules" = some (some (.ref fRulesM)))
    (tRulesM : PySem.W.typeIn K (.ref fRulesM) = some (.type "function"))
    (lRulesM : K.lookup fRulesM = some ⟨ocRulesM, odRulesM, .func (PySem.W.fnOf "rules" "Form.rules" (defArgs sRulesM) (defBody sRulesM) (defScope sRulesM) .none kVRulesM dcRulesM pmRulesM anRulesM cdRulesM ctRulesM), slRulesM⟩)
    (cRulesM : PySem.W.codeIn K cdRulesM "Form.rules" = true)
    (kRulesM : PySem.W.keepIn K (.ref fRulesM) = true)
    (aEqM : PySem.W.findIn K (.ref cF) "__eq__" = some (some (.ref fEqM)))
    (tEqM : PySem.W.typeIn K (.ref fEqM) = some (.type "function"))
    (lEqM : K.lookup fEqM = some ⟨ocEqM, odEqM, .func (PySem.W.fnOf "__eq__" "Form.__eq__" (defArgs sEqM) (defBody sEqM) (defScope sEqM) .none kVEqM dcEqM pmEqM anEqM cdEqM ctEqM), slEqM⟩)
    (cEqM : PySem.W.codeIn K cdEqM "Form.__eq__" = true)
    (kEqM : PySem.W.keepIn K (.ref fEqM) = true)
    (nNoneType : PySem.W.subIn K (.type "NoneType") (.ref cF) = some false)
    (nbool : PySem.W.subIn K (.type "bool") (.ref cF) = some false)
    (nint : PySem.W.subIn K (.type "int") (.ref cF) = some false)
    (nstr : PySem.W.subIn K (.type "str") (.ref cF) = some false)
    (nlist : PySem.W.subIn K (.type "list") (.ref cF) = some false)
    (ntuple : PySem.W.subIn K (.type "tuple") (.ref cF) = some false)
    (aIsRow : PySem.W.nsIn K mainGlobals "is_row" = some (some (.ref fIsRow)))
    (lIsRow : K.lookup fIsRow = some ⟨ocIsRow, odIsRow, .func (PySem.W.fnOf "is_row" "is_row" (defArgs sIsRow) (defBody sIsRow) (defScope sIsRow) .none kVIsRow dcIsRow pmIsRow anIsRow cdIsRow ctIsRow), slIsRow⟩)
    (cIsRow : PySem.W.codeIn K cdIsRow "is_row" = true)
    (kIsRow : PySem.W.keepIn K (.ref fIsRow) = true)
    (aIsPair : PySem.W.nsIn K mainGlobals "is_pair" = some (some (.ref fIsPair)))
    (lIsPair : K.lookup fIsPair = some ⟨ocIsPair, odIsPair, .func (PySem.W.fnOf "is_pair" "is_pair" (defArgs sIsPair) (defBody sIsPair) (defScope sIsPair) .none kVIsPair dcIsPair pmIsPair anIsPair cdIsPair ctIsPair), slIsPair⟩)
    (cIsPair : PySem.W.codeIn K cdIsPair "is_pair" = true)
    (kIsPair : PySem.W.keepIn K (.ref fIsPair) = true)
    (aIsSmall : PySem.W.nsIn K mainGlobals "is_small" = some (some (.ref fIsSmall)))
    (lIsSmall : K.lookup fIsSmall = some ⟨ocIsSmall, odIsSmall, .func (PySem.W.fnOf "is_small" "is_small" (defArgs sIsSmall) (defBody sIsSmall) (defScope sIsSmall) .none kVIsSmall dcIsSmall pmIsSmall anIsSmall cdIsSmall ctIsSmall), slIsSmall⟩)
    (cIsSmall : PySem.W.codeIn K cdIsSmall "is_small" = true)
    (kIsSmall : PySem.W.keepIn K (.ref fIsSmall) = true)
    (aIsWord : PySem.W.nsIn K mainGlobals "is_word" = some (some (.ref fIsWord)))
    (lIsWord : K.lookup fIsWord = some ⟨ocIsWord, odIsWord, .func (PySem.W.fnOf "is_word" "is_word" (defArgs sIsWord) (defBody sIsWord) (defScope sIsWord) .none kVIsWord dcIsWord pmIsWord anIsWord cdIsWord ctIsWord), slIsWord⟩)
    (cIsWord : PySem.W.codeIn K cdIsWord "is_word" = true)
    (kIsWord : PySem.W.keepIn K (.ref fIsWord) = true)
    (aIsText : PySem.W.nsIn K mainGlobals "is_text" = some (some (.ref fIsText)))
    (lIsText : K.lookup fIsText = some ⟨ocIsText, odIsText, .func (PySem.W.fnOf "is_text" "is_text" (defArgs sIsText) (defBody sIsText) (defScope sIsText) .none kVIsText dcIsText pmIsText anIsText cdIsText ctIsText), slIsText⟩)
    (cIsText : PySem.W.codeIn K cdIsText "is_text" = true)
    (kIsText : PySem.W.keepIn K (.ref fIsText) = true)
    (aUnlike : PySem.W.nsIn K mainGlobals "are_unlike_words" = some (some (.ref fUnlike)))
    (lUnlike : K.lookup fUnlike = some ⟨ocUnlike, odUnlike, .func (PySem.W.fnOf "are_unlike_words" "are_unlike_words" (defArgs sUnlike) (defBody sUnlike) (defScope sUnlike) .none kVUnlike dcUnlike pmUnlike anUnlike cdUnlike ctUnlike), slUnlike⟩)
    (cUnlike : PySem.W.codeIn K cdUnlike "are_unlike_words" = true)
    (kUnlike : PySem.W.keepIn K (.ref fUnlike) = true)
    (aAreFacts : PySem.W.nsIn K mainGlobals "are_facts" = some (some (.ref fAreFacts)))
    (lAreFacts : K.lookup fAreFacts = some ⟨ocAreFacts, odAreFacts, .func (PySem.W.fnOf "are_facts" "are_facts" (defArgs sAreFacts) (defBody sAreFacts) (defScope sAreFacts) .none kVAreFacts dcAreFacts pmAreFacts anAreFacts cdAreFacts ctAreFacts), slAreFacts⟩)
    (cAreFacts : PySem.W.codeIn K cdAreFacts "are_facts" = true)
    (kAreFacts : PySem.W.keepIn K (.ref fAreFacts) = true)
    (aInSeq : PySem.W.nsIn K mainGlobals "in_sequence" = some (some (.ref fInSeq)))
    (lInSeq : K.lookup fInSeq = some ⟨ocInSeq, odInSeq, .func (PySem.W.fnOf "in_sequence" "in_sequence" (defArgs sInSeq) (defBody sInSeq) (defScope sInSeq) .none kVInSeq dcInSeq pmInSeq anInSeq cdInSeq ctInSeq), slInSeq⟩)
    (cInSeq : PySem.W.codeIn K cdInSeq "in_sequence" = true)
    (kInSeq : PySem.W.keepIn K (.ref fInSeq) = true)
    (aCheckPhrases : PySem.W.nsIn K mainGlobals "check_phrases" = some (some (.ref fCheckPhrases)))
    (lCheckPhrases : K.lookup fCheckPhrases = some ⟨ocCheckPhrases, odCheckPhrases, .func (PySem.W.fnOf "check_phrases" "check_phrases" (defArgs sCheckPhrases) (defBody sCheckPhrases) (defScope sCheckPhrases) .none kVCheckPhrases dcCheckPhrases pmCheckPhrases anCheckPhrases cdCheckPhrases ctCheckPhrases), slCheckPhrases⟩)
    (cCheckPhrases : PySem.W.codeIn K cdCheckPhrases "check_phrases" = true)
    (kCheckPhrases : PySem.W.keepIn K (.ref fCheckPhrases) = true)
    (aMeanings : PySem.W.nsIn K mainGlobals "meanings" = some (some (.ref fMeanings)))
    (lMeanings : K.lookup fMeanings = some ⟨ocMeanings, odMeanings, .func (PySem.W.fnOf "meanings" "meanings" (defArgs sMeanings) (defBody sMeanings) (defScope sMeanings) .none kVMeanings dcMeanings pmMeanings anMeanings cdMeanings ctMeanings), slMeanings⟩)
    (cMeanings : PySem.W.codeIn K cdMeanings "meanings" = true)
    (kMeanings : PySem.W.keepIn K (.ref fMeanings) = true)
    (aIsPhrase : PySem.W.nsIn K mainGlobals "_is_phrase" = some (some (.ref fIsPhrase)))
    (lIsPhrase : K.lookup fIsPhrase = some ⟨ocIsPhrase, odIsPhrase, .func (PySem.W.fnOf "_is_phrase" "_is_phrase" (defArgs sIsPhrase) (defBody sIsPhrase) (defScope sIsPhrase) .none kVIsPhrase dcIsPhrase pmIsPhrase anIsPhrase cdIsPhrase ctIsPhrase), slIsPhrase⟩)
    (cIsPhrase : PySem.W.codeIn K cdIsPhrase "_is_phrase" = true)
    (kIsPhrase : PySem.W.keepIn K (.ref fIsPhrase) = true)
    (aIsAct : PySem.W.nsIn K mainGlobals "_is_act" = some (some (.ref fIsAct)))
    (lIsAct : K.lookup fIsAct = some ⟨ocIsAct, odIsAct, .func (PySem.W.fnOf "_is_act" "_is_act" (defArgs sIsAct) (defBody sIsAct) (defScope sIsAct) .none kVIsAct dcIsAct pmIsAct anIsAct cdIsAct ctIsAct), slIsAct⟩)
    (cIsAct : PySem.W.codeIn K cdIsAct "_is_act" = true)
    (kIsAct : PySem.W.keepIn K (.ref fIsAct) = true)
    (aAreFields : PySem.W.nsIn K mainGlobals "_are_fields" = some (some (.ref fAreFields)))
    (lAreFields : K.lookup fAreFields = some ⟨ocAreFields, odAreFields, .func (PySem.W.fnOf "_are_fields" "_are_fields" (defArgs sAreFields) (defBody sAreFields) (defScope sAreFields) .none kVAreFields dcAreFields pmAreFields anAreFields cdAreFields ctAreFields), slAreFields⟩)
    (cAreFields : PySem.W.codeIn K cdAreFields "_are_fields" = true)
    (kAreFields : PySem.W.keepIn K (.ref fAreFields) = true)
    (aAreValues : PySem.W.nsIn K mainGlobals "_are_values" = some (some (.ref fAreValues)))
    (lAreValues : K.lookup fAreValues = some ⟨ocAreValues, odAreValues, .func (PySem.W.fnOf "_are_values" "_are_values" (defArgs sAreValues) (defBody sAreValues) (defScope sAreValues) .none kVAreValues dcAreValues pmAreValues anAreValues cdAreValues ctAreValues), slAreValues⟩)
    (cAreValues : PySem.W.codeIn K cdAreValues "_are_values" = true)
    (kAreValues : PySem.W.keepIn K (.ref fAreValues) = true)
    (aAreRules : PySem.W.nsIn K mainGlobals "_are_rules" = some (some (.ref fAreRules)))
    (lAreRules : K.lookup fAreRules = some ⟨ocAreRules, odAreRules, .func (PySem.W.fnOf "_are_rules" "_are_rules" (defArgs sAreRules) (defBody sAreRules) (defScope sAreRules) .none kVAreRules dcAreRules pmAreRules anAreRules cdAreRules ctAreRules), slAreRules⟩)
    (cAreRules : PySem.W.codeIn K cdAreRules "_are_rules" = true)
    (kAreRules : PySem.W.keepIn K (.ref fAreRules) = true)
    (aWays : PySem.W.nsIn K mainGlobals "_ways_to_fill" = some (some (.ref fWays)))
    (lWays : K.lookup fWays = some ⟨ocWays, odWays, .func (PySem.W.fnOf "_ways_to_fill" "_ways_to_fill" (defArgs sWays) (defBody sWays) (defScope sWays) .none kVWays dcWays pmWays anWays cdWays ctWays), slWays⟩)
    (cWays : PySem.W.codeIn K cdWays "_ways_to_fill" = true)
    (kWays : PySem.W.keepIn K (.ref fWays) = true)
    (aEach : PySem.W.nsIn K mainGlobals "_each_once" = some (some (.ref fEach)))
    (lEach : K.lookup fEach = some ⟨ocEach, odEach, .func (PySem.W.fnOf "_each_once" "_each_once" (defArgs sEach) (defBody sEach) (defScope sEach) .none kVEach dcEach pmEach anEach cdEach ctEach), slEach⟩)
    (cEach : PySem.W.codeIn K cdEach "_each_once" = true)
    (kEach : PySem.W.keepIn K (.ref fEach) = true)
    (aLStart : PySem.W.nsIn K mainGlobals "_law_start" = some (some (.ref fLStart)))
    (lLStart : K.lookup fLStart = some ⟨ocLStart, odLStart, .func (PySem.W.fnOf "_law_start" "_law_start" (defArgs sLStart) (defBody sLStart) (defScope sLStart) .none kVLStart dcLStart pmLStart anLStart cdLStart ctLStart), slLStart⟩)
    (cLStart : PySem.W.codeIn K cdLStart "_law_start" = true)
    (kLStart : PySem.W.keepIn K (.ref fLStart) = true)
    (aLDraw : PySem.W.nsIn K mainGlobals "_law_draw" = some (some (.ref fLDraw)))
    (lLDraw : K.lookup fLDraw = some ⟨ocLDraw, odLDraw, .func (PySem.W.fnOf "_law_draw" "_law_draw" (defArgs sLDraw) (defBody sLDraw) (defScope sLDraw) .none kVLDraw dcLDraw pmLDraw anLDraw cdLDraw ctLDraw), slLDraw⟩)
    (cLDraw : PySem.W.codeIn K cdLDraw "_law_draw" = true)
    (kLDraw : PySem.W.keepIn K (.ref fLDraw) = true)
    (aLSame : PySem.W.nsIn K mainGlobals "_law_same" = some (some (.ref fLSame)))
    (lLSame : K.lookup fLSame = some ⟨ocLSame, odLSame, .func (PySem.W.fnOf "_law_same" "_law_same" (defArgs sLSame) (defBody sLSame) (defScope sLSame) .none kVLSame dcLSame pmLSame anLSame cdLSame ctLSame), slLSame⟩)
    (cLSame : PySem.W.codeIn K cdLSame "_law_same" = true)
    (kLSame : PySem.W.keepIn K (.ref fLSame) = true)
    (aLWords : PySem.W.nsIn K mainGlobals "_law_words" = some (some (.ref fLWords)))
    (lLWords : K.lookup fLWords = some ⟨ocLWords, odLWords, .func (PySem.W.fnOf "_law_words" "_law_words" (defArgs sLWords) (defBody sLWords) (defScope sLWords) .none kVLWords dcLWords pmLWords anLWords cdLWords ctLWords), slLWords⟩)
    (cLWords : PySem.W.codeIn K cdLWords "_law_words" = true)
    (kLWords : PySem.W.keepIn K (.ref fLWords) = true)
    (aLTable : PySem.W.nsIn K mainGlobals "_law_table" = some (some (.ref fLTable)))
    (lLTable : K.lookup fLTable = some ⟨ocLTable, odLTable, .func (PySem.W.fnOf "_law_table" "_law_table" (defArgs sLTable) (defBody sLTable) (defScope sLTable) .none kVLTable dcLTable pmLTable anLTable cdLTable ctLTable), slLTable⟩)
    (cLTable : PySem.W.codeIn K cdLTable "_law_table" = true)
    (kLTable : PySem.W.keepIn K (.ref fLTable) = true)
    (aLForm : PySem.W.nsIn K mainGlobals "_law_form" = some (some (.ref fLForm)))
    (lLForm : K.lookup fLForm = some ⟨ocLForm, odLForm, .func (PySem.W.fnOf "_law_form" "_law_form" (defArgs sLForm) (defBody sLForm) (defScope sLForm) .none kVLForm dcLForm pmLForm anLForm cdLForm ctLForm), slLForm⟩)
    (cLForm : PySem.W.codeIn K cdLForm "_law_form" = true)
    (kLForm : PySem.W.keepIn K (.ref fLForm) = true)
    (aLActs : PySem.W.nsIn K mainGlobals "_law_acts" = some (some (.ref fLActs)))
    (lLActs : K.lookup fLActs = some ⟨ocLActs, odLActs, .func (PySem.W.fnOf "_law_acts" "_law_acts" (defArgs sLActs) (defBody sLActs) (defScope sLActs) .none kVLActs dcLActs pmLActs anLActs cdLActs ctLActs), slLActs⟩)
    (cLActs : PySem.W.codeIn K cdLActs "_law_acts" = true)
    (kLActs : PySem.W.keepIn K (.ref fLActs) = true)
    (aLSpoken : PySem.W.nsIn K mainGlobals "_law_spoken" = some (some (.ref fLSpoken)))
    (lLSpoken : K.lookup fLSpoken = some ⟨ocLSpoken, odLSpoken, .func (PySem.W.fnOf "_law_spoken" "_law_spoken" (defArgs sLSpoken) (defBody sLSpoken) (defScope sLSpoken) .none kVLSpoken dcLSpoken pmLSpoken anLSpoken cdLSpoken ctLSpoken), slLSpoken⟩)
    (cLSpoken : PySem.W.codeIn K cdLSpoken "_law_spoken" = true)
    (kLSpoken : PySem.W.keepIn K (.ref fLSpoken) = true)
    (aLBook : PySem.W.nsIn K mainGlobals "_law_book" = some (some (.ref fLBook)))
    (lLBook : K.lookup fLBook = some ⟨ocLBook, odLBook, .func (PySem.W.fnOf "_law_book" "_law_book" (defArgs sLBook) (defBody sLBook) (defScope sLBook) .none kVLBook dcLBook pmLBook anLBook cdLBook ctLBook), slLBook⟩)
    (cLBook : PySem.W.codeIn K cdLBook "_law_book" = true)
    (kLBook : PySem.W.keepIn K (.ref fLBook) = true)
    (aLListed : PySem.W.nsIn K mainGlobals "_law_listed" = some (some (.ref fLListed)))
    (lLListed : K.lookup fLListed = some ⟨ocLListed, odLListed, .func (PySem.W.fnOf "_law_listed" "_law_listed" (defArgs sLListed) (defBody sLListed) (defScope sLListed) .none kVLListed dcLListed pmLListed anLListed cdLListed ctLListed), slLListed⟩)
    (cLListed : PySem.W.codeIn K cdLListed "_law_listed" = true)
    (kLListed : PySem.W.keepIn K (.ref fLListed) = true)
    (aLRefuses : PySem.W.nsIn K mainGlobals "_law_refuses" = some (some (.ref fLRefuses)))
    (lLRefuses : K.lookup fLRefuses = some ⟨ocLRefuses, odLRefuses, .func (PySem.W.fnOf "_law_refuses" "_law_refuses" (defArgs sLRefuses) (defBody sLRefuses) (defScope sLRefuses) .none kVLRefuses dcLRefuses pmLRefuses anLRefuses cdLRefuses ctLRefuses), slLRefuses⟩)
    (cLRefuses : PySem.W.codeIn K cdLRefuses "_law_refuses" = true)
    (kLRefuses : PySem.W.keepIn K (.ref fLRefuses) = true)
    (aLOther : PySem.W.nsIn K mainGlobals "_law_other" = some (some (.ref fLOther)))
    (lLOther : K.lookup fLOther = some ⟨ocLOther, odLOther, .func (PySem.W.fnOf "_law_other" "_law_other" (defArgs sLOther) (defBody sLOther) (defScope sLOther) .none kVLOther dcLOther pmLOther anLOther cdLOther ctLOther), slLOther⟩)
    (cLOther : PySem.W.codeIn K cdLOther "_law_other" = true)
    (kLOther : PySem.W.keepIn K (.ref fLOther) = true)
    (aLBadTexts : PySem.W.nsIn K mainGlobals "_law_bad_texts" = some (some (.ref fLBadTexts)))
    (lLBadTexts : K.lookup fLBadTexts = some ⟨ocLBadTexts, odLBadTexts, .func (PySem.W.fnOf "_law_bad_texts" "_law_bad_texts" (defArgs sLBadTexts) (defBody sLBadTexts) (defScope sLBadTexts) .none kVLBadTexts dcLBadTexts pmLBadTexts anLBadTexts cdLBadTexts ctLBadTexts), slLBadTexts⟩)
    (cLBadTexts : PySem.W.codeIn K cdLBadTexts "_law_bad_texts" = true)
    (kLBadTexts : PySem.W.keepIn K (.ref fLBadTexts) = true)
    (aLBadActs : PySem.W.nsIn K mainGlobals "_law_bad_acts" = some (some (.ref fLBadActs)))
    (lLBadActs : K.lookup fLBadActs = some ⟨ocLBadActs, odLBadActs, .func (PySem.W.fnOf "_law_bad_acts" "_law_bad_acts" (defArgs sLBadActs) (defBody sLBadActs) (defScope sLBadActs) .none kVLBadActs dcLBadActs pmLBadActs anLBadActs cdLBadActs ctLBadActs), slLBadActs⟩)
    (cLBadActs : PySem.W.codeIn K cdLBadActs "_law_bad_acts" = true)
    (kLBadActs : PySem.W.keepIn K (.ref fLBadActs) = true)
    (aLBadPairs : PySem.W.nsIn K mainGlobals "_law_bad_pairs" = some (some (.ref fLBadPairs)))
    (lLBadPairs : K.lookup fLBadPairs = some ⟨ocLBadPairs, odLBadPairs, .func (PySem.W.fnOf "_law_bad_pairs" "_law_bad_pairs" (defArgs sLBadPairs) (defBody sLBadPairs) (defScope sLBadPairs) .none kVLBadPairs dcLBadPairs pmLBadPairs anLBadPairs cdLBadPairs ctLBadPairs), slLBadPairs⟩)
    (cLBadPairs : PySem.W.codeIn K cdLBadPairs "_law_bad_pairs" = true)
    (kLBadPairs : PySem.W.keepIn K (.ref fLBadPairs) = true)
    (aLLongBook : PySem.W.nsIn K mainGlobals "_law_long_book" = some (some (.ref fLLongBook)))
    (lLLongBook : K.lookup fLLongBook = some ⟨ocLLongBook, odLLongBook, .func (PySem.W.fnOf "_law_long_book" "_law_long_book" (defArgs sLLongBook) (defBody sLLongBook) (defScope sLLongBook) .none kVLLongBook dcLLongBook pmLLongBook anLLongBook cdLLongBook ctLLongBook), slLLongBook⟩)
    (cLLongBook : PySem.W.codeIn K cdLLongBook "_law_long_book" = true)
    (kLLongBook : PySem.W.keepIn K (.ref fLLongBook) = true)
    (aLaw : PySem.W.nsIn K mainGlobals "law" = some (some (.ref fLaw)))
    (lLaw : K.lookup fLaw = some ⟨ocLaw, odLaw, .func (PySem.W.fnOf "law" "law" (defArgs sLaw) (defBody sLaw) (defScope sLaw) .none kVLaw dcLaw pmLaw anLaw cdLaw ctLaw), slLaw⟩)
    (cLaw : PySem.W.codeIn K cdLaw "law" = true)
    (kLaw : PySem.W.keepIn K (.ref fLaw) = true)
    (v_MOST_LETTERS : ∃ t, PySem.W.nsIn K mainGlobals "MOST_LETTERS" = some (some (.int 8 t)))
    (v_MOST_FIELDS : ∃ t, PySem.W.nsIn K mainGlobals "MOST_FIELDS" = some (some (.int 6 t)))
    (v_MOST_VALUES : ∃ t, PySem.W.nsIn K mainGlobals "MOST_VALUES" = some (some (.int 5 t)))
    (v_MOST_RULES : ∃ t, PySem.W.nsIn K mainGlobals "MOST_RULES" = some (some (.int 20 t)))
    (v_MOST_PAIRS : ∃ t, PySem.W.nsIn K mainGlobals "MOST_PAIRS" = some (some (.int 4 t)))
    (v_MOST_FILLINGS : ∃ t, PySem.W.nsIn K mainGlobals "MOST_FILLINGS" = some (some (.int 1000 t)))
    (v_MOST_PHRASES : ∃ t, PySem.W.nsIn K mainGlobals "MOST_PHRASES" = some (some (.int 60 t)))
    (v_MOST_WORDS_OF_TEXT : ∃ t, PySem.W.nsIn K mainGlobals "MOST_WORDS_OF_TEXT" = some (some (.int 6 t)))
    (z_isinstance : PySem.W.nsIn K mainGlobals "isinstance" = some none)
    (z_list : PySem.W.nsIn K mainGlobals "list" = some none)
    (z_tuple : PySem.W.nsIn K mainGlobals "tuple" = some none)
    (z_str : PySem.W.nsIn K mainGlobals "str" = some none)
    (z_len : PySem.W.nsIn K mainGlobals "len" = some none)
    (z_all : PySem.W.nsIn K mainGlobals "all" = some none)
    (z_set : PySem.W.nsIn K mainGlobals "set" = some none)
    (z_dict : PySem.W.nsIn K mainGlobals "dict" = some none)
    (z_int : PySem.W.nsIn K mainGlobals "int" = some none)
    (z_abs : PySem.W.nsIn K mainGlobals "abs" = some none)
    (z_range : PySem.W.nsIn K mainGlobals "range" = some none)
    (z_bool : PySem.W.nsIn K mainGlobals "bool" = some none) :
    ∃ fd : FuncData, (∀ (s : Shared) (v : Value), BindsTo s fd ⟨[v], []⟩ [("script", v)]) ∧ ∀ base : Heap, K.In base → base.Ns mainGlobals mg → FnOk l.prog w K mg base CX0 9 fa fd ["script"] (spLaw K) := by
  have e := hfa.symm.trans (PySem.W.mg_of X G aLaw)
  cases e
  have t0 : XM.XcT K c0 i0 "at" "BadValue.__init__" := ⟨.inl rfl, ini0, ovr0, tkn0, sa0, ga0, gg0, no0, ic0, tc0, kc0, ex0, ty0, hd0, ⟨_, _, _, _, _, _, _, _, _, _, _, _, _, _, lc0, cc0X⟩⟩
  have q0 : XH.ClsQ K c0 := ⟨ga0, gg0, ex0, hd0, cc0, spG, tkG, mo0⟩
  have m_g0 := PySem.W.mg_of X G g0
  have t1 : XM.XcT K c1 i1 "name" "BadField.__init__" := ⟨.inr (.inl rfl), ini1, ovr1, tkn1, sa1, ga1, gg1, no1, ic1, tc1, kc1, ex1, ty1, hd1, ⟨_, _, _, _, _, _, _, _, _, _, _, _, _, _, lc1, cc1X⟩⟩
  have q1 : XH.ClsQ K c1 := ⟨ga1, gg1, ex1, hd1, cc1, spG, tkG, mo1⟩
  have m_g1 := PySem.W.mg_of X G g1
  have t2 : XM.XcT K c2 i2 "word" "TooMany.__init__" := ⟨.inr (.inr rfl), ini2, ovr2, tkn2, sa2, ga2, gg2, no2, ic2, tc2, kc2, ex2, ty2, hd2, ⟨_, _, _, _, _, _, _, _, _, _, _, _, _, _, lc2, cc2X⟩⟩
  have q2 : XH.ClsQ K c2 := ⟨ga2, gg2, ex2, hd2, cc2, spG, tkG, mo2⟩
  have m_g2 := PySem.W.mg_of X G g2
  have m_gB := PySem.W.mg_of X G gB
  have m_gF := PySem.W.mg_of X G gF
  have clF : Cls K cF := ⟨pgF, hdF, poF, saF⟩
  have mkF' : Mk K cF fInit := ⟨mkF, aInit, fn_of_ty tInit, kF⟩
  have FInit := fun_mk (st := sInit) lInit cInit kInit
  have bInit := FInit.binds (ps := ["self", "fields", "rules"]) fun _ _ _ _ _ _ us hl => match us, hl with | [_, _, _], _ => rfl
  have meInit : Meth K cF "__init__" fInit := ⟨aInit, fn_of_ty tInit, kInit⟩
  have FFieldsM := fun_mk (st := sFieldsM) lFieldsM cFieldsM kFieldsM
  have bFieldsM := FFieldsM.binds (ps := ["self"]) fun _ _ _ _ _ _ us hl => match us, hl with | [_], _ => rfl
  have meFieldsM : Meth K cF "fields" fFieldsM := ⟨aFieldsM, fn_of_ty tFieldsM, kFieldsM⟩
  have FRulesM := fun_mk (st := sRulesM) lRulesM cRulesM kRulesM
  have bRulesM := FRulesM.binds (ps := ["self"]) fun _ _ _ _ _ _ us hl => match us, hl with | [_], _ => rfl
  have meRulesM : Meth K cF "rules" fRulesM := ⟨aRulesM, fn_of_ty tRulesM, kRulesM⟩
  have FEqM := fun_mk (st := sEqM) lEqM cEqM kEqM
  have bEqM := FEqM.binds (ps := ["self", "other"]) fun _ _ _ _ _ _ us hl => match us, hl with | [_, _], _ => rfl
  have meEqM : Meth K cF "__eq__" fEqM := ⟨aEqM, fn_of_ty tEqM, kEqM⟩
  have FIsRow := fun_mk (st := sIsRow) lIsRow cIsRow kIsRow
  have bIsRow := FIsRow.binds (ps := ["thing"]) fun _ _ _ _ _ _ us hl => match us, hl with | [_], _ => rfl
  have mIsRow := PySem.W.mg_of X G aIsRow
  have FIsPair := fun_mk (st := sIsPair) lIsPair cIsPair kIsPair
  have bIsPair := FIsPair.binds (ps := ["thing"]) fun _ _ _ _ _ _ us hl => match us, hl with | [_], _ => rfl
  have mIsPair := PySem.W.mg_of X G aIsPair
  have FIsSmall := fun_mk (st := sIsSmall) lIsSmall cIsSmall kIsSmall
  have bIsSmall := FIsSmall.binds (ps := ["string"]) fun _ _ _ _ _ _ us hl => match us, hl with | [_], _ => rfl
  have mIsSmall := PySem.W.mg_of X G aIsSmall
  have FIsWord := fun_mk (st := sIsWord) lIsWord cIsWord kIsWord
  have bIsWord := FIsWord.binds (ps := ["thing"]) fun _ _ _ _ _ _ us hl => match us, hl with | [_], _ => rfl
  have mIsWord := PySem.W.mg_of X G aIsWord
  have FIsText := fun_mk (st := sIsText) lIsText cIsText kIsText
  have bIsText := FIsText.binds (ps := ["thing"]) fun _ _ _ _ _ _ us hl => match us, hl with | [_], _ => rfl
  have mIsText := PySem.W.mg_of X G aIsText
  have FUnlike := fun_mk (st := sUnlike) lUnlike cUnlike kUnlike
  have bUnlike := FUnlike.binds (ps := ["things"]) fun _ _ _ _ _ _ us hl => match us, hl with | [_], _ => rfl
  have mUnlike := PySem.W.mg_of X G aUnlike
  have FAreFacts := fun_mk (st := sAreFacts) lAreFacts cAreFacts kAreFacts
  have bAreFacts := FAreFacts.binds (ps := ["fields", "facts"]) fun _ _ _ _ _ _ us hl => match us, hl with | [_, _], _ => rfl
  have mAreFacts := PySem.W.mg_of X G aAreFacts
  have FInSeq := fun_mk (st := sInSeq) lInSeq cInSeq kInSeq
  have bInSeq := FInSeq.binds (ps := ["fields", "facts"]) fun _ _ _ _ _ _ us hl => match us, hl with | [_, _], _ => rfl
  have mInSeq := PySem.W.mg_of X G aInSeq
  have FCheckPhrases := fun_mk (st := sCheckPhrases) lCheckPhrases cCheckPhrases kCheckPhrases
  have bCheckPhrases := FCheckPhrases.binds (ps := ["form", "phrases"]) fun _ _ _ _ _ _ us hl => match us, hl with | [_, _], _ => rfl
  have mCheckPhrases := PySem.W.mg_of X G aCheckPhrases
  have FMeanings := fun_mk (st := sMeanings) lMeanings cMeanings kMeanings
  have bMeanings := FMeanings.binds (ps := ["form", "phrases", "utterance"]) fun _ _ _ _ _ _ us hl => match us, hl with | [_, _, _], _ => rfl
  have mMeanings := PySem.W.mg_of X G aMeanings
  have FIsPhrase := fun_mk (st := sIsPhrase) lIsPhrase cIsPhrase kIsPhrase
  have bIsPhrase := FIsPhrase.binds (ps := ["fields", "phrase"]) fun _ _ _ _ _ _ us hl => match us, hl with | [_, _], _ => rfl
  have mIsPhrase := PySem.W.mg_of X G aIsPhrase
  have FIsAct := fun_mk (st := sIsAct) lIsAct cIsAct kIsAct
  have bIsAct := FIsAct.binds (ps := ["fields", "act"]) fun _ _ _ _ _ _ us hl => match us, hl with | [_, _], _ => rfl
  have mIsAct := PySem.W.mg_of X G aIsAct
  have FAreFields := fun_mk (st := sAreFields) lAreFields cAreFields kAreFields
  have bAreFields := FAreFields.binds (ps := ["fields"]) fun _ _ _ _ _ _ us hl => match us, hl with | [_], _ => rfl
  have mAreFields := PySem.W.mg_of X G aAreFields
  have FAreValues := fun_mk (st := sAreValues) lAreValues cAreValues kAreValues
  have bAreValues := FAreValues.binds (ps := ["values"]) fun _ _ _ _ _ _ us hl => match us, hl with | [_], _ => rfl
  have mAreValues := PySem.W.mg_of X G aAreValues
  have FAreRules := fun_mk (st := sAreRules) lAreRules cAreRules kAreRules
  have bAreRules := FAreRules.binds (ps := ["fields", "rules"]) fun _ _ _ _ _ _ us hl => match us, hl with | [_, _], _ => rfl
  have mAreRules := PySem.W.mg_of X G aAreRules
  have FWays := fun_mk (st := sWays) lWays cWays kWays
  have bWays := FWays.binds (ps := ["fields"]) fun _ _ _ _ _ _ us hl => match us, hl with | [_], _ => rfl
  have mWays := PySem.W.mg_of X G aWays
  have FEach := fun_mk (st := sEach) lEach cEach kEach
  have bEach := FEach.binds (ps := ["rules"]) fun _ _ _ _ _ _ us hl => match us, hl with | [_], _ => rfl
  have mEach := PySem.W.mg_of X G aEach
  have FLStart := fun_mk (st := sLStart) lLStart cLStart kLStart
  have bLStart := FLStart.binds (ps := ["script"]) fun _ _ _ _ _ _ us hl => match us, hl with | [_], _ => rfl
  have mLStart := PySem.W.mg_of X G aLStart
  have FLDraw := fun_mk (st := sLDraw) lLDraw cLDraw kLDraw
  have bLDraw := FLDraw.binds (ps := ["state", "many"]) fun _ _ _ _ _ _ us hl => match us, hl with | [_, _], _ => rfl
  have mLDraw := PySem.W.mg_of X G aLDraw
  have FLSame := fun_mk (st := sLSame) lLSame cLSame kLSame
  have bLSame := FLSame.binds (ps := ["actual", "due"]) fun _ _ _ _ _ _ us hl => match us, hl with | [_, _], _ => rfl
  have mLSame := PySem.W.mg_of X G aLSame
  have FLWords := fun_mk (st := sLWords) lLWords cLWords kLWords
  have bLWords := FLWords.binds (ps := ["state", "many", "most"]) fun _ _ _ _ _ _ us hl => match us, hl with | [_, _, _], _ => rfl
  have mLWords := PySem.W.mg_of X G aLWords
  have FLTable := fun_mk (st := sLTable) lLTable cLTable kLTable
  have bLTable := FLTable.binds (ps := ["state"]) fun _ _ _ _ _ _ us hl => match us, hl with | [_], _ => rfl
  have mLTable := PySem.W.mg_of X G aLTable
  have FLForm := fun_mk (st := sLForm) lLForm cLForm kLForm
  have bLForm := FLForm.binds (ps := ["state", "table"]) fun _ _ _ _ _ _ us hl => match us, hl with | [_, _], _ => rfl
  have mLForm := PySem.W.mg_of X G aLForm
  have FLActs := fun_mk (st := sLActs) lLActs cLActs kLActs
  have bLActs := FLActs.binds (ps := ["table"]) fun _ _ _ _ _ _ us hl => match us, hl with | [_], _ => rfl
  have mLActs := PySem.W.mg_of X G aLActs
  have FLSpoken := fun_mk (st := sLSpoken) lLSpoken cLSpoken kLSpoken
  have bLSpoken := FLSpoken.binds (ps := ["state", "pool", "most"]) fun _ _ _ _ _ _ us hl => match us, hl with | [_, _, _], _ => rfl
  have mLSpoken := PySem.W.mg_of X G aLSpoken
  have FLBook := fun_mk (st := sLBook) lLBook cLBook kLBook
  have bLBook := FLBook.binds (ps := ["state", "acts", "pool", "many"]) fun _ _ _ _ _ _ us hl => match us, hl with | [_, _, _, _], _ => rfl
  have mLBook := PySem.W.mg_of X G aLBook
  have FLListed := fun_mk (st := sLListed) lLListed cLListed kLListed
  have bLListed := FLListed.binds (ps := ["book"]) fun _ _ _ _ _ _ us hl => match us, hl with | [_], _ => rfl
  have mLListed := PySem.W.mg_of X G aLListed
  have FLRefuses := fun_mk (st := sLRefuses) lLRefuses cLRefuses kLRefuses
  have bLRefuses := FLRefuses.binds (ps := ["shape", "book", "way"]) fun _ _ _ _ _ _ us hl => match us, hl with | [_, _, _], _ => rfl
  have mLRefuses := PySem.W.mg_of X G aLRefuses
  have FLOther := fun_mk (st := sLOther) lLOther cLOther kLOther
  have bLOther := FLOther.binds (ps := ["words"]) fun _ _ _ _ _ _ us hl => match us, hl with | [_], _ => rfl
  have mLOther := PySem.W.mg_of X G aLOther
  have FLBadTexts := fun_mk (st := sLBadTexts) lLBadTexts cLBadTexts kLBadTexts
  have bLBadTexts := FLBadTexts.binds (ps := ["pool"]) fun _ _ _ _ _ _ us hl => match us, hl with | [_], _ => rfl
  have mLBadTexts := PySem.W.mg_of X G aLBadTexts
  have FLBadActs := fun_mk (st := sLBadActs) lLBadActs cLBadActs kLBadActs
  have bLBadActs := FLBadActs.binds (ps := ["table"]) fun _ _ _ _ _ _ us hl => match us, hl with | [_], _ => rfl
  have mLBadActs := PySem.W.mg_of X G aLBadActs
  have FLBadPairs := fun_mk (st := sLBadPairs) lLBadPairs cLBadPairs kLBadPairs
  have bLBadPairs := FLBadPairs.binds (ps := ["book", "pool", "table"]) fun _ _ _ _ _ _ us hl => match us, hl with | [_, _, _], _ => rfl
  have mLBadPairs := PySem.W.mg_of X G aLBadPairs
  have FLLongBook := fun_mk (st := sLLongBook) lLLongBook cLLongBook kLLongBook
  have bLLongBook := FLLongBook.binds (ps := ["state", "acts", "pool"]) fun _ _ _ _ _ _ us hl => match us, hl with | [_, _, _], _ => rfl
  have mLLongBook := PySem.W.mg_of X G aLLongBook
  have FLaw := fun_mk (st := sLaw) lLaw cLaw kLaw
  have bLaw := FLaw.binds (ps := ["script"]) fun _ _ _ _ _ _ us hl => match us, hl with | [_], _ => rfl
  have mLaw := PySem.W.mg_of X G aLaw
  have m_MOST_LETTERS : ∃ t, mg "MOST_LETTERS" = some (.int 8 t) := by
    obtain ⟨t, h⟩ := v_MOST_LETTERS
    exact ⟨t, PySem.W.mg_of X G h⟩
  have m_MOST_FIELDS : ∃ t, mg "MOST_FIELDS" = some (.int 6 t) := by
    obtain ⟨t, h⟩ := v_MOST_FIELDS
    exact ⟨t, PySem.W.mg_of X G h⟩
  have m_MOST_VALUES : ∃ t, mg "MOST_VALUES" = some (.int 5 t) := by
    obtain ⟨t, h⟩ := v_MOST_VALUES
    exact ⟨t, PySem.W.mg_of X G h⟩
  have m_MOST_RULES : ∃ t, mg "MOST_RULES" = some (.int 20 t) := by
    obtain ⟨t, h⟩ := v_MOST_RULES
    exact ⟨t, PySem.W.mg_of X G h⟩
  have m_MOST_PAIRS : ∃ t, mg "MOST_PAIRS" = some (.int 4 t) := by
    obtain ⟨t, h⟩ := v_MOST_PAIRS
    exact ⟨t, PySem.W.mg_of X G h⟩
  have m_MOST_FILLINGS : ∃ t, mg "MOST_FILLINGS" = some (.int 1000 t) := by
    obtain ⟨t, h⟩ := v_MOST_FILLINGS
    exact ⟨t, PySem.W.mg_of X G h⟩
  have m_MOST_PHRASES : ∃ t, mg "MOST_PHRASES" = some (.int 60 t) := by
    obtain ⟨t, h⟩ := v_MOST_PHRASES
    exact ⟨t, PySem.W.mg_of X G h⟩
  have m_MOST_WORDS_OF_TEXT : ∃ t, mg "MOST_WORDS_OF_TEXT" = some (.int 6 t) := by
    obtain ⟨t, h⟩ := v_MOST_WORDS_OF_TEXT
    exact ⟨t, PySem.W.mg_of X G h⟩
  have m_isinstance := PySem.W.mg_none_of X G z_isinstance
  have m_list := PySem.W.mg_none_of X G z_list
  have m_tuple := PySem.W.mg_none_of X G z_tuple
  have m_str := PySem.W.mg_none_of X G z_str
  have m_len := PySem.W.mg_none_of X G z_len
  have m_all := PySem.W.mg_none_of X G z_all
  have m_set := PySem.W.mg_none_of X G z_set
  have m_dict := PySem.W.mg_none_of X G z_dict
  have m_int := PySem.W.mg_none_of X G z_int
  have m_abs := PySem.W.mg_none_of X G z_abs
  have m_range := PySem.W.mg_none_of X G z_range
  have m_bool := PySem.W.mg_none_of X G z_bool
  have Tb : Bb mg := ⟨m_isinstance, m_list, m_tuple, m_str, m_len, m_all, m_set, m_dict, m_MOST_LETTERS⟩
  have Tm : Fm mg := ⟨m_MOST_FIELDS, m_MOST_VALUES, m_MOST_RULES, m_MOST_PAIRS, m_MOST_FILLINGS⟩
  have R : Er K mg c0 c2 := ⟨⟨_, _, t0⟩, ⟨_, _, t2⟩, m_g0, m_g2⟩
  have Rh : Bh K mg c0 := ⟨⟨_, _, t0⟩, m_g0⟩
  have Cc : Pc mg := ⟨m_MOST_WORDS_OF_TEXT, m_MOST_PHRASES⟩
  have TF : Fc K mg cF := ⟨clF, nfF, nrF, m_gF, m_isinstance, fun e => .ins e clF ccF spG tkG moF, kit_own isF tyF sFF sFF, data_all (kit_data isF tyF nNoneType) (fun _ => kit_data isF tyF nbool) (fun _ => kit_data isF tyF nint) (fun _ => kit_data isF tyF nstr) (fun _ => kit_data isF tyF nlist) (fun _ => kit_data isF tyF ntuple)⟩
  refine ⟨PySem.W.fnOf "law" "law" (defArgs sLaw) (defBody sLaw) (defScope sLaw) .none kVLaw dcLaw pmLaw anLaw cdLaw ctLaw, fun s v => .of_eq rfl, fun base _ _ => ?_⟩
  have GIsRow := ok_isrow (P := l.prog) (w := w) (base := base) FIsRow Tb
  have KIsRow : Kn l.prog w K mg base _ _ _ _ := ⟨fIsRow, _, GIsRow, FIsRow.kp, bIsRow, mIsRow⟩
  have GIsPair := ok_ispair FIsPair Tb GIsRow FIsRow.kp bIsRow mIsRow
  have KIsPair : Kn l.prog w K mg base _ _ _ _ := ⟨fIsPair, _, GIsPair, FIsPair.kp, bIsPair, mIsPair⟩
  have GIsSmall := ok_issmall (P := l.prog) (w := w) (base := base) FIsSmall Tb
  have GIsWord := ok_isword FIsWord Tb GIsSmall FIsSmall.kp bIsSmall mIsSmall
  have GUnlike := ok_unlike FUnlike Tb GIsWord FIsWord.kp bIsWord mIsWord
  have KUnlike : Kn l.prog w K mg base _ _ _ _ := ⟨fUnlike, _, GUnlike, FUnlike.kp, bUnlike, mUnlike⟩
  have GAreFacts := ok_arefacts FAreFacts Tb GIsRow FIsRow.kp bIsRow mIsRow GIsPair FIsPair.kp bIsPair mIsPair
  have KAreFacts : Kn l.prog w K mg base _ _ _ _ := ⟨fAreFacts, _, GAreFacts, FAreFacts.kp, bAreFacts, mAreFacts⟩
  have KInSeq : Kn l.prog w K mg base _ _ _ _ := ⟨fInSeq, _, ok_inseq FInSeq Tb, FInSeq.kp, bInSeq, mInSeq⟩
  have KAreValues : Kn l.prog w K mg base _ _ _ _ := ⟨fAreValues, _, ok_arevalues FAreValues Tb Tm KIsRow KUnlike, FAreValues.kp, bAreValues, mAreValues⟩
  have KAreFields : Kn l.prog w K mg base _ _ _ _ := ⟨fAreFields, _, ok_arefields FAreFields Tb Tm KIsRow KIsPair KUnlike KAreValues, FAreFields.kp, bAreFields, mAreFields⟩
  have KAreRules : Kn l.prog w K mg base _ _ _ _ := ⟨fAreRules, _, ok_arerules FAreRules Tb Tm KIsRow KAreFacts, FAreRules.kp, bAreRules, mAreRules⟩
  have KWays : Kn l.prog w K mg base _ _ _ _ := ⟨fWays, _, ok_ways FWays Tb, FWays.kp, bWays, mWays⟩
  have KEach : Kn l.prog w K mg base _ _ _ _ := ⟨fEach, _, ok_each FEach Tb, FEach.kp, bEach, mEach⟩
  have GInit := ok_init FInit Tb Tm R clF nfF nrF KAreFields KAreRules KWays KEach KInSeq
  have GFieldsM := ok_fieldsM (P := l.prog) (w := w) (base := base) FFieldsM TF
  have GRulesM := ok_rulesM (P := l.prog) (w := w) (base := base) FRulesM TF
  have Zk : Fk l.prog w K mg base cF := ⟨TF, ⟨_, _, GFieldsM, bFieldsM, meFieldsM⟩, ⟨_, _, GRulesM, bRulesM, meRulesM⟩⟩
  have KIsWord : Kn l.prog w K mg base _ _ _ _ := ⟨fIsWord, _, GIsWord, FIsWord.kp, bIsWord, mIsWord⟩
  have KIsText : Kn l.prog w K mg base _ _ _ _ := ⟨fIsText, _, ok_istext FIsText Tb KIsWord, FIsText.kp, bIsText, mIsText⟩
  have KIsAct : Kn l.prog w K mg base _ _ _ _ := ⟨fIsAct, _, ok_isact FIsAct Tb KIsRow KAreFacts, FIsAct.kp, bIsAct, mIsAct⟩
  have KIsPhrase : Kn l.prog w K mg base _ _ _ _ := ⟨fIsPhrase, _, ok_isphrase FIsPhrase Tb Cc KIsPair KIsText KIsAct, FIsPhrase.kp, bIsPhrase, mIsPhrase⟩
  have GCheck := ok_check FCheckPhrases Tb Cc Zk Rh KIsRow KIsPhrase
  have T : Be7 mg := ⟨m_int, m_list, m_len, m_abs, m_range, m_tuple, m_isinstance, m_str, m_bool⟩
  have Er_ : Er7 K mg c0 c1 c2 cB := ⟨⟨_, _, t0⟩, m_g0, m_g1, m_g2, m_gB, q0, kit_own isB tyB sB0 sBB, kit_own is1 ty1 s01 s11, kit_own is2 ty2 s02 s22, PySem.W.exm_ref ex0 hd0 ty0 s00⟩
  have KLStart : Kn l.prog w K mg base _ _ _ _ := ⟨fLStart, _, ok_start7 FLStart T, FLStart.kp, bLStart, mLStart⟩
  have KLDraw : Kn l.prog w K mg base _ _ _ _ := ⟨fLDraw, _, ok_draw7 FLDraw T, FLDraw.kp, bLDraw, mLDraw⟩
  have KLWords : Kn l.prog w K mg base _ _ _ _ := ⟨fLWords, _, ok_words7 FLWords T KLDraw, FLWords.kp, bLWords, mLWords⟩
  have KLTable : Kn l.prog w K mg base _ _ _ _ := ⟨fLTable, _, ok_table7 FLTable T KLDraw KLWords, FLTable.kp, bLTable, mLTable⟩
  have KLForm : Kn l.prog w K mg base _ _ _ _ := ⟨fLForm, _, ok_sheet7 FLForm T mkF' GInit bInit m_gF KLDraw, FLForm.kp, bLForm, mLForm⟩
  have KLActs : Kn l.prog w K mg base _ _ _ _ := ⟨fLActs, _, ok_acts7 FLActs T, FLActs.kp, bLActs, mLActs⟩
  have KLSpoken : Kn l.prog w K mg base _ _ _ _ := ⟨fLSpoken, _, ok_spok7 FLSpoken T KLDraw, FLSpoken.kp, bLSpoken, mLSpoken⟩
  have KLBook : Kn l.prog w K mg base _ _ _ _ := ⟨fLBook, _, ok_book7 FLBook T KLDraw KLSpoken, FLBook.kp, bLBook, mLBook⟩
  have KLListed : Kn l.prog w K mg base _ _ _ _ := ⟨fLListed, _, ok_listed7 FLListed T, FLListed.kp, bLListed, mLListed⟩
  have KLOther : Kn l.prog w K mg base _ _ _ _ := ⟨fLOther, _, ok_other7 FLOther T, FLOther.kp, bLOther, mLOther⟩
  have KLBadTexts : Kn l.prog w K mg base _ _ _ _ := ⟨fLBadTexts, _, ok_badTs7 FLBadTexts, FLBadTexts.kp, bLBadTexts, mLBadTexts⟩
  have KLBadActs : Kn l.prog w K mg base _ _ _ _ := ⟨fLBadActs, _, ok_badAs7 FLBadActs KLOther, FLBadActs.kp, bLBadActs, mLBadActs⟩
  have KLBadPairs : Kn l.prog w K mg base _ _ _ _ := ⟨fLBadPairs, _, ok_badPs7 FLBadPairs T KLBadTexts KLBadActs, FLBadPairs.kp, bLBadPairs, mLBadPairs⟩
  have GMean := ok_mean7 FMeanings GCheck FCheckPhrases.kp bCheckPhrases mCheckPhrases
  have GSame := ok_same7 (P := l.prog) (w := w) (base := base) FLSame T
  have KLRefuses : Kn l.prog w K mg base _ _ _ _ := ⟨fLRefuses, _, ok_refu7 FLRefuses T Er_ GCheck FCheckPhrases.kp bCheckPhrases mCheckPhrases (XW.kbn2 FCheckPhrases (fun _ _ _ _ _ _ _ _ => rfl)) GMean FMeanings.kp bMeanings mMeanings GSame FLSame.kp bLSame mLSame, FLRefuses.kp, bLRefuses, mLRefuses⟩
  have KLLongBook : Kn l.prog w K mg base _ _ _ _ := ⟨fLLongBook, _, ok_long7 FLLongBook T KLDraw, FLLongBook.kp, bLLongBook, mLLongBook⟩
  exact ok_law FLaw T KLStart KLDraw KLTable KLForm KLActs KLWords KLBook KLListed KLBadPairs KLRefuses KLLongBook GCheck FCheckPhrases.kp bCheckPhrases mCheckPhrases (kbs2 FCheckPhrases (fun _ _ _ _ _ _ _ _ => rfl))
theorem walk {l : PySem.W.OpenLaw} {q : Program} {loose : List Str} {XP : (Str → Option Value) → Heap → Prop} {YP : World → Heap → Prop} {d : DefRec} {K : Params → PySem.W.Frag} (hn : l.most = some 63) (hdf : d.params.defaults = [])
    (hY : ∀ (w : World) (h : Heap), YP w h → (K w.params).In h)
    (F : ∀ (w : World) (mg : Str → Option Value) (fa : Addr) (h : Heap), (K w.params).In h → h.Ns mainGlobals mg → mg d.name = some (.ref fa) →
      ∃ fd : FuncData, (∀ (s : Shared) (u : Value), BindsTo s fd ⟨[u], []⟩ [("script", u)]) ∧ ∀ base : Heap, (K w.params).In base → base.Ns mainGlobals mg → FnOk l.prog w (K w.params) mg base CX0 9 fa fd ["script"] (spLaw (K w.params))) :
    PySem.W.WalkO q loose XP YP l.row.toRowW d [] (fun f vs => PySem.call f vs) :=
  L2.walk_of (n := 63) (k := 9) (x := "script") (CX := fun _ => CX0) (sp := fun w => spLaw (K w.params)) hn (by decide) hdf ⟨rfl, by decide, by decide⟩ hY F (fun _ _ a ns hl _ hS => ⟨a, ns, rfl, hS, hl, fun _ => rfl⟩) fun _ _ _ _ _ z => z
end Q
set_option Elab.async false
open PySem PySem.W PyProof.Rows
set_option maxRecDepth 100000 in
set_option maxHeartbeats 0 in
theorem PySem.Challenge.cw_sayfill_k07_phrases_checked_holds : PySem.Challenge.rw_sayfill_k07_phrases_checked.Holds := by
  w_on; o_law; k_head; (case hw => w_witness2)
  k_fill
  refine Q.walk (l := PySem.Challenge.rw_sayfill_k07_phrases_checked) rfl rfl (fun w h Y => PySem.W.kIn_of Y) ?zz_F
  case zz_F =>
    intro w mg fa h KX G hmg
    refine' Q.all_mk KX G hmg ?zz_g0 ?zz_ini0 ?zz_ovr0 ?zz_tkn0 ?zz_sa0 ?zz_ga0 ?zz_gg0 ?zz_no0 ?zz_ic0 ?zz_tc0 ?zz_kc0 ?zz_ex0 ?zz_ty0 ?zz_hd0 ?zz_is0 ?zz_cc0 ?zz_mo0 ?zz_lc0 ?zz_cc0X ?zz_s00 ?zz_s01 ?zz_s02 ?zz_sB0 ?zz_g1 ?zz_ini1 ?zz_ovr1 ?zz_tkn1 ?zz_sa1 ?zz_ga1 ?zz_gg1 ?zz_no1 ?zz_ic1 ?zz_tc1 ?zz_kc1 ?zz_ex1 ?zz_ty1 ?zz_hd1 ?zz_is1 ?zz_cc1 ?zz_mo1 ?zz_lc1 ?zz_cc1X ?zz_s10 ?zz_s11 ?zz_s12 ?zz_sB1 ?zz_g2 ?zz_ini2 ?zz_ovr2 ?zz_tkn2 ?zz_sa2 ?zz_ga2 ?zz_gg2 ?zz_no2 ?zz_ic2 ?zz_tc2 ?zz_kc2 ?zz_ex2 ?zz_ty2 ?zz_hd2 ?zz_is2 ?zz_cc2 ?zz_mo2 ?zz_lc2 ?zz_cc2X ?zz_s20 ?zz_s21 ?zz_s22 ?zz_sB2 ?zz_gB ?zz_exB ?zz_tyB ?zz_hdB ?zz_isB ?zz_sBB ?zz_spG ?zz_tkG ?zz_gF ?zz_pgF ?zz_hdF ?zz_poF ?zz_saF ?zz_nfF ?zz_nrF ?zz_ccF ?zz_moF ?zz_isF ?zz_tyF ?zz_sFF ?zz_mkF ?zz_kF ?zz_aInit ?zz_tInit ?zz_lInit ?zz_cInit ?zz_kInit ?zz_aFieldsM ?zz_tFieldsM ?zz_lFieldsM ?zz_cFieldsM ?zz_kFieldsM ?zz_aRulesM ?zz_tRulesM ?zz_lRulesM ?zz_cRulesM ?zz_kRulesM ?zz_aEqM ?zz_tEqM ?zz_lEqM ?zz_cEqM ?zz_kEqM ?zz_nNoneType ?zz_nbool ?zz_nint ?zz_nstr ?zz_nlist ?zz_ntuple ?zz_aIsRow ?zz_lIsRow ?zz_cIsRow ?zz_kIsRow ?zz_aIsPair ?zz_lIsPair ?zz_cIsPair ?zz_kIsPair ?zz_aIsSmall ?zz_lIsSmall ?zz_cIsSmall ?zz_kIsSmall ?zz_aIsWord ?zz_lIsWord ?zz_cIsWord ?zz_kIsWord ?zz_aIsText ?zz_lIsText ?zz_cIsText ?zz_kIsText ?zz_aUnlike ?zz_lUnlike ?zz_cUnlike ?zz_kUnlike ?zz_aAreFacts ?zz_lAreFacts ?zz_cAreFacts ?zz_kAreFacts ?zz_aInSeq ?zz_lInSeq ?zz_cInSeq ?zz_kInSeq ?zz_aCheckPhrases ?zz_lCheckPhrases ?zz_cCheckPhrases ?zz_kCheckPhrases ?zz_aMeanings ?zz_lMeanings ?zz_cMeanings ?zz_kMeanings ?zz_aIsPhrase ?zz_lIsPhrase ?zz_cIsPhrase ?zz_kIsPhrase ?zz_aIsAct ?zz_lIsAct ?zz_cIsAct ?zz_kIsAct ?zz_aAreFields ?zz_lAreFields ?zz_cAreFields ?zz_kAreFields ?zz_aAreValues ?zz_lAreValues ?zz_cAreValues ?zz_kAreValues ?zz_aAreRules ?zz_lAreRules ?zz_cAreRules ?zz_kAreRules ?zz_aWays ?zz_lWays ?zz_cWays ?zz_kWays ?zz_aEach ?zz_lEach ?zz_cEach ?zz_kEach ?zz_aLStart ?zz_lLStart ?zz_cLStart ?zz_kLStart ?zz_aLDraw ?zz_lLDraw ?zz_cLDraw ?zz_kLDraw ?zz_aLSame ?zz_lLSame ?zz_cLSame ?zz_kLSame ?zz_aLWords ?zz_lLWords ?zz_cLWords ?zz_kLWords ?zz_aLTable ?zz_lLTable ?zz_cLTable ?zz_kLTable ?zz_aLForm ?zz_lLForm ?zz_cLForm ?zz_kLForm ?zz_aLActs ?zz_lLActs ?zz_cLActs ?zz_kLActs ?zz_aLSpoken ?zz_lLSpoken ?zz_cLSpoken ?zz_kLSpoken ?zz_aLBook ?zz_lLBook ?zz_cLBook ?zz_kLBook ?zz_aLListed ?zz_lLListed ?zz_cLListed ?zz_kLListed ?zz_aLRefuses ?zz_lLRefuses ?zz_cLRefuses ?zz_kLRefuses ?zz_aLOther ?zz_lLOther ?zz_cLOther ?zz_kLOther ?zz_aLBadTexts ?zz_lLBadTexts ?zz_cLBadTexts ?zz_kLBadTexts ?zz_aLBadActs ?zz_lLBadActs ?zz_cLBadActs ?zz_kLBadActs ?zz_aLBadPairs ?zz_lLBadPairs ?zz_cLBadPairs ?zz_kLBadPairs ?zz_aLLongBook ?zz_lLLongBook ?zz_cLLongBook ?zz_kLLongBook ?zz_aLaw ?zz_lLaw ?zz_cLaw ?zz_kLaw ?zz_v_MOST_LETTERS ?zz_v_MOST_FIELDS ?zz_v_MOST_VALUES ?zz_v_MOST_RULES ?zz_v_MOST_PAIRS ?zz_v_MOST_FILLINGS ?zz_v_MOST_PHRASES ?zz_v_MOST_WORDS_OF_TEXT ?zz_z_isinstance ?zz_z_list ?zz_z_tuple ?zz_z_str ?zz_z_len ?zz_z_all ?zz_z_set ?zz_z_dict ?zz_z_int ?zz_z_abs ?zz_z_range ?zz_z_bool
    (case zz_g0 => k_is)
    (case zz_g1 => k_is)
    (case zz_g2 => k_is)
    (case zz_gB => k_is)
    (case zz_gF => k_is)
    (case zz_aIsRow => k_is)
    (case zz_aIsPair => k_is)
    (case zz_aIsSmall => k_is)
    (case zz_aIsWord => k_is)
    (case zz_aIsText => k_is)
    (case zz_aUnlike => k_is)
    (case zz_aAreFacts => k_is)
    (case zz_aInSeq => k_is)
    (case zz_aCheckPhrases => k_is)
    (case zz_aMeanings => k_is)
    (case zz_aIsPhrase => k_is)
    (case zz_aIsAct => k_is)
    (case zz_aAreFields => k_is)
    (case zz_aAreValues => k_is)
    (case zz_aAreRules => k_is)
    (case zz_aWays => k_is)
    (case zz_aEach => k_is)
    (case zz_aLStart => k_is)
    (case zz_aLDraw => k_is)
    (case zz_aLSame => k_is)
    (case zz_aLWords => k_is)
    (case zz_aLTable => k_is)
    (case zz_aLForm => k_is)
    (case zz_aLActs => k_is)
    (case zz_aLSpoken => k_is)
    (case zz_aLBook => k_is)
    (case zz_aLListed => k_is)
    (case zz_aLRefuses => k_is)
    (case zz_aLOther => k_is)
    (case zz_aLBadTexts => k_is)
    (case zz_aLBadActs => k_is)
    (case zz_aLBadPairs => k_is)
    (case zz_aLLongBook => k_is)
    (case zz_aLaw => k_is)
    (case zz_ini0 => first | kx_is | k_is)
    (case zz_ovr0 => first | kx_is | k_is)
    (case zz_tkn0 => k_is)
    (case zz_sa0 => k_is)
    (case zz_ga0 => k_is)
    (case zz_gg0 => k_is)
    (case zz_no0 => k_is)
    (case zz_ic0 => k_is)
    (case zz_tc0 => k_is)
    (case zz_kc0 => k_is)
    (case zz_ex0 => k_is)
    (case zz_ty0 => k_is)
    (case zz_hd0 => k_is)
    (case zz_is0 => k_is)
    (case zz_cc0 => k_is)
    (case zz_mo0 => k_is)
    (case zz_lc0 => k_is)
    (case zz_cc0X => k_is)
    (case zz_s00 => k_is)
    (case zz_s01 => k_is)
    (case zz_s02 => k_is)
    (case zz_sB0 => k_is)
    (case zz_ini1 => first | kx_is | k_is)
    (case zz_ovr1 => first | kx_is | k_is)
    (case zz_tkn1 => k_is)
    (case zz_sa1 => k_is)
    (case zz_ga1 => k_is)
    (case zz_gg1 => k_is)
    (case zz_no1 => k_is)
    (case zz_ic1 => k_is)
    (case zz_tc1 => k_is)
    (case zz_kc1 => k_is)
    (case zz_ex1 => k_is)
    (case zz_ty1 => k_is)
    (case zz_hd1 => k_is)
    (case zz_is1 => k_is)
    (case zz_cc1 => k_is)
    (case zz_mo1 => k_is)
    (case zz_lc1 => k_is)
    (case zz_cc1X => k_is)
    (case zz_s10 => k_is)
    (case zz_s11 => k_is)
    (case zz_s12 => k_is)
    (case zz_sB1 => k_is)
    (case zz_ini2 => first | kx_is | k_is)
    (case zz_ovr2 => first | kx_is | k_is)
    (case zz_tkn2 => k_is)
    (case zz_sa2 => k_is)
    (case zz_ga2 => k_is)
    (case zz_gg2 => k_is)
    (case zz_no2 => k_is)
    (case zz_ic2 => k_is)
    (case zz_tc2 => k_is)
    (case zz_kc2 => k_is)
    (case zz_ex2 => k_is)
    (case zz_ty2 => k_is)
    (case zz_hd2 => k_is)
    (case zz_is2 => k_is)
    (case zz_cc2 => k_is)
    (case zz_mo2 => k_is)
    (case zz_lc2 => k_is)
    (case zz_cc2X => k_is)
    (case zz_s20 => k_is)
    (case zz_s21 => k_is)
    (case zz_s22 => k_is)
    (case zz_sB2 => k_is)
    (case zz_exB => k_is)
    (case zz_tyB => k_is)
    (case zz_hdB => k_is)
    (case zz_isB => k_is)
    (case zz_sBB => k_is)
    (case zz_spG => k_is)
    (case zz_tkG => k_is)
    (case zz_pgF => k_is)
    (case zz_hdF => k_is)
    (case zz_poF => k_is)
    (case zz_saF => k_is)
    (case zz_nfF => k_is)
    (case zz_nrF => k_is)
    (case zz_ccF => k_is)
    (case zz_moF => k_is)
    (case zz_isF => k_is)
    (case zz_tyF => k_is)
    (case zz_sFF => k_is)
    (case zz_mkF => k_is)
    (case zz_kF => k_is)
    (case zz_aInit => k_is)
    (case zz_tInit => k_is)
    (case zz_lInit => k_is)
    (case zz_cInit => k_is)
    (case zz_kInit => k_is)
    (case zz_aFieldsM => k_is)
    (case zz_tFieldsM => k_is)
    (case zz_lFieldsM => k_is)
    (case zz_cFieldsM => k_is)
    (case zz_kFieldsM => k_is)
    (case zz_aRulesM => k_is)
    (case zz_tRulesM => k_is)
    (case zz_lRulesM => k_is)
    (case zz_cRulesM => k_is)
    (case zz_kRulesM => k_is)
    (case zz_aEqM => k_is)
    (case zz_tEqM => k_is)
    (case zz_lEqM => k_is)
    (case zz_cEqM => k_is)
    (case zz_kEqM => k_is)
    (case zz_nNoneType => k_is)
    (case zz_nbool => k_is)
    (case zz_nint => k_is)
    (case zz_nstr => k_is)
    (case zz_nlist => k_is)
    (case zz_ntuple => k_is)
    (case zz_lIsRow => k_is)
    (case zz_cIsRow => k_is)
    (case zz_kIsRow => k_is)
    (case zz_lIsPair => k_is)
    (case zz_cIsPair => k_is)
    (case zz_kIsPair => k_is)
    (case zz_lIsSmall => k_is)
    (case zz_cIsSmall => k_is)
    (case zz_kIsSmall => k_is)
    (case zz_lIsWord => k_is)
    (case zz_cIsWord => k_is)
    (case zz_kIsWord => k_is)
    (case zz_lIsText => k_is)
    (case zz_cIsText => k_is)
    (case zz_kIsText => k_is)
    (case zz_lUnlike => k_is)
    (case zz_cUnlike => k_is)
    (case zz_kUnlike => k_is)
    (case zz_lAreFacts => k_is)
    (case zz_cAreFacts => k_is)
    (case zz_kAreFacts => k_is)
    (case zz_lInSeq => k_is)
    (case zz_cInSeq => k_is)
    (case zz_kInSeq => k_is)
    (case zz_lCheckPhrases => k_is)
    (case zz_cCheckPhrases => k_is)
    (case zz_kCheckPhrases => k_is)
    (case zz_lMeanings => k_is)
    (case zz_cMeanings => k_is)
    (case zz_kMeanings => k_is)
    (case zz_lIsPhrase => k_is)
    (case zz_cIsPhrase => k_is)
    (case zz_kIsPhrase => k_is)
    (case zz_lIsAct => k_is)
    (case zz_cIsAct => k_is)
    (case zz_kIsAct => k_is)
    (case zz_lAreFields => k_is)
    (case zz_cAreFields => k_is)
    (case zz_kAreFields => k_is)
    (case zz_lAreValues => k_is)
    (case zz_cAreValues => k_is)
    (case zz_kAreValues => k_is)
    (case zz_lAreRules => k_is)
    (case zz_cAreRules => k_is)
    (case zz_kAreRules => k_is)
    (case zz_lWays => k_is)
    (case zz_cWays => k_is)
    (case zz_kWays => k_is)
    (case zz_lEach => k_is)
    (case zz_cEach => k_is)
    (case zz_kEach => k_is)
    (case zz_lLStart => k_is)
    (case zz_cLStart => k_is)
    (case zz_kLStart => k_is)
    (case zz_lLDraw => k_is)
    (case zz_cLDraw => k_is)
    (case zz_kLDraw => k_is)
    (case zz_lLSame => k_is)
    (case zz_cLSame => k_is)
    (case zz_kLSame => k_is)
    (case zz_lLWords => k_is)
    (case zz_cLWords => k_is)
    (case zz_kLWords => k_is)
    (case zz_lLTable => k_is)
    (case zz_cLTable => k_is)
    (case zz_kLTable => k_is)
    (case zz_lLForm => k_is)
    (case zz_cLForm => k_is)
    (case zz_kLForm => k_is)
    (case zz_lLActs => k_is)
    (case zz_cLActs => k_is)
    (case zz_kLActs => k_is)
    (case zz_lLSpoken => k_is)
    (case zz_cLSpoken => k_is)
    (case zz_kLSpoken => k_is)
    (case zz_lLBook => k_is)
    (case zz_cLBook => k_is)
    (case zz_kLBook => k_is)
    (case zz_lLListed => k_is)
    (case zz_cLListed => k_is)
    (case zz_kLListed => k_is)
    (case zz_lLRefuses => k_is)
    (case zz_cLRefuses => k_is)
    (case zz_kLRefuses => k_is)
    (case zz_lLOther => k_is)
    (case zz_cLOther => k_is)
    (case zz_kLOther => k_is)
    (case zz_lLBadTexts => k_is)
    (case zz_cLBadTexts => k_is)
    (case zz_kLBadTexts => k_is)
    (case zz_lLBadActs => k_is)
    (case zz_cLBadActs => k_is)
    (case zz_kLBadActs => k_is)
    (case zz_lLBadPairs => k_is)
    (case zz_cLBadPairs => k_is)
    (case zz_kLBadPairs => k_is)
    (case zz_lLLongBook => k_is)
    (case zz_cLLongBook => k_is)
    (case zz_kLLongBook => k_is)
    (case zz_lLaw => k_is)
    (case zz_cLaw => k_is)
    (case zz_kLaw => k_is)
    (case zz_v_MOST_LETTERS => exact ⟨_, by k_is⟩)
    (case zz_v_MOST_FIELDS => exact ⟨_, by k_is⟩)
    (case zz_v_MOST_VALUES => exact ⟨_, by k_is⟩)
    (case zz_v_MOST_RULES => exact ⟨_, by k_is⟩)
    (case zz_v_MOST_PAIRS => exact ⟨_, by k_is⟩)
    (case zz_v_MOST_FILLINGS => exact ⟨_, by k_is⟩)
    (case zz_v_MOST_PHRASES => exact ⟨_, by k_is⟩)
    (case zz_v_MOST_WORDS_OF_TEXT => exact ⟨_, by k_is⟩)
    (case zz_z_isinstance => k_is)
    (case zz_z_list => k_is)
    (case zz_z_tuple => k_is)
    (case zz_z_str => k_is)
    (case zz_z_len => k_is)
    (case zz_z_all => k_is)
    (case zz_z_set => k_is)
    (case zz_z_dict => k_is)
    (case zz_z_int => k_is)
    (case zz_z_abs => k_is)
    (case zz_z_range => k_is)
    (case zz_z_bool => k_is)
