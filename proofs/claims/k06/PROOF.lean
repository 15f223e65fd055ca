import PyProof.Rows.All
import Wide.All
import OpenK.AllK
import Wide.FinOn
import HandS.ForMost
import HandS.Strs
import HandS.IsInst
import HandS.ForExc
import HandS.Walk
import HandS.Text
import HandS.TryOnly
import HandS.Dict
import HandS.Deep
import HandS.TryMany
import HandS.ExcCtx
import HandS.Hot
import HandS.HotCalls
import HandS.ExcField
import HandS.ExcIs
import KE.KExcInit
import HandS.DeepEq
import HandS.Wide
import HandS.Conv
import HandS.Style
import HandS.TupAny
import HandS.MakeKwOnly
import KE.KStrOpen
import HandS.DictComp
import HandS.Defaults
import KE.OsArith
import HandS.Comp
import HandS.WideBits
import PyProof.TupleOfSeq
import PyProof.ZipIter
import PyProof.CallType
import PyProof.Walk
import PyProof.WalkLemmas
import PyProof.RulesTry
import KE.KExcLine
import PySem.Challenge.RW_sayfill_k06_facts_refused
set_option Elab.async false
set_option linter.all false
set_option maxRecDepth 100000
set_option maxHeartbeats 4000000
/-! dict(x): x a list, or a tuple that is kept as it was made; its pairs lists or tuples of two. And tuples kept so. -/
namespace XD
open PySem PySem.Spec PyProof.Rows L2
/-- a list or a tuple of just these -/
def IsPr (h : Heap) (b : Addr) (items : Array Value) : Prop := IsTup h b items ∨ h.IsList b items
theorem IsPr.lt {h : Heap} {b : Addr} {it : Array Value} (x : IsPr h b it) : b < h.objs.size := by
  rcases x with ⟨o, e, _⟩ | ⟨o, e, _⟩ <;> exact Heap.lt_size e
theorem IsPr.at {h h' : Heap} {b : Addr} {it : Array Value} (x : IsPr h b it) (k : ∀ o, h.get? b = some o → h'.get? b = some o) : IsPr h' b it := by
  rcases x with ⟨o, e, r⟩ | ⟨o, e, r⟩
  · exact .inl ⟨o, k _ e, r⟩
  · exact .inr ⟨o, k _ e, r⟩
structure Iter1 (prog : Program) (w : World) (A : Around) (I l : Addr) (items : Array Value) (St : Nat → Heap → Prop) : Prop where
  item : ∀ {i : Nat} {s : Shared} {x : Value} {Q : Option Value → Shared → Prop} {E : Value → Shared → Prop}, St i s.heap → items[i]? = some x →
    (∀ h', St (i + 1) h' → Heap.SameBut I s.heap h' → Q (some x) { s with heap := h' }) → wpAny (model prog w) A (pyNext (.ref I)) Q E s
  done : ∀ {i : Nat} {s : Shared} {Q : Option Value → Shared → Prop} {E : Value → Shared → Prop}, St i s.heap → items[i]? = none →
    (∀ h', Heap.ExtBut I s.heap h' → Q none { s with heap := h' }) → wpAny (model prog w) A (pyNext (.ref I)) Q E s
  keep : ∀ {i : Nat} {h h' : Heap}, St i h → (∀ b o, b = I ∨ b = l → h.get? b = some o → h'.get? b = some o) → St i h'
section
variable {prog : Program} {w : World} {A : Around} {E : Value → Shared → Prop}
theorem iter_list {I l : Addr} {items : Array Value} (hh : A.handled = none) (hne : l ≠ I) : Iter1 prog w A I l items (fun i h => h.IsListIter I l i ∧ h.IsList l items) where
  item := fun st hx hq => wpAny_pyNext_list_item st.1 st.2 hx fun h' it' same => hq h' ⟨it', st.2.extBut same.extBut hne⟩ same
  done := fun st hx hq => wpAny_pyNext_list_end hh st.1 st.2 hx hq
  keep := fun st k => ⟨st.1.at fun o e => k _ o (.inl rfl) e, st.2.at fun o e => k _ o (.inr rfl) e⟩
theorem iter_tup {I l : Addr} {items : Array Value} (hh : A.handled = none) (hne : l ≠ I) : Iter1 prog w A I l items (fun i h => h.IsTupleIter I l i ∧ h.IsTuple l items) where
  item := fun st hx hq => wpAny_pyNext_tuple_item st.1 st.2 hx fun h' it' same => hq h' ⟨it', st.2.extBut same.extBut hne⟩ same
  done := fun st hx hq => wpAny_pyNext_tuple_end hh st.1 st.2 hx hq
  keep := fun st k => ⟨st.1.at fun o e => k _ o (.inl rfl) e, by
    obtain ⟨o, e, r⟩ := st.2
    exact ⟨o, k _ o (.inr rfl) e, r⟩⟩
/-- the walk over the pairs, whatever walks -/
theorem pair_loop {R : Result → Shared → Prop} {S I l : Addr} {items : Array Value} {St : Nat → Heap → Prop} {res : Value} (W : Iter1 prog w A.in1 I l items St) (hSI : S ≠ I) (hSl : S ≠ l) :
    ∀ (rest : List (Key × Value)) (i : Nat) (acc : List (Key × Value)) (ix : Int) (t : Tok) (s : Shared), items.size = i + rest.length → acc.length + rest.length ≤ sizeLine →
      (∀ (j : Nat) (q : Key × Value), rest[j]? = some q → ∃ (b : Addr) (u : Value), items[i + j]? = some (.ref b) ∧ b ≠ S ∧ b ≠ I ∧ IsPr s.heap b #[u, q.2] ∧ keyIs q.1 u = true) →
      St i s.heap → s.heap.DictOf (mixKind prog w) S acc →
      (∀ h' tk, h'.DictOf (mixKind prog w) S (merged acc rest) → (∀ b o, b ≠ S → b ≠ I → s.heap.get? b = some o → h'.get? b = some o) → R (.ok (.ret res)) { s with heap := h', toks := tk }) →
      codeAny (model prog w) A (.builtin "dict.update.loop" ⟨[.ref S, .ref I, .int ix t, res], []⟩) R s := by
  intro rest
  induction rest with
  | nil =>
    intro i acc ix t s hsz hln ht st hm hR
    refine codeAny_builtin ud_entry ?_
    rw [Around.under_plainId ud_plain _]
    show wpAny _ A.in1 (pyNext (.ref I) >>= _) _ _ s
    refine wpAny_bind (W.done st (by first | exact Array.getElem?_eq_none (Nat.le_of_eq hsz) | (simp at hsz; simp; omega)) fun h' he => ?_)
    show wpAny _ A.in1 (Builtin.Dict.addKeywords S [] >>= _) _ _ _
    refine wpAny_bind (wpAny_pure (wpAny_pure ?_))
    exact hR h' s.toks (hm.extBut he hSI) fun b o _ hb e => he b o hb e
  | cons q rest ih =>
    intro i acc ix t s hsz hln ht st hm hR
    obtain ⟨b, u, hb, hbS, hbI, hpr, hk⟩ := ht 0 q rfl
    rw [List.length_cons] at hsz hln
    refine codeAny_builtin ud_entry ?_
    rw [Around.under_plainId ud_plain _]
    show wpAny _ A.in1 (pyNext (.ref I) >>= _) _ _ s
    refine wpAny_bind (W.item (x := .ref b) st (by simpa using hb) fun h1 st1 hs1 => ?_)
    have pr1 : IsPr h1 b #[u, q.2] := hpr.at fun o e => hs1.extBut b o hbI e
    have hm1 : h1.DictOf (mixKind prog w) S acc := hm.extBut hs1.extBut hSI
    show wpAny _ A.in1 (holding [Value.ref b] _ >>= _) _ _ _
    refine wpAny_bind (wpAny_holding ?_)
    refine wpAny_bind (wpAny_tryCatch ?_)
    unfold Builtin.Dict.pairItems
    -- behind the two items: the store, then the next turn
    have go : wpAny (model prog w) A.in1 (holding [u, q.2] (dictSet S u q.2)) (fun _ s' => ∀ (ix' : Int) (t' : Tok), codeAny (model prog w) A (.builtin "dict.update.loop" ⟨[.ref S, .ref I, .int ix' t', res], []⟩) R s') (fun e s' => R (.error e) s') { s with heap := h1 } := by
      refine wpAny_holding (wpAny_dictSet_pairs (knd := mixKind prog w) (k := q.1) hk hm1 (fun h2 hm2 hs2 => ?_) (by omega))
      intro ix' t'
      refine ih (i + 1) (stored acc q.1 q.2) ix' t' _ (show items.size = i + 1 + rest.length by omega) ?_ (fun j q' e => ?_) ?_ hm2 fun h' tk hd' k => ?_
      · have z := stored_length_le acc q.1 q.2
        omega
      · obtain ⟨b', u', hb', hbS', hbI', hp', hk'⟩ := ht (j + 1) q' (by simpa using e)
        refine ⟨b', u', ?_, hbS', hbI', (hp'.at fun o e => hs1.extBut b' o hbI' e).at fun o e => hs2.extBut b' o hbS' e, hk'⟩
        rw [show i + 1 + j = i + (j + 1) by omega]
        exact hb'
      · exact W.keep st1 fun c o hc e => hs2.extBut c o (by rcases hc with rfl | rfl; exact Ne.symm hSI; exact Ne.symm hSl) e
      · exact hR h' tk hd' fun c oc h3 h4 e => k c oc h3 h4 (hs2.extBut c oc h3 (hs1.extBut c oc h4 e))
    rcases pr1 with ⟨o, ho, hc, n, hd⟩ | ⟨o, ho, hc, n, hd⟩
    · refine wpAny_bind (wpAny_typeOf (T := "tuple") ⟨o, ho, hc⟩ ?_)
      rw [if_pos (by first | decide | rfl | simp)]
      refine wpAny_bind (wpAny_seqItems ho hd (wpAny_pure ?_))
      show wpAny _ A.in1 (holding [u, q.2] (dictSet S u q.2)) _ _ _
      exact wpAny_mono go (fun _ s' z => wpAny_pure ⟨plainId_quiet ud_plain _, z _ _⟩) fun _ _ z => z
    · refine wpAny_bind (wpAny_typeOf (T := "list") ⟨o, ho, hc⟩ ?_)
      rw [if_pos (by first | decide | rfl | simp)]
      refine wpAny_bind (wpAny_seqItems ho hd (wpAny_pure ?_))
      show wpAny _ A.in1 (holding [u, q.2] (dictSet S u q.2)) _ _ _
      exact wpAny_mono go (fun _ s' z => wpAny_pure ⟨plainId_quiet ud_plain _, z _ _⟩) fun _ _ z => z
theorem tuple_no_keys : typeLookup (.type "tuple") "keys" = pure none := am_miss_of_fast (by first | decide +kernel | rfl)
/-- a tuple has no attribute 'keys' -/
theorem miss_tuple {s : Shared} {a : Addr} {o : Obj} {xs : Array Value} {k : Nat} {Q : Option Value → Shared → Prop} (hx : s.heap.get? a = some o) (hc : o.cls = .type "tuple") (hdat : o.data = .seq xs k) (hd : o.dict = none) (hA : A.handled = none)
    (h : ∀ h' tk, (∀ b ob, s.heap.get? b = some ob → h'.get? b = some ob) → Q none { s with heap := h', toks := tk }) : wpAny (model prog w) A (getAttr? (.ref a) "keys") Q E s := by
  obtain ⟨c, dct, dat, sl⟩ := o
  simp only at hc hdat hd
  subst hc hdat hd
  obtain ⟨hp, g, d, tk, os⟩ := s
  have hT : ∀ tk', (⟨hp, g, d, tk', os⟩ : Shared).TypeIs (.ref a) "tuple" := fun _ => ⟨_, hx, rfl⟩
  have hmiss := tuple_no_keys
  have hname : (["__module__", "__name__", "__qualname__", "__doc__", "__annotations__"] : List Str).contains "keys" = false := by decide +kernel
  have hsz : ("keys" : Str).length + 100 ≤ sizeLine := by first | size_fits | decide +kernel
  have f1 := sub_AttributeError
  have f3 := PySem.F.slot_tuple_getattribute.lookup
  have f4 := PySem.F.slot_tuple_getattribute.bind (.ref a)
  have f5 := am_tuple_getattr_none
  unfold getAttr? getAttrBy? getAttrBy
  repeat (any_goals (first | assumption | exact hT _ | ((with_reducible show wpAny _ _ (call (Value.builtin "tuple.__getattribute__") _ _) _ _ _); refine call_meets PySem.F.slot_tuple_getattribute (hT _) am_entry_tuple_getattribute (PySem.F.args_tuple_getattribute_2 _ _) (meets_getattribute_miss_tuple a xs k sl "keys" _ hmiss hname hsz) ⟨hx, hA, fun h' tk' e hx' => ?_⟩) | wp_step))
  obtain ⟨t', u', he⟩ := hx'.there
  show wpAny _ _ (getattributeRaised _ _ _ _ _ _ _) _ _ _
  unfold getattributeRaised
  repeat (any_goals (first | assumption | wp_step))
  all_goals first | exact h _ _ hx'.keeps | (dsimp only; repeat (any_goals (first | assumption | exact h _ _ hx'.keeps | wp_step)))
/-- dict(l), l a list or a tuple -/
theorem dict_pairs {s : Shared} {l : Addr} {ol : Obj} {items : Array Value} {n : Nat} {prs : List (Key × Value)} {Q : Value → Shared → Prop} (hh : A.handled = none) (hl : s.heap.get? l = some ol) (hc : ol.cls = .type "list" ∨ ol.cls = .type "tuple") (hd : ol.dict = none)
    (hdat : ol.data = .seq items n) (hsz : items.size = prs.length) (hln : prs.length ≤ sizeLine)
    (ht : ∀ (j : Nat) (q : Key × Value), prs[j]? = some q → ∃ (b : Addr) (u : Value), items[j]? = some (.ref b) ∧ IsPr s.heap b #[u, q.2] ∧ keyIs q.1 u = true)
    (h : ∀ h' tk, h'.DictOf (mixKind prog w) s.heap.objs.size (merged [] prs) → (∀ b o, s.heap.get? b = some o → h'.get? b = some o) → Q (.ref s.heap.objs.size) { s with heap := h', toks := tk }) :
    wpAny (model prog w) A (call (.type "dict") [.ref l]) Q E s := by
  refine callType_codes (Q₁ := fun obj s₁ => obj = .ref s.heap.objs.size ∧ s₁ = { s with heap := s.heap.push { cls := .type "dict", data := .dict #[] } }) PySem.F.kt_called_dict (PySem.F.kt_typeCall_dict_1 _) PySem.F.entry_dict_init (kt_code_dict_new _ ⟨rfl, rfl⟩) ?_
  rintro obj s₁ ⟨rfl, rfl⟩
  have hnew : (s.heap.push { cls := .type "dict", data := .dict #[] }).DictOf (mixKind prog w) s.heap.objs.size [] := Heap.DictOf.new s.heap
  have k0 : ∀ b o, s.heap.get? b = some o → (s.heap.push { cls := .type "dict", data := .dict #[] }).get? b = some o := fun b o e => Heap.get?_push_of_some _ e
  have lt : l < s.heap.objs.size := Heap.lt_size hl
  refine ⟨hnew.typeIs, PySem.F.args_dict_init_2 _ _, ?_⟩
  unfold Builtin.«dict.__init__»
  refine wpAny_bind ?_
  unfold Builtin.Dict.selfAndRest
  refine wpAny_bind (wpAny_notOrdered_dict hnew.typeIs ?_)
  show wpAny _ _ (pure (s.heap.objs.size, [Value.ref l])) _ _ _
  refine wpAny_pure ?_
  show wpAny _ _ (Builtin.Dict.updateFrom "dict.__init__" s.heap.objs.size (.ref l) [] .none) _ _ _
  unfold Builtin.Dict.updateFrom
  -- behind the question for 'keys': the iterator, then the walk
  have walk : ∀ {h1 : Heap} {tk1 : Nat} {I : Addr} {it : Obj} {St : Nat → Heap → Prop}, Iter1 prog w A.in1.in1 I l items St → (∀ b o, (s.heap.push { cls := .type "dict", data := .dict #[] }).get? b = some o → h1.get? b = some o) → I = h1.objs.size → St 0 (h1.push it) →
      codeAny (model prog w) A.in1 (.builtin "dict.update.loop" ⟨[.ref s.heap.objs.size, .ref I, .int 0 0, .none], []⟩) (wants (fun r s₂ => r = .none ∧ Q (.ref s.heap.objs.size) s₂) E) { s with heap := h1.push it, toks := tk1 } := by
    intro h1 tk1 I it St W k1 eI st
    have S1 : s.heap.objs.size < h1.objs.size := by
      have e : (s.heap.push { cls := .type "dict", data := .dict #[] }).get? s.heap.objs.size = some { cls := .type "dict", data := .dict #[] } := Heap.get?_push_size _ rfl
      exact Heap.lt_size (k1 _ _ e)
    have k2 : ∀ b o, s.heap.get? b = some o → (h1.push it).get? b = some o := fun b o e => Heap.get?_push_of_some _ (k1 _ _ (k0 _ _ e))
    subst eI
    refine pair_loop (A := A.in1) W (Nat.ne_of_lt S1) (Nat.ne_of_gt lt) prs 0 [] 0 0 { s with heap := h1.push it, toks := tk1 } (by rw [hsz, Nat.zero_add]) (by rw [List.length_nil, Nat.zero_add]; exact hln)
      (fun j q e => ?_) st ((hnew.at fun o e => k1 _ _ e).at fun o e => Heap.get?_push_of_some _ e) (fun h' tk hd' k => ?_)
    · obtain ⟨b, u, e1, e2, e3⟩ := ht j q e
      have hb : b < s.heap.objs.size := e2.lt
      exact ⟨b, u, by rw [Nat.zero_add]; exact e1, Nat.ne_of_lt hb, Nat.ne_of_lt (Nat.lt_trans hb S1), e2.at fun o z => k2 _ _ z, e3⟩
    · exact ⟨rfl, h h' tk hd' fun b o e => k b o (Nat.ne_of_lt (Heap.lt_size e)) (Nat.ne_of_lt (Nat.lt_trans (Heap.lt_size e) S1)) (k2 _ _ e)⟩
  rcases hc with hc | hc
  · refine wpAny_bind (wpAny_typeOf (T := "list") ⟨ol, k0 _ _ hl, hc⟩ ?_)
    rw [if_pos (by first | decide | rfl | simp)]
    refine wpAny_bind (miss_list (k0 _ _ hl) hc hdat hd hh fun h1 tk1 hk1 => ?_)
    rw [if_pos (show (none : Option Value).isNone = true from rfl)]
    refine wpAny_bind (wpAny_rule ?_)
    have hl1 : h1.IsList l items := ⟨ol, hk1 _ _ (k0 _ _ hl), hc, n, hdat⟩
    refine wpAny_bind (wpAny_pyIter_list hl1 ?_)
    have lt1 : l < h1.objs.size := by
      obtain ⟨o, e, _⟩ := hl1
      exact Heap.lt_size e
    have key := walk (tk1 := tk1) (it := { cls := .type "list_iterator", data := .fields #[.ref l, .int 0 0] }) (iter_list (A := A.in1.in1) hh (Nat.ne_of_lt lt1)) hk1 rfl ⟨⟨_, Heap.get?_push_size _ rfl, rfl, rfl⟩, hl1.at fun o e => Heap.get?_push_of_some _ e⟩
    first
      | exact wpAny_pure ⟨plainId_quiet ud_plain _, key⟩
      | exact wpAny_bind (wpAny_pure (wpAny_pure ⟨plainId_quiet ud_plain _, key⟩))
  · refine wpAny_bind (wpAny_typeOf (T := "tuple") ⟨ol, k0 _ _ hl, hc⟩ ?_)
    rw [if_pos (by first | decide | rfl | simp)]
    refine wpAny_bind (miss_tuple (k0 _ _ hl) hc hdat hd hh fun h1 tk1 hk1 => ?_)
    rw [if_pos (show (none : Option Value).isNone = true from rfl)]
    refine wpAny_bind (wpAny_rule ?_)
    have hl1 : h1.IsTuple l items := ⟨ol, hk1 _ _ (k0 _ _ hl), hc, n, hdat⟩
    refine wpAny_bind (wpAny_pyIter_tuple hl1 ?_)
    have lt1 : l < h1.objs.size := by
      obtain ⟨o, e, _⟩ := hl1
      exact Heap.lt_size e
    have key := walk (tk1 := tk1) (it := { cls := .type "tuple_iterator", data := .fields #[.ref l, .int 0 0] }) (iter_tup (A := A.in1.in1) hh (Nat.ne_of_lt lt1)) hk1 rfl ⟨⟨_, Heap.get?_push_size _ rfl, rfl, rfl⟩, by
      obtain ⟨o, e, r⟩ := hl1
      exact ⟨o, Heap.get?_push_of_some _ e, r⟩⟩
    first
      | exact wpAny_pure ⟨plainId_quiet ud_plain _, key⟩
      | exact wpAny_bind (wpAny_pure (wpAny_pure ⟨plainId_quiet ud_plain _, key⟩))
end
end XD

namespace XD
open PySem PySem.Spec PyProof.Rows L2
/-- a tuple that is kept as it was made: it has no dict of its own -/
def SqZ (H : Hp) (a : Addr) (xs : List V) : Prop := ∃ o : Obj, H a = some (.frz o (.tup xs)) ∧ o.dict = none
theorem SqZ.sqT {K : PySem.W.Frag} {H : Hp} {a : Addr} {xs : List V} (h : SqZ H a xs) : SqT K H a xs := by
  obtain ⟨o, e, _⟩ := h
  exact .inl (.inr ⟨o, e⟩)
theorem SqZ.same {H H' : Hp} {a : Addr} {xs : List V} (h : SqZ H a xs) (s : ∀ b o, H b = some o → H' b = some o) : SqZ H' a xs := by
  obtain ⟨o, e, d⟩ := h
  exact ⟨o, s _ _ e, d⟩
section
variable {X : Cx}
theorem prs_of {pins : List (Addr × Obj)} {σ : L2.St} {H : Hp} {s : Shared} (I : Inv X pins σ H s) : ∀ {ps : List Addr} {kvs : List (Key × V)}, Paired (fun p kv => SqT X.K H p [kV kv.1, kv.2] ∨ SqL X.K H p [kV kv.1, kv.2]) ps kvs →
    ∃ prs : List (Key × Value), KV kvs prs ∧ prs.length = ps.length ∧ ∀ (j : Nat) (q : Key × Value), prs[j]? = some q → ∃ (b : Addr) (u : Value), ps[j]? = some b ∧ IsPr s.heap b #[u, q.2] ∧ keyIs q.1 u = true
  | _, _, .nil => ⟨[], .nil, rfl, fun j q e => by simp at e⟩
  | _, _, .cons (a := p) (b := kv) h t => by
    obtain ⟨prs, r, hl, hp⟩ := prs_of I t
    obtain ⟨u, y, ru, ry, ht⟩ : ∃ u y, RelV (kV kv.1) u ∧ RelV kv.2 y ∧ IsPr s.heap p #[u, y] := by
      rcases h with h | h
      · obtain ⟨its, rv, ht, _⟩ := I.tuple h
        obtain ⟨u, y, ei, ru, ry⟩ := vals2 rv
        subst ei
        exact ⟨u, y, ru, ry, .inl ht⟩
      · obtain ⟨its, rv, ht, _⟩ := I.list h
        obtain ⟨u, y, ei, ru, ry⟩ := vals2 rv
        subst ei
        exact ⟨u, y, ru, ry, .inr ht.isList⟩
    refine ⟨(kv.1, y) :: prs, .cons ⟨rfl, ry⟩ r, by rw [List.length_cons, List.length_cons, hl], fun j q e => ?_⟩
    cases j with
    | zero =>
      have e' : (kv.1, y) = q := Option.some.inj e
      subst e'
      exact ⟨p, u, rfl, ht, kV_is (P := X.prog) (w := X.w) ru⟩
    | succ j =>
      obtain ⟨b, u', e1, e2, e3⟩ := hp j q (by simpa using e)
      exact ⟨b, u', by simpa using e1, e2, e3⟩
def rDictZ (K : PySem.W.Frag) : List V → Hp → VK → Prop := fun xs H Q => ∃ (a : Addr) (ps : List Addr) (kvs : List (Key × V)), xs = [.ref a] ∧ (SqL K H a (ps.map V.ref) ∨ SqZ H a (ps.map V.ref)) ∧
  Paired (fun p kv => SqT K H p [kV kv.1, kv.2] ∨ SqL K H p [kV kv.1, kv.2]) ps kvs ∧ ∀ p, H p = none → Q (.ref p) (upd H p (.dK (mergeK [] kvs)))
/-- dict(xs) of a list or a kept tuple of pairs -/
theorem call_dictZ (hcalm : X.calm = true) : CallR X (.type "dict") (rDictZ X.K) := by
  intro pins s σ H xs us Q I r q
  obtain ⟨a, ps, kvs, rfl, hq, hp, q⟩ := q
  obtain ⟨u, rfl, rx⟩ := vals1 r
  cases rx
  obtain ⟨prs, rel, hl, hpr⟩ := prs_of I hp
  obtain ⟨o, n, ho, hc, hd, hdat, hz⟩ : ∃ (o : Obj) (n : Nat), s.heap.get? a = some o ∧ (o.cls = .type "list" ∨ o.cls = .type "tuple") ∧ o.dict = none ∧ o.data = .seq (ps.map Value.ref).toArray n ∧ ps.length ≤ sizeLine := by
    rcases hq with hq | ⟨o, e, hd⟩
    · obtain ⟨its, rv, pl, hz⟩ := I.list hq
      have ei := refs_at rv
      subst ei
      obtain ⟨o, n, ho, hc, hd, hdat⟩ := pl
      exact ⟨o, n, ho, .inl hc, hd, hdat, by rw [List.length_map] at hz; exact hz⟩
    · have ok : ObjOk X.prog X.w H s.heap a (.frz o (.tup (ps.map V.ref))) := I.hok a _ e
      obtain ⟨ho, hz, its, rv, o2, ho2, hc, n, hdat⟩ := ok
      rw [ho] at ho2
      cases ho2
      have ei := refs_at rv
      subst ei
      exact ⟨o, n, ho, .inr hc, hd, hdat, by rw [List.length_map] at hz; exact hz⟩
  refine dict_pairs (prs := prs) (I.ok.hd hcalm) ho hc hd hdat (by simp [hl]) (by rw [hl]; exact hz) (fun j q' e => ?_) fun h' tk hd' k => ?_
  · obtain ⟨b, u, e1, e2, e3⟩ := hpr j q' e
    exact ⟨b, u, by simp [e1], e2, e3⟩
  · have hm : (s.heap.objs.size == sysModules) = false := beq_eq_false_iff_ne.mpr (Nat.ne_of_gt I.big)
    have hlen : (mergeK [] kvs).length ≤ sizeLine := by
      refine Nat.le_trans (length_mergeK kvs []) ?_
      rw [List.length_nil, Nat.zero_add, rel.length, hl]
      exact hz
    exact ⟨.ref s.heap.objs.size, upd H s.heap.objs.size (.dK (mergeK [] kvs)), I.laid (t' := tk) k (Nat.le_refl _) (show ObjOk X.prog X.w _ _ _ (.dK (mergeK [] kvs)) from ⟨hlen, hm, merged [] prs, KV.merge rel .nil, hd'⟩), rfl, q _ (I.hok.fresh (Nat.le_refl _))⟩
/-- tuple(xs) of a list: a tuple that is kept; of a tuple: itself -/
def rTupZ (K : PySem.W.Frag) : List V → Hp → VK → Prop := fun xs H Q => ∃ (p : Addr) (ys : List V), xs = [.ref p] ∧
  ((SqL K H p ys ∧ ∀ l o, H l = none → o.dict = none → Q (.ref l) (upd H l (.frz o (.tup ys)))) ∨ (SqT K H p ys ∧ Q (.ref p) H))
theorem call_tupZ : CallR X (.type "tuple") (rTupZ X.K) := by
  intro pins s σ H xs us Q I r h
  obtain ⟨p, ys, rfl, h⟩ := h
  obtain ⟨u, rfl, rx⟩ := vals1 r
  cases rx
  rcases h with ⟨hq, q⟩ | ⟨hq, q⟩
  · obtain ⟨its, r', pl, hz⟩ := I.list hq
    have hlen := r'.length
    refine call_tuple_list pl.isList (fun h' kp => ?_) (by simp only [List.size_toArray] <;> omega)
    have I1 : Inv X pins σ H { s with heap := h' } := I.kept (t' := s.toks) kp
    have I2 : Inv X pins σ (upd H h'.objs.size (.frz { cls := .type "tuple", data := .seq its.toArray } (.tup ys))) { s with heap := h'.push { cls := .type "tuple", data := .seq its.toArray } } :=
      I1.laid (t' := s.toks) (fun b o e => Heap.get?_push_of_some _ e) (Nat.le_refl _) (show ObjOk X.prog X.w _ _ _ (.frz _ (.tup ys)) from ⟨Heap.get?_push_size _ rfl, hz, its, r', IsTup.new _ _⟩)
    exact ⟨.ref h'.objs.size, _, I2, rfl, q _ _ (I1.hok.fresh (Nat.le_refl _)) rfl⟩
  · obtain ⟨its, r', pl, hz⟩ := I.tuple hq
    exact call_tuple_same pl ⟨.ref p, H, I, rfl, q⟩
/-- a written tuple, kept as it is made -/
def tTupZ (t : TA) : TE := fun σ H Q => t σ H fun xs H1 => xs.length ≤ sizeLine ∧ ∀ p o, H1 p = none → o.dict = none → Q (.ref p) (upd H1 p (.frz o (.tup xs)))
theorem pe_tupZ {es : List Expr} {t : TA} {x1 : Nat} {pos : Pos} (h : PA X es t) : PE X (.Tuple es x1 pos) (tTupZ t) := by
  refine ⟨fun pins s σ H Q I hq => ?_⟩
  refine wpAny_Tuple_spliced (thn (h.run pos pins s σ H _ I hq) fun us s1 ⟨xs, H1, I1, r, z, q⟩ => ⟨by rw [← r.length]; exact z, ?_⟩)
  have hf : H1 s1.heap.objs.size = none := I1.hok.fresh (Nat.le_refl _)
  refine ⟨.ref s1.heap.objs.size, upd H1 s1.heap.objs.size (.frz { cls := .type "tuple", data := .seq us.toArray } (.tup xs)), I1.laid (t' := s1.toks) (fun b u e => Heap.get?_push_of_some _ e) (Nat.le_refl _) ?_, rfl, q _ _ hf rfl⟩
  exact ⟨Heap.get?_push_size _ rfl, z, us, r, ⟨_, Heap.get?_push_size _ rfl, rfl, _, rfl⟩⟩
end
end XD
set_option Elab.async false
set_option linter.all false
set_option maxRecDepth 100000
set_option maxHeartbeats 4000000
/-! len(set(xs)): xs a list or a tuple of texts, however many are alike. -/
namespace XS
open PySem PySem.Spec PyProof.Rows
/-- how many unlike ones are among the first i -/
def un (xs : List Str) : Nat → Nat
  | 0 => 0
  | i + 1 => if (xs.take i).any (· == xs.getD i Str.empty) = true then un xs i else un xs i + 1
theorem un_le (xs : List Str) : ∀ i, un xs i ≤ i
  | 0 => Nat.le_refl 0
  | i + 1 => by
    have := un_le xs i
    unfold un
    split <;> omega
theorem take_next {xs : List Str} {i : Nat} (h : i < xs.length) : xs.take (i + 1) = xs.take i ++ [xs.getD i Str.empty] := by
  rw [List.take_succ_eq_append_getElem h, List.getD_eq_getElem?_getD, List.getElem?_eq_getElem h]
  rfl
theorem any_next {xs : List Str} {i : Nat} (h : i < xs.length) (k : Str) : (xs.take (i + 1)).any (· == k) = ((xs.take i).any (· == k) || decide (k = xs.getD i Str.empty)) := by
  rw [take_next h, List.any_append]
  congr 1
  by_cases e : k = xs.getD i Str.empty
  · rw [decide_eq_true e, e]
    simp
  · rw [decide_eq_false e]
    simp
    exact fun z => e z.symm
theorem un_nodup (xs : List Str) : ∀ i, i ≤ xs.length → (un xs i = i ↔ (xs.take i).Nodup)
  | 0, _ => by simp [un]
  | i + 1, h => by
    have lt : i < xs.length := h
    have ih := un_nodup xs i (Nat.le_of_lt lt)
    have le := un_le xs i
    rw [take_next lt, List.nodup_append]
    unfold un
    by_cases e : (xs.take i).any (· == xs.getD i Str.empty) = true
    · rw [if_pos e]
      obtain ⟨y, hy, z⟩ := List.any_eq_true.mp e
      have z' : y = xs.getD i Str.empty := beq_iff_eq.mp z
      constructor
      · intro q
        omega
      · rintro ⟨_, _, q⟩
        exact absurd z' (q y hy _ (List.mem_singleton.mpr rfl))
    · rw [if_neg e]
      constructor
      · intro q
        refine ⟨ih.mp (by omega), by simp, fun a ha b hb ab => e (List.any_eq_true.mpr ⟨a, ha, ?_⟩)⟩
        rw [List.mem_singleton.mp hb] at ab
        exact beq_iff_eq.mpr ab
      · rintro ⟨q, _, _⟩
        have := ih.mpr q
        omega
/-- unlike all: as many as there are -/
theorem un_all {xs : List Str} : decide (un xs xs.length = xs.length) = decide xs.Nodup := by
  have h := un_nodup xs xs.length (Nat.le_refl _)
  rw [List.take_length] at h
  exact decide_eq_decide.mpr h
section
variable {prog : Program} {w : World} {A : Around} {R : Result → Shared → Prop} {I : Addr} {fp wr : List Addr} {G : Array GenState → Array GenState → Prop} {n : Nat} {P : Nat → Value → Prop} {St : Nat → Shared → Prop}
theorem set_loop (W : WalksS prog w A.in1 I fp wr G n P St) (S : Addr) (hSf : S ∉ fp) (xs : List Str) (hsz : xs.length = n) (hb : n + 1 < scanBound)
    (hval : ∀ i v, P i v → ∃ t, v = .str (xs.getD i Str.empty) t) :
    ∀ (k i : Nat) (s : Shared), n - i = k → i ≤ n → St i s → s.heap.SetOf (PySem.strKind prog w) S (fun k' => (xs.take i).any (· == k')) (un xs i) →
      (∀ s', Moved (S :: wr) G s s' → s'.heap.SetOf (PySem.strKind prog w) S (fun k' => (xs.take n).any (· == k')) (un xs n) → R (.ok (.ret .none)) s') →
      codeAny (model prog w) A (.builtin "set.update.loop" ⟨[.ref S, .ref I], []⟩) R s := by
  have hSw : S ∉ wr := fun h => hSf (W.sub _ h)
  have more : ∀ b ∈ wr, b ∈ S :: wr := fun b hb => List.mem_cons_of_mem _ hb
  intro k
  induction k with
  | zero =>
    intro i s hk hi hst hS hR
    obtain rfl : i = n := by omega
    refine codeAny_builtin PyProof.Rows.F.entry_set_update_loop ?_
    rw [Around.under_plainId PyProof.Rows.F.plain_set_update_loop _]
    show wpAny _ A.in1 (pyNext (.ref I) >>= _) _ _ s
    refine wpAny_bind (W.done s _ _ hst fun s' hm => ?_)
    show wpAny _ A.in1 (ret Value.none) _ _ s'
    refine wpAny_pure (hR s' (hm.mono more) ?_)
    obtain ⟨o, es, ep, t, ho, rest⟩ := hS
    exact ⟨o, es, ep, t, hm.heap S _ hSw ho, rest⟩
  | succ k ih =>
    intro i s hk hi hst hS hR
    have hlt : i < n := by omega
    have hlx : i < xs.length := by omega
    refine codeAny_builtin PyProof.Rows.F.entry_set_update_loop ?_
    rw [Around.under_plainId PyProof.Rows.F.plain_set_update_loop _]
    show wpAny _ A.in1 (pyNext (.ref I) >>= _) _ _ s
    refine wpAny_bind (W.item i s _ _ hlt hst fun v s' hP hst' hm => ?_)
    obtain ⟨t, rfl⟩ := hval i v hP
    have hS' : s'.heap.SetOf (PySem.strKind prog w) S (fun k' => (xs.take i).any (· == k')) (un xs i) := by
      obtain ⟨o, es, ep, tb, ho, rest⟩ := hS
      exact ⟨o, es, ep, tb, hm.heap S _ hSw ho, rest⟩
    show wpAny _ A.in1 (holding [Value.str (xs.getD i Str.empty) t] (setAdd S (.str (xs.getD i Str.empty) t)) >>= _) _ _ s'
    refine wpAny_bind (wpAny_holding ?_)
    unfold setAdd
    refine wpAny_holding ?_
    refine wpAny_bind ((PySem.strKind prog w).pyHash (k := xs.getD i Str.empty) (strKind_is _ _ _ _) ?_)
    have room : un xs i + 1 < scanBound := by
      have := un_le xs i
      omega
    refine wpAny_setAddHashed_of (knd := PySem.strKind prog w) (s := { s' with toks := s'.toks + 1 }) (strKind_is _ _ _ _) rfl hS' room fun h' hsb hS2 => ?_
    have next : h'.SetOf (PySem.strKind prog w) S (fun k' => (xs.take (i + 1)).any (· == k')) (un xs (i + 1)) :=
      SetOf_congr hS2 (fun k' => (any_next hlx k').symm) rfl
    refine wpAny_pure ⟨plainId_quiet PyProof.Rows.F.plain_set_update_loop _, ih (i + 1) _ (by omega) hlt (W.frame _ s' _ _ hst' (Nat.le_succ _) fun b hb o e => ?_) next fun s'' hm'' hS'' => ?_⟩
    · rw [hsb.2 b (fun h : b = S => hSf (by rw [← h]; exact hb))]
      exact e
    · refine hR s'' (Moved.trans W.gtrans ((hm.mono more).then_heap (Nat.le_succ _) fun b o hb e => ?_) hm'') hS''
      rw [hsb.2 b (fun h : b = S => hb (by rw [h]; exact List.mem_cons_self))]
      exact e
end
section
variable {prog : Program} {w : World} {A : Around} {E : Value → Shared → Prop} {s : Shared}
set_option maxHeartbeats 8000000 in
theorem call_set_strs {l : Addr} {items : Array Value} {xs : List Str} {Q : Value → Shared → Prop} (hh : A.handled = none) (hl : s.heap.IsList l items ∨ s.heap.IsTuple l items) (hi : PyProof.Rows.StrsAre items.toList xs) (hb : xs.length + 1 < scanBound)
    (h : ∀ (h' : Heap) (tk : Nat), h'.SetOf (PySem.strKind prog w) s.heap.objs.size (fun k' => (xs.take items.size).any (· == k')) (un xs items.size) →
      (∀ b o, b < s.heap.objs.size → s.heap.get? b = some o → h'.get? b = some o) → Q (.ref s.heap.objs.size) { s with heap := h', toks := tk }) :
    wpAny (model prog w) A (call (.type "set") [.ref l]) Q E s := by
  obtain ⟨c, tl, hmro⟩ := PySem.F.called_set.mro
  have hmade := PySem.F.called_set.made
  have hsub := PySem.F.called_set.sub
  refine wpAny_call (codeAny_of_tree ?_)
  show wpAny _ _ (callAny (.type "set") _) _ _ _
  refine wpAny_pure ⟨Code.quiet_builtin _ (by decide +kernel), codeAny_builtin PySem.F.entry_type_call ?_⟩
  rw [Around.under_plain (weight_type_call_type "set" [.ref l] []) rfl]
  have h1 := PySem.F.called_set.notType
  have h2 := PySem.F.called_set.canCreate
  have hct := PySem.F.typeCall_set_1 (.ref l)
  repeat (any_goals (first | assumption | wp_step))
  refine codeAny_mono (code_set_new_1 (.ref l) (E := E) (Q₁ := fun obj s₁ => ∃ led : Bool, obj = .ref s.heap.objs.size ∧ s₁ = { s with heap := s.heap.push { cls := .type "set", dict := none, data := .set #[] 0 (.fresh 0 0 led) } }) fun led => ⟨led, rfl, rfl⟩) fun r s₁ hr => ?_
  have hsz : xs.length = items.size := by
    rw [← StrsAre.len_eq hi, Array.length_toList]
  have hval : ∀ (i : Nat) (v : Value), items[i]? = some v → ∃ t, v = .str (xs.getD i Str.empty) t := fun i v hv => SS.strs_at hi i v (by rw [Array.getElem?_toList]; exact hv)
  cases r with
  | error e => exact hr
  | ok fl =>
    cases fl with
    | ret obj =>
      obtain ⟨led, rfl, rfl⟩ := hr
      have hS : (s.heap.push { cls := .type "set", dict := none, data := .set #[] 0 (.fresh 0 0 led) }).get? s.heap.objs.size = some { cls := .type "set", dict := none, data := .set #[] 0 (.fresh 0 0 led) } := Heap.get?_push_size _ rfl
      have hT : Shared.TypeIs { s with heap := s.heap.push { cls := .type "set", dict := none, data := .set #[] 0 (.fresh 0 0 led) } } (.ref s.heap.objs.size) "set" := ⟨_, hS, rfl⟩
      have hli := PySem.F.called_set.init.lookup
      have hbi := PySem.F.called_set.init.bind (.ref s.heap.objs.size)
      repeat (any_goals (first | assumption | wp_step))
      refine codeAny_mono (codeAny_call_builtin (R := wants (fun r s₂ => r = .none ∧ ∃ h' tk, s₂ = { s with heap := h', toks := tk } ∧
          h'.SetOf (PySem.strKind prog w) s.heap.objs.size (fun k' => (xs.take items.size).any (· == k')) (un xs items.size) ∧
          (∀ b o, b < s.heap.objs.size → s.heap.get? b = some o → h'.get? b = some o)) E) PySem.F.called_set.init.plain PySem.F.entry_set_init (check_set_init_1 hT ?_)) fun r₂ s₂ hr₂ => ?_
      · -- behind the iterator at I of the object it: the walk, then the end
        have walk : ∀ {it : Obj} {B : Around} {Rr : Result → Shared → Prop} {St : Nat → Shared → Prop} {P : Nat → Value → Prop},
            WalksS prog w B.in1 (s.heap.push { cls := .type "set", dict := none, data := .set #[] 0 (.fresh 0 0 led) }).objs.size [(s.heap.push { cls := .type "set", dict := none, data := .set #[] 0 (.fresh 0 0 led) }).objs.size, l] [(s.heap.push { cls := .type "set", dict := none, data := .set #[] 0 (.fresh 0 0 led) }).objs.size] (fun a b => b = a) items.size P St →
            l < s.heap.objs.size → (∀ i v, P i v → items[i]? = some v) → St 0 { s with heap := (s.heap.push { cls := .type "set", dict := none, data := .set #[] 0 (.fresh 0 0 led) }).push it } →
            (∀ h' tk, h'.SetOf (PySem.strKind prog w) s.heap.objs.size (fun k' => (xs.take items.size).any (· == k')) (un xs items.size) → (∀ b o, b < s.heap.objs.size → s.heap.get? b = some o → h'.get? b = some o) → Rr (.ok (.ret .none)) { s with heap := h', toks := tk }) →
            codeAny (model prog w) B (.builtin "set.update.loop" ⟨[.ref s.heap.objs.size, .ref (s.heap.push { cls := .type "set", dict := none, data := .set #[] 0 (.fresh 0 0 led) }).objs.size], []⟩) Rr { s with heap := (s.heap.push { cls := .type "set", dict := none, data := .set #[] 0 (.fresh 0 0 led) }).push it } := by
          intro it B Rr St P W lt hP st0 fin
          have hSf : s.heap.objs.size ∉ [(s.heap.push { cls := .type "set", dict := none, data := .set #[] 0 (.fresh 0 0 led) }).objs.size, l] := by
            rw [Heap.size_push]
            simp only [List.mem_cons, List.mem_singleton, List.not_mem_nil, or_false, not_or]
            exact ⟨Nat.ne_of_lt (Nat.lt_succ_self _), Nat.ne_of_gt lt⟩
          refine set_loop W s.heap.objs.size hSf xs hsz (by omega) (fun i v p => hval i v (hP i v p)) (items.size - 0) 0 _ (by omega) (Nat.zero_le _) st0 ?hS0 ?hR
          case hS0 =>
            have hget : ((s.heap.push { cls := .type "set", dict := none, data := .set #[] 0 (.fresh 0 0 led) }).push it).get? s.heap.objs.size = some { cls := .type "set", dict := none, data := .set #[] 0 (.fresh 0 0 led) } := Heap.get?_push_of_some _ hS
            exact PyProof.Rows.SetOf_congr ((PyProof.Rows.setObjOf_fresh (knd := PySem.strKind prog w) led).setOf hget (by unfold scanBound; omega)) (fun _ => rfl) rfl
          case hR =>
            intro s' hm hS'
            obtain ⟨h', g', d', tk', os'⟩ := s'
            have eg : g' = s.gens := hm.gens
            have ed : d' = s.drawn := hm.drawn
            have eo : os' = s.os := hm.os
            subst eg
            subst ed
            subst eo
            refine fin h' tk' hS' fun b o hb e => ?_
            have n1 : b ≠ s.heap.objs.size := Nat.ne_of_lt hb
            have n2 : b ≠ (s.heap.push { cls := .type "set", dict := none, data := .set #[] 0 (.fresh 0 0 led) }).objs.size := by
              rw [Heap.size_push]
              exact Nat.ne_of_lt (Nat.lt_succ_of_lt hb)
            exact hm.heap b o (by simp only [List.mem_cons, List.mem_singleton, List.not_mem_nil, or_false, not_or]; exact ⟨n1, n2⟩) (Heap.get?_push_of_some _ (Heap.get?_push_of_some _ e))
        have hh3 : A.in1.in1.in1.handled = none := by
          simp [hh]
        rcases hl with hl | hl
        · obtain ⟨ol, hol, hcl, nl, hdl⟩ := hl
          obtain ⟨ocls, odict, odata, oslots⟩ := ol
          simp only at hcl hdl
          subst hcl
          subst hdl
          have hol' : (s.heap.push { cls := .type "set", dict := none, data := .set #[] 0 (.fresh 0 0 led) }).get? l = some { cls := .type "list", dict := odict, data := .seq items nl, slots := oslots } := Heap.get?_push_of_some _ hol
          have hsls := PySem.F.sub_list_set
          have hslf := PySem.F.sub_list_frozenset
          have hne : (Value.type "list" == Value.type "dict") = false := by decide
          have hl1 : (s.heap.push { cls := .type "set", dict := none, data := .set #[] 0 (.fresh 0 0 led) }).IsList l items := ⟨_, hol', rfl, nl, rfl⟩
          have lt : l < s.heap.objs.size := Heap.lt_size hol
          have hneI : l ≠ (s.heap.push { cls := .type "set", dict := none, data := .set #[] 0 (.fresh 0 0 led) }).objs.size := by
            rw [Heap.size_push]
            exact Nat.ne_of_lt (Nat.lt_succ_of_lt lt)
          unfold Builtin.«set.__init__» noKeywords Builtin.Frozenset.updateFrom
          generalize hPI : pyIter = PI
          wp_walk
          subst hPI
          refine wpAny_pyIter_list hl1 ?_
          refine wpAny_bind (wpAny_runValue ?_)
          refine walk ((Walks.list hh3 _ l hneI items).toS) lt (fun _ _ z => z) ⟨⟨_, Heap.get?_push_size _ rfl, rfl, rfl⟩, (hl1.push _)⟩ fun h' tk' hS' hk' => ?_
          show wpAny _ _ _ _ _ _
          refine wpAny_pure ?_
          show wpAny _ _ (ret Value.none) _ _ _
          exact wpAny_pure ⟨rfl, h', tk', rfl, hS', hk'⟩
        · obtain ⟨ol, hol, hcl, nl, hdl⟩ := hl
          obtain ⟨ocls, odict, odata, oslots⟩ := ol
          simp only at hcl hdl
          subst hcl
          subst hdl
          have hol' : (s.heap.push { cls := .type "set", dict := none, data := .set #[] 0 (.fresh 0 0 led) }).get? l = some { cls := .type "tuple", dict := odict, data := .seq items nl, slots := oslots } := Heap.get?_push_of_some _ hol
          have hsls := PySem.F.sub_tuple_set
          have hslf := PySem.F.sub_tuple_frozenset
          have hne : (Value.type "tuple" == Value.type "dict") = false := by decide
          have hl1 : (s.heap.push { cls := .type "set", dict := none, data := .set #[] 0 (.fresh 0 0 led) }).IsTuple l items := ⟨_, hol', rfl, nl, rfl⟩
          have lt : l < s.heap.objs.size := Heap.lt_size hol
          have hneI : l ≠ (s.heap.push { cls := .type "set", dict := none, data := .set #[] 0 (.fresh 0 0 led) }).objs.size := by
            rw [Heap.size_push]
            exact Nat.ne_of_lt (Nat.lt_succ_of_lt lt)
          unfold Builtin.«set.__init__» noKeywords Builtin.Frozenset.updateFrom
          generalize hPI : pyIter = PI
          wp_walk
          subst hPI
          refine wpAny_pyIter_tuple hl1 ?_
          refine wpAny_bind (wpAny_runValue ?_)
          refine walk ((Walks.tuple hh3 _ l hneI items).toS) lt (fun _ _ z => z) ⟨⟨_, Heap.get?_push_size _ rfl, rfl, rfl⟩, (hl1.push _)⟩ fun h' tk' hS' hk' => ?_
          show wpAny _ _ _ _ _ _
          refine wpAny_pure ?_
          show wpAny _ _ (ret Value.none) _ _ _
          exact wpAny_pure ⟨rfl, h', tk', rfl, hS', hk'⟩
      · cases r₂ with
        | error e => exact hr₂
        | ok fl₂ =>
          cases fl₂ with
          | ret r =>
            obtain ⟨rfl, h', tk, rfl, hS', hk'⟩ := hr₂
            repeat (any_goals (first | assumption | wp_step))
            exact h _ _ hS' hk'
          | _ => exact hr₂.elim
    | _ => exact hr.elim
end
end XS

namespace XS
open PySem PySem.Spec PyProof.Rows L2
/-- len(set(xs)), xs a list or a tuple of texts -/
def tLenS (K : PySem.W.Frag) (ta : TE) : TE := fun σ H Q => ta σ H fun x H1 => ∃ (l : Addr) (xs : List Str), x = .ref l ∧ (SqL K H1 l (xs.map V.str) ∨ SqT K H1 l (xs.map V.str)) ∧ xs.length ≤ 1000 ∧ Q (.int (un xs xs.length : Nat)) H1
theorem pe_lenS {X : Cx} {a : Expr} {ta : TE} {p p2 q pos : Pos} (hc : X.calm = true) (hg : Gl X "len") (hm : X.mg "len" = none) (hg2 : Gl X "set") (hm2 : X.mg "set" = none) (ha : PE X a ta)
    (na : starEach [a] X.env = (false, eval a X.env) :: starEach [] X.env := by rfl) : PE X (.Call (.Name "len" p) [.Call (.Name "set" p2) [a] [] q] [] pos) (tLenS X.K ta) := by
  refine ⟨fun pins s σ H Q I h => ?_⟩
  refine Call_ (ld_blt I hg hm boot_len ?_)
  refine PyProof.Rows.callWith_builtin1 (PyProof.Rows.args_cons ?_ rfl) rfl rfl
  refine Call_ (ld_blt I hg2 hm2 boot_set ?_)
  refine PyProof.Rows.callWith_type1 (PyProof.Rows.args_cons (thn (ha.run pins s σ H _ I h) fun v s1 ⟨x, H1, I1, r1, q1⟩ => PyProof.Rows.args_nil ?_) na) na rfl
  obtain ⟨l, xs, rfl, hq, h1, q1⟩ := q1
  cases r1
  have small : xs.length + 1 < scanBound := by
    unfold scanBound
    omega
  obtain ⟨its, r, hl⟩ : ∃ its : List Value, Vals (xs.map V.str) its ∧ (s1.heap.IsList l its.toArray ∨ s1.heap.IsTuple l its.toArray) := by
    rcases hq with hq | hq
    · obtain ⟨its, r, pl, _⟩ := I1.list hq
      exact ⟨its, r, .inl pl.isList⟩
    · obtain ⟨its, r, pl, _⟩ := I1.tuple hq
      exact ⟨its, r, .inr pl⟩
  have hlen : its.toArray.size = xs.length := by
    rw [List.size_toArray, ← r.length, List.length_map]
  refine call_set_strs (I1.ok.hd hc) hl (by simpa using strsAre_of r) small fun h' tk hS hk => ?_
  refine PyProof.Rows.args_nil ?_
  rw [hlen] at hS
  obtain ⟨o, es, ep, t, ho, hex, hd, _, _, _, hf, hn⟩ := hS
  have I2 : Inv X pins σ H1 { s1 with heap := h', toks := tk } := I1.kept fun b o e => hk b o (Heap.lt_size e) e
  have := un_le xs xs.length
  exact call_len_set ho hex hd hf (by rw [hn] <;> omega) ⟨.int (un xs xs.length : Nat), H1, I2.tok _, ⟨_, by rw [hn]⟩, q1⟩
end XS
set_option Elab.async false
set_option linter.all false
set_option maxRecDepth 100000
set_option maxHeartbeats 4000000
namespace Q
open PySem L2
def top (i : Nat) : Stmt := PySem.Challenge.pw_sayfill_k06_facts_refused.main.body.getD i (.Pass ⟨0, 0, 0, 0⟩)
abbrev sWall : Stmt := top 1
abbrev sIsRow : Stmt := top 4
abbrev sIsPair : Stmt := top 5
abbrev sIsSmall : Stmt := top 6
abbrev sIsWord : Stmt := top 7
abbrev sUnlike : Stmt := top 8
abbrev sAreFacts : Stmt := top 9
abbrev sInSeq : Stmt := top 10
abbrev sETalkError : Stmt := top 12
abbrev sEBadValue : Stmt := top 13
abbrev sEBadField : Stmt := top 14
abbrev sETooMany : Stmt := top 15
abbrev sRowsThatFit : Stmt := top 17
abbrev sETable : Stmt := top 18
abbrev sTblInit : Stmt := inClass sETable 0
abbrev sTblRows : Stmt := inClass sETable 1
abbrev sTblFitting : Stmt := inClass sETable 2
abbrev sTblFirst : Stmt := inClass sETable 3
abbrev sTblParts : Stmt := inClass sETable 4
abbrev sTblOpenFields : Stmt := inClass sETable 5
abbrev sTblClash : Stmt := inClass sETable 6
abbrev sBars : Stmt := top 19
abbrev sOneStands : Stmt := top 20
abbrev sFillings : Stmt := top 22
abbrev sPossible : Stmt := top 23
abbrev sTwoWays : Stmt := top 24
abbrev sOpenFields : Stmt := top 25
abbrev sForced : Stmt := top 26
abbrev sClash : Stmt := top 27
abbrev sPlace : Stmt := top 28
abbrev sValuesThere : Stmt := top 29
abbrev sAllPossible : Stmt := top 30
abbrev sForm : Stmt := top 37
abbrev sInit : Stmt := inClass sForm 0
abbrev sFieldsM : Stmt := inClass sForm 1
abbrev sRulesM : Stmt := inClass sForm 2
abbrev sEqM : Stmt := inClass sForm 3
abbrev sAreFields : Stmt := top 38
abbrev sAreValues : Stmt := top 39
abbrev sAreRules : Stmt := top 40
abbrev sWays : Stmt := top 41
abbrev sEach : Stmt := top 42
abbrev sTape : Stmt := top 44
abbrev sLoad : Stmt := top 45
abbrev sDraw : Stmt := top 46
abbrev sNames : Stmt := top 47
abbrev sSame : Stmt := top 48
abbrev sModel : Stmt := top 49
abbrev sChosen : Stmt := top 50
abbrev sSheet : Stmt := top 51
abbrev sRows : Stmt := top 52
abbrev sToldRow : Stmt := top 53
abbrev sKnown : Stmt := top 54
abbrev sHanded : Stmt := top 55
abbrev sFitting : Stmt := top 56
abbrev sLIsRow : Stmt := top 57
abbrev sLAreFacts : Stmt := top 58
abbrev sIsField : Stmt := top 59
abbrev sCalled : Stmt := top 60
abbrev sLTold : Stmt := top 61
abbrev sOddPair : Stmt := top 62
abbrev sOddFacts : Stmt := top 63
abbrev sThing : Stmt := top 64
abbrev sRight : Stmt := top 65
abbrev sLaw : Stmt := top 66
end Q
set_option Elab.async false
set_option linter.all false
set_option maxRecDepth 100000
set_option maxHeartbeats 4000000
namespace Q
open PySem L2
end Q
/-! ### data: what may be handed in -/
namespace Q
open PySem L2
theorem seqT_same {K : PySem.W.Frag} {H H' : Hp} {a : Addr} {xs : List V} (s : Same H H') (h : SqT K H a xs) : SqT K H' a xs := by
  rcases h with (h | ⟨o, h⟩) | h
  · exact .inl (.inl (s _ _ h))
  · exact .inl (.inr ⟨o, s _ _ h⟩)
  · exact .inr h
mutual
theorem dp_same {K : PySem.W.Frag} {H H' : Hp} (s : Same H H') : ∀ {v : V} {d : PyData}, Dp K H v d → Dp K H' v d
  | _, _, .non => .non
  | _, _, .bl b => .bl b
  | _, _, .int i => .int i
  | _, _, .str x => .str x
  | _, _, .lst h a => .lst (s.seq h) (dps_same s a)
  | _, _, .tup h a => .tup (seqT_same s h) (dps_same s a)
theorem dps_same {K : PySem.W.Frag} {H H' : Hp} (s : Same H H') : ∀ {vs : List V} {ds : List PyData}, DpAll K H vs ds → DpAll K H' vs ds
  | _, _, .nil => .nil
  | _, _, .cons h t => .cons (dp_same s h) (dps_same s t)
end
theorem dps_len {K : PySem.W.Frag} {H : Hp} : ∀ {vs : List V} {ds : List PyData}, DpAll K H vs ds → vs.length = ds.length
  | _, _, .nil => rfl
  | _, _, .cons _ t => by rw [List.length_cons, List.length_cons, dps_len t]
theorem dps_get {K : PySem.W.Frag} {H : Hp} : ∀ {vs : List V} {ds : List PyData} {i : Nat} {v : V}, DpAll K H vs ds → vs[i]? = some v → ∃ d, ds[i]? = some d ∧ Dp K H v d
  | _, _, _, _, .nil, e => by simp at e
  | _, _, 0, v, .cons h _, e => by
    simp at e
    subst e
    exact ⟨_, rfl, h⟩
  | _, _, i + 1, v, .cons _ t, e => by
    obtain ⟨d, h1, h2⟩ := dps_get (i := i) (v := v) t (by simpa using e)
    exact ⟨d, by simpa using h1, h2⟩
def tyName : PyData → String
  | .none => "NoneType"
  | .bool _ => "bool"
  | .int _ => "int"
  | .str _ => "str"
  | .list _ => "list"
  | .tuple _ => "tuple"
  | .dict _ => "dict"
theorem tyD {K : PySem.W.Frag} {H : Hp} {v : V} {d : PyData} (h : Dp K H v d) : TyX K H v (.type (tyName d)) := by
  cases h with
  | non => exact .base .non
  | bl b => exact .base (.bl b)
  | int i => exact .base (.int i)
  | str x => exact .base (.str x)
  | lst h _ =>
    rcases h with (h | ⟨o, h⟩) | ⟨o, its, n, h, c, _⟩
    · exact .base (.lst h)
    · exact .base (.frz h)
    · exact .kList h c
  | tup h _ =>
    rcases h with (h | ⟨o, h⟩) | ⟨o, its, n, h, c, _⟩
    · exact .base (.tup h)
    · exact .fTuple h
    · exact .kTuple h c
/-! ### the mirror -/
def rowOf : PyData → Option (List PyData)
  | .list xs => some xs
  | .tuple xs => some xs
  | _ => none
def isRow (d : PyData) : Bool := (rowOf d).isSome
def isPair (d : PyData) : Bool := match rowOf d with
  | some xs => decide (xs.length = 2)
  | none => false
def isStr : PyData → Bool
  | .str _ => true
  | _ => false
/-- a to z, as the program asks it -/
def az (c : Nat) : Bool := !decide (([c] : List Nat) < ("a" : Str).cps.toList) && !decide (("z" : Str).cps.toList < [c])
def word (s : Str) : Bool := decide (1 ≤ s.length) && decide (s.length ≤ 8) && s.cps.toList.all az
def isWord : PyData → Bool
  | .str s => word s
  | _ => false
theorem no_dict {K : PySem.W.Frag} {H : Hp} {v : V} {kvs : List (PyData × PyData)} : ¬ Dp K H v (.dict kvs) := fun h => by cases h
theorem kit_str {K : PySem.W.Frag} {d : PyData} (h : ∀ kvs, d ≠ .dict kvs) : PySem.W.kitOne K (.type (tyName d)) (.type "str") = some (isStr d) := by
  cases d with
  | dict kvs => exact absurd rfl (h kvs)
  | none => exact kit_ty (a := "NoneType") (b := "str") (by show kitB "NoneType" "str" = some false; decide +kernel)
  | bool b => exact kit_ty (a := "bool") (b := "str") (by show kitB "bool" "str" = some false; decide +kernel)
  | int i => exact kit_ty (a := "int") (b := "str") (by show kitB "int" "str" = some false; decide +kernel)
  | str s => exact kit_ty (a := "str") (b := "str") (by show kitB "str" "str" = some true; decide +kernel)
  | list xs => exact kit_ty (a := "list") (b := "str") (by show kitB "list" "str" = some false; decide +kernel)
  | tuple xs => exact kit_ty (a := "tuple") (b := "str") (by show kitB "tuple" "str" = some false; decide +kernel)
theorem kit_row {K : PySem.W.Frag} {d : PyData} (h : ∀ kvs, d ≠ .dict kvs) : PySem.W.kitAny K (.type (tyName d)) [.type "list", .type "tuple"] = some (isRow d) := by
  have no : ∀ {a : String}, kitB a "list" = some false → kitB a "tuple" = some false → PySem.W.kitAny K (.type a) [.type "list", .type "tuple"] = some false := fun h1 h2 =>
    kitAny_cons (kit_ty h1) (fun _ => kitAny_cons (kit_ty h2) (fun _ => kitAny_nil) (fun z => Bool.noConfusion z)) (fun z => Bool.noConfusion z)
  cases d with
  | dict kvs => exact absurd rfl (h kvs)
  | none => exact no (by decide +kernel) (by decide +kernel)
  | bool b => exact no (a := "bool") (by decide +kernel) (by decide +kernel)
  | int i => exact no (a := "int") (by decide +kernel) (by decide +kernel)
  | str s => exact no (a := "str") (by decide +kernel) (by decide +kernel)
  | list xs => exact kitAny_cons (b := true) (kit_ty (a := "list") (by decide +kernel)) (fun z => Bool.noConfusion z) (fun _ => rfl)
  | tuple xs => exact kitAny_cons (b := false) (kit_ty (a := "tuple") (by decide +kernel)) (fun _ => kitAny_cons (b := true) (kit_ty (a := "tuple") (by decide +kernel)) (fun z => Bool.noConfusion z) (fun _ => rfl)) (fun z => Bool.noConfusion z)
theorem dp_no_dict {K : PySem.W.Frag} {H : Hp} {v : V} {d : PyData} (h : Dp K H v d) : ∀ kvs, d ≠ .dict kvs := fun kvs e => no_dict (e ▸ h)
/-- the strings in it are no longer than 1,000,000 -/
def Short : PyData → Prop
  | .str s => s.length ≤ 1000000
  | _ => True
theorem new_same {H : Hp} {p : Addr} (h : H p = none) (o : HO) : Same H (upd H p o) := fun b u q => by
  rw [upd_ne (ne_of_none q h)]
  exact q
theorem row_len {K : PySem.W.Frag} {H : Hp} {v : V} {d : PyData} {xs : List PyData} (h : Dp K H v d) (r : rowOf d = some xs) : ∃ (p : Addr) (ys : List V), v = .ref p ∧ (SqL K H p ys ∨ SqT K H p ys) ∧ DpAll K H ys xs := by
  cases h with
  | lst h a =>
    cases r
    exact ⟨_, _, rfl, .inl h, a⟩
  | tup h a =>
    cases r
    exact ⟨_, _, rfl, .inr h, a⟩
  | _ => cases r
/-! ### promises -/
structure Bb (mg : Str → Option Value) : Prop where
  isi : mg "isinstance" = none
  list : mg "list" = none
  tup : mg "tuple" = none
  str : mg "str" = none
  len : mg "len" = none
  all : mg "all" = none
  set : mg "set" = none
  dict : mg "dict" = none
  ml : ∃ t, mg "MOST_LETTERS" = some (.int 8 t)
def spIsRow (K : PySem.W.Frag) : Sp := fun vs H Q _ => ∃ (v : V) (d : PyData), vs = [v] ∧ Dp K H v d ∧ ∀ H', Same H H' → Q (.bl (isRow d)) H'
def spIsPair (K : PySem.W.Frag) : Sp := fun vs H Q _ => ∃ (v : V) (d : PyData), vs = [v] ∧ Dp K H v d ∧ ∀ H', Same H H' → Q (.bl (isPair d)) H'
def spIsWord (K : PySem.W.Frag) : Sp := fun vs H Q _ => ∃ (v : V) (d : PyData), vs = [v] ∧ Dp K H v d ∧ Short d ∧ ∀ H', Same H H' → Q (.bl (isWord d)) H'
section
variable {P : Program} {w : World} {K : PySem.W.Frag} {mg : Str → Option Value} {base : Heap}
theorem scIsRow : FnScope ["thing"] ["thing"] (defScope sIsRow) := ⟨rfl, rfl, rfl, by decide +kernel, rfl, by decide +kernel, by decide +kernel⟩
theorem ok_isrow {f : Addr} {fd : FuncData} (F : Fun K "is_row" "is_row" sIsRow f fd) (T : Bb mg) : FnOk P w K mg base CX0 1 f fd ["thing"] (spIsRow K) := by
  refine F.ok scIsRow (fun vs H Q E h => ?_) (fun cdv A outer s H vs Q E hr h => ?_)
  · obtain ⟨v, d, rfl, _⟩ := h
    rfl
  obtain ⟨v, d, rfl, hd, k⟩ := h
  have vl : PySem.bootBuiltins "list" = some (.type "list") := by decide +kernel
  have vt : PySem.bootBuiltins "tuple" = some (.type "tuple") := by decide +kernel
  refine ⟨_, pss_one (ps_ret (pe_callB call_isiT rfl T.isi (by decide +kernel) (pa_cons (pv 0) (pa_cons (pe_tup (pa_cons (pe_bltn (v := .ty "list") rfl T.list vl rfl) (pa_cons (pe_bltn (v := .ty "tuple") rfl T.tup vt rfl) pa_nil))) pa_nil)))), ?_⟩
  refine ⟨_, rfl, (by show 2 ≤ sizeLine; decide), fun p hp => ?_⟩
  have s := new_same hp (.tup [.ty "list", .ty "tuple"])
  exact ⟨_, p, _, _, _, _, rfl, upd_same, .cons (.ty _) (.cons (.ty _) .nil), tyD (dp_same s hd), kit_row (dp_no_dict hd), k _ s⟩
theorem scIsPair : FnScope ["thing"] ["thing"] (defScope sIsPair) := ⟨rfl, rfl, rfl, by decide +kernel, rfl, by decide +kernel, by decide +kernel⟩
theorem ok_ispair {f fR : Addr} {fd fdR : FuncData} (F : Fun K "is_pair" "is_pair" sIsPair f fd) (T : Bb mg) (GR : FnOk P w K mg base CX0 1 fR fdR ["thing"] (spIsRow K)) (kR : PySem.W.keepIn K (.ref fR) = true) (bR : Binds K fdR ["thing"] []) (mR : mg "is_row" = some (.ref fR)) :
    FnOk P w K mg base CX0 2 f fd ["thing"] (spIsPair K) := by
  refine F.ok scIsPair (fun vs H Q E h => ?_) (fun cdv A outer s H vs Q E hr h => ?_)
  · obtain ⟨v, d, rfl, _⟩ := h
    rfl
  obtain ⟨v, d, rfl, hd, k⟩ := h
  refine ⟨_, pss_one (ps_ret (pe_and (pe_call GR hr rfl mR kR bR .nil pass0 (pa_cons (pv 0) pa_nil)) (pe_one (pe_cmpR op_eq (pe_callB call_len_seq rfl T.len PySem.boot_len (pa_cons (pv 0) pa_nil)) pe_int (nomark _))))), ?_⟩
  refine ⟨_, rfl, v, d, rfl, hd, fun H1 s1 => ⟨_, rfl, ?_⟩⟩
  cases e : rowOf d with
  | none =>
    have e1 : isRow d = false := by
      unfold isRow
      rw [e]
      rfl
    have e2 : isPair d = false := by
      unfold isPair
      rw [e]
    rw [e1]
    refine iteF ?_
    have q := k H1 s1
    rwa [e2] at q
  | some xs =>
    have e1 : isRow d = true := by
      unfold isRow
      rw [e]
      rfl
    obtain ⟨p, ys, rfl, hs, ha⟩ := row_len (dp_same s1 hd) e
    have e2 : isPair d = decide (V.int (ys.length : Int) = V.int 2) := by
      unfold isPair
      rw [e]
      show decide (xs.length = 2) = _
      rw [← dps_len ha]
      exact decide_eq_decide.mpr ⟨fun z => by rw [z]; rfl, fun z => by have := V.int.inj z; omega⟩
    rw [e1]
    refine iteT ⟨_, rfl, p, ys, rfl, hs, rfl, ?_⟩
    have q := k H1 s1
    rwa [e2] at q
end
end Q
set_option Elab.async false
set_option linter.all false
set_option maxRecDepth 100000
set_option maxHeartbeats 4000000
/-! ### is_word -/
namespace Q
open PySem L2
theorem iteDT {p A B : Prop} [Decidable p] (hp : p) (h : A) : if decide p = true then A else B := by
  rw [decide_eq_true hp]
  exact iteT h
theorem iteDF {p A B : Prop} [Decidable p] (hp : ¬ p) (h : B) : if decide p = true then A else B := by
  rw [decide_eq_false hp]
  exact iteF h
theorem iteB {b : Bool} {A B : Prop} (h1 : b = true → A) (h2 : b = false → B) : if b = true then A else B := by
  cases b
  · exact iteF (h2 rfl)
  · exact iteT (h1 rfl)
theorem q_is {Q : VK} {H : Hp} {c d : Bool} (h : c = d) (q : Q (.bl d) H) : Q (.bl c) H := by
  rw [h]
  exact q
theorem small1000 {n : Nat} (h : n ≤ 1000) : n < sizeLine := by
  have : 1000 < sizeLine := by decide
  omega
/-- isinstance(x, T) -/
theorem pe_isi {X : Cx} {e1 : Expr} {t1 : TE} {T : Str} {tn : String} {p p2 pos : Pos} (hi : X.mg "isinstance" = none) (hm : X.mg T = none) (hv : PySem.bootBuiltins T = some (.type tn)) (h1 : PE X e1 t1)
    (g1 : Gl X "isinstance" := by rfl) (g2 : Gl X T := by rfl) (hn : T ≠ "__name__" := by decide) (hd : (T == ("__debug__" : Str)) = false := by decide)
    (he : starEach (e1 :: [.Name T p2]) X.env = (false, eval e1 X.env) :: starEach [.Name T p2] X.env := by rfl) (hpl : (backTo pos (starEach [.Name T p2] X.env)).any (·.1) = false := by rfl)
    (he2 : starEach (Expr.Name T p2 :: []) X.env = (false, eval (.Name T p2) X.env) :: starEach [] X.env := by rfl) :
    PE X (.Call (.Name "isinstance" p) [e1, .Name T p2] [] pos) (tCB (rIsi X.K) (tCons t1 (tCons (tC (.ty tn)) tNil))) :=
  pe_callB call_isi g1 hi (by decide +kernel) (pa_cons h1 (pa_cons (pe_bltn (v := .ty tn) g2 hm hv rfl hn hd) pa_nil he2) he) (he := he) (hpl := hpl)
theorem take_one {α : Type} {xs : List α} {i : Nat} {x : α} (h : xs[i]? = some x) : xs.take (i + 1) = xs.take i ++ [x] := by
  rw [List.take_add_one, h]
  rfl
section
variable {P : Program} {w : World} {K : PySem.W.Frag} {mg : Str → Option Value} {base : Heap}
theorem scIsSmall : FnScope ["string", "sign"] ["string"] (defScope sIsSmall) := ⟨rfl, rfl, rfl, by decide +kernel, rfl, by decide +kernel, by decide +kernel⟩
/-- small letters, one or more -/
def small (x : Str) : Bool := decide (0 < x.length) && x.cps.toList.all az
def spIsSmall : Sp := fun vs H Q _ => ∃ x : Str, vs = [.str x] ∧ x.length ≤ 1000 ∧ ∀ H', Same H H' → Q (.bl (small x)) H'
theorem ok_issmall {f : Addr} {fd : FuncData} (F : Fun K "is_small" "is_small" sIsSmall f fd) (T : Bb mg) : FnOk P w K mg base CX0 1 f fd ["string"] spIsSmall := by
  refine F.ok scIsSmall (fun vs H Q E h => ?_) (fun cdv A outer s H vs Q E hr h => ?_)
  · obtain ⟨x, rfl, _⟩ := h
    rfl
  obtain ⟨x, rfl, hx, k⟩ := h
  refine ⟨_, pss_one (ps_ret (pe_and (pe_cmpR op_gt (pe_callB call_len_str rfl T.len PySem.boot_len (pa_cons (pv 0) pa_nil)) pe_int (nomark _))
    (pe_one (pe_callB (cr_all (by rfl)) rfl T.all (by decide +kernel) (pa_cons (pe_lc (own := [("sign", 1)]) (g := gName 1) (tt := tYes) (by rfl) scIsSmall.nd (pi_str (pv 0)) (blkOk_by (N := ["string", "sign"]) (sc := defScope sIsSmall) (by decide +kernel))
      (fun _ _ _ _ _ => pg_name (i := 1) scIsSmall.nd rfl (.inl rfl)) (fun _ _ _ _ _ => pts_nil) (fun _ _ _ _ _ => pe_chain op_le_str op_le_str pe_str (pv 1) pe_str)) pa_nil))))), ?_⟩
  have hsz : x.length ≤ sizeLine := by
    have : 1000 ≤ sizeLine := by decide
    omega
  refine ⟨_, rfl, x, rfl, hsz, _, _, rfl, rfl, _, rfl, ?_⟩
  by_cases h0 : (0 : Int) < (x.length : Int)
  · refine iteDT h0 ?_
    refine ⟨_, rfl, x, rfl, fun D hD => lc_it (walk_str (z := x)) (fun i H' => H' D = some (.lst (((x.cps.toList.take i).map az).map V.bl)) ∧ Same H H') ⟨upd_same, new_same hD _⟩ (fun _ _ _ _ => trivial) (fun i c H1 H2 hi hP hY => ?_) (fun H' hP => ?_)⟩
    · obtain ⟨hL, s1⟩ := hP
      obtain ⟨rfl, c1, hc, rfl⟩ := hY
      have hc2 : x.cps.toList[i]? = some c1 := by
        rw [Array.getElem?_toList]
        exact hc
      have fin : ∀ b : Bool, b = az c1 → ∃ acc, H2 D = some (.lst acc) ∧ acc.length < sizeLine ∧ (fun H' => H' D = some (.lst (((x.cps.toList.take (i + 1)).map az).map V.bl)) ∧ Same H H') (upd H2 D (.lst (acc ++ [.bl b]))) := fun b e => by
        refine ⟨_, hL, small1000 ?_, ?_, fun b o q => ?_⟩
        · rw [List.length_map, List.length_map, List.length_take, Array.length_toList]
          have : x.cps.size = x.length := rfl
          omega
        · rw [upd_same, take_one hc2, List.map_append, List.map_append, e]
          rfl
        · rw [upd_ne (ne_of_none q hD)]
          exact s1 _ _ q
      refine ⟨rfl, ?_⟩
      unfold tYes
      refine iteT ⟨_, rfl, _, _, rfl, rfl, _, rfl, iteB (fun e1 => ⟨_, _, rfl, rfl, fin _ ?_⟩) (fun e1 => fin _ ?_)⟩
      · unfold az
        have e2 : (!decide (([c1] : List Nat) < ("a" : Str).cps.toList)) = true := e1
        rw [e2, Bool.true_and]
      · unfold az
        have e2 : (!decide (([c1] : List Nat) < ("a" : Str).cps.toList)) = false := e1
        rw [e2, Bool.false_and]
    · obtain ⟨hL, s1⟩ := hP
      rw [List.take_of_length_le (by rw [Array.length_toList]; exact Nat.le_refl _)] at hL
      refine ⟨_, _, rfl, SqL.of hL, q_is ?_ (k _ s1)⟩
      show ((x.cps.toList.map az).all id) = small x
      unfold small
      rw [decide_eq_true (by omega : 0 < x.length), List.all_map]
      rfl
  · refine iteDF h0 (q_is ?_ (k H (Same.refl H)))
    show false = small x
    unfold small
    rw [decide_eq_false (by omega : ¬ 0 < x.length), Bool.false_and]
theorem scIsWord : FnScope ["thing"] ["thing"] (defScope sIsWord) := ⟨rfl, rfl, rfl, by decide +kernel, rfl, by decide +kernel, by decide +kernel⟩
theorem ok_isword {f fM : Addr} {fd fdM : FuncData} (F : Fun K "is_word" "is_word" sIsWord f fd) (T : Bb mg) (GM : FnOk P w K mg base CX0 1 fM fdM ["string"] spIsSmall) (kM : PySem.W.keepIn K (.ref fM) = true) (bM : Binds K fdM ["string"] []) (mM : mg "is_small" = some (.ref fM)) :
    FnOk P w K mg base CX0 2 f fd ["thing"] (spIsWord K) := by
  refine F.ok scIsWord (fun vs H Q E h => ?_) (fun cdv A outer s H vs Q E hr h => ?_)
  · obtain ⟨v, d, rfl, _⟩ := h
    rfl
  obtain ⟨v, d, rfl, hd, hs, k⟩ := h
  obtain ⟨tML, hML⟩ := T.ml
  have vs_ : PySem.bootBuiltins "str" = some (.type "str") := by decide +kernel
  refine ⟨_, pss_one (ps_ret (pe_and (pe_isi T.isi T.str vs_ (pv 0)) (pe_and (pe_cmpR op_le (pe_callB call_len_str rfl T.len PySem.boot_len (pa_cons (pv 0) pa_nil)) (pe_glob (v := .int 8) (by rfl) hML ⟨_, rfl⟩) (nomark _))
    (pe_one (pe_call GM hr rfl mM kM bM .nil pass0 (pa_cons (pv 0) pa_nil)))))), ?_⟩
  have ki := kit_str (K := K) (dp_no_dict hd)
  refine ⟨_, rfl, _, _, _, _, _, rfl, .ty _, tyD hd, ki, _, rfl, ?_⟩
  cases hd with
  | str x =>
    have hx : x.length ≤ 1000000 := hs
    have hsz : x.length ≤ sizeLine := by
      have : 1000000 ≤ sizeLine := by decide
      omega
    refine iteT ⟨_, rfl, x, rfl, hsz, _, _, rfl, rfl, _, rfl, ?_⟩
    by_cases h8 : (x.length : Int) ≤ 8
    · refine iteDT h8 ⟨_, rfl, x, rfl, by omega, fun H1 s1 => q_is ?_ (k H1 s1)⟩
      show small x = word x
      unfold small word
      rw [decide_eq_true (by omega : x.length ≤ 8), Bool.and_true]
      rfl
    · refine iteDF h8 (q_is (d := isWord (.str x)) ?_ (k H (Same.refl H)))
      show false = word x
      unfold word
      rw [decide_eq_false (by omega : ¬ x.length ≤ 8), Bool.and_false, Bool.false_and]
  | _ => exact iteF (k H (Same.refl H))
end
end Q
set_option Elab.async false
set_option linter.all false
set_option maxRecDepth 100000
set_option maxHeartbeats 4000000
/-! ### are_unlike_words -/
namespace Q
open PySem L2
def strOf : PyData → Str
  | .str s => s
  | _ => Str.empty
def textsOf (ds : List PyData) : List Str := ds.map strOf
def unlike (ds : List PyData) : Bool := ds.all isWord && decide (textsOf ds).Nodup
theorem words_vals {K : PySem.W.Frag} {H : Hp} : ∀ {ys : List V} {ds : List PyData}, DpAll K H ys ds → ds.all isWord = true → ys = (textsOf ds).map V.str
  | _, _, .nil, _ => rfl
  | _, _, .cons h t, e => by
    rw [List.all_cons, Bool.and_eq_true] at e
    rw [words_vals t e.2]
    cases h with
    | str x => rfl
    | _ => exact absurd e.1 (by intro z; cases z)
theorem words_int {n m : Nat} : decide (V.int (n : Int) = V.int (m : Int)) = decide (n = m) :=
  decide_eq_decide.mpr ⟨fun z => by have := V.int.inj z; omega, fun z => by rw [z]⟩
def spUnlike (K : PySem.W.Frag) : Sp := fun vs H Q _ => ∃ (p : Addr) (ys : List V) (ds : List PyData), vs = [.ref p] ∧ (SqL K H p ys ∨ SqT K H p ys) ∧ DpAll K H ys ds ∧ (∀ d ∈ ds, Short d) ∧ ds.length ≤ 1000 ∧ ∀ H', Same H H' → Q (.bl (unlike ds)) H'
/-- over a list or a tuple -/
def iRow (K : PySem.W.Frag) (te : TE) : TI := fun σ H R => iList K te σ H R ∨ iTup K te σ H R
theorem pi_row {X : Cx} {tg e : Expr} {te : TE} (he : PE X e te) : PI X tg e (iRow X.K te) :=
  ⟨fun pins s σ H R I h => h.elim (fun q => (pi_list he).run pins s σ H R I q) (fun q => (pi_tup he).run pins s σ H R I q)⟩
theorem sq_same {K : PySem.W.Frag} {H H' : Hp} {p : Addr} {ys : List V} (s : Same H H') (h : SqL K H p ys ∨ SqT K H p ys) : SqL K H' p ys ∨ SqT K H' p ys :=
  h.elim (fun q => .inl (s.seq q)) (fun q => .inr (seqT_same s q))
/-- a comprehension over a list or a tuple that its turns leave as it is -/
theorem lc_row {K : PySem.W.Frag} {p : Addr} {ys : List V} {t0 : TE} {g : TG} {tt : TT} {te : TE} {vs : List Nat} {σ : St} {H : Hp} {Q : VK} (Pv : Addr → Nat → Hp → Prop) (ht : ∀ Q' : VK, Q' (.ref p) H → t0 σ H Q') (hq : SqL K H p ys ∨ SqT K H p ys)
    (h0 : ∀ D, H D = none → Pv D 0 (upd H D (.lst []))) (hG : ∀ D i H', H D = none → Pv D i H' → Same H H')
    (hs : ∀ D i x H', H D = none → i < ys.length → Pv D i H' → ys[i]? = some x → g x (wipe σ vs) H' fun σ2 H2 => wipe σ2 vs = wipe σ vs ∧ tt σ2 H2 fun b H3 =>
      if b = true then te σ2 H3 fun y H4 => ∃ acc, H4 D = some (.lst acc) ∧ acc.length < sizeLine ∧ Pv D (i + 1) (upd H4 D (.lst (acc ++ [y]))) else Pv D (i + 1) H3)
    (hd : ∀ D H', H D = none → Pv D ys.length H' → Q (.ref D) H') : tLc (iRow K t0) g tt te vs σ H Q := by
  rcases hq with hq | hq
  · refine .inl (ht _ ⟨p, rfl, ⟨ys, hq⟩, fun D hD => lc_it walk_list (Pv D) (h0 D hD) (fun i H' _ hP => (hG D i H' hD hP).seq hq) (fun i x H1 H2 hi hP hY => ?_) (fun H' hP => hd D H' hD hP)⟩)
    obtain ⟨rfl, hx⟩ := hY
    exact hs D i x H2 hD hi hP hx
  · refine .inr (ht _ ⟨p, rfl, ⟨ys, hq⟩, fun D hD => lc_it walk_tup (Pv D) (h0 D hD) (fun i H' _ hP => seqT_same (hG D i H' hD hP) hq) (fun i x H1 H2 hi hP hY => ?_) (fun H' hP => hd D H' hD hP)⟩)
    obtain ⟨rfl, hx⟩ := hY
    exact hs D i x H2 hD hi hP hx
section
variable {P : Program} {w : World} {K : PySem.W.Frag} {mg : Str → Option Value} {base : Heap}
theorem scUnlike : FnScope ["things", "thing"] ["things"] (defScope sUnlike) := ⟨rfl, rfl, rfl, by decide +kernel, rfl, by decide +kernel, by decide +kernel⟩
theorem ok_unlike {f fW : Addr} {fd fdW : FuncData} (F : Fun K "are_unlike_words" "are_unlike_words" sUnlike f fd) (T : Bb mg) (GW : FnOk P w K mg base CX0 2 fW fdW ["thing"] (spIsWord K)) (kW : PySem.W.keepIn K (.ref fW) = true) (bW : Binds K fdW ["thing"] []) (mW : mg "is_word" = some (.ref fW)) :
    FnOk P w K mg base CX0 3 f fd ["things"] (spUnlike K) := by
  refine F.ok scUnlike (fun vs H Q E h => ?_) (fun cdv A outer s H vs Q E hr h => ?_)
  · obtain ⟨p, ys, ds, rfl, _⟩ := h
    rfl
  obtain ⟨p, ys, ds, rfl, hq, ha, hs, hn, k⟩ := h
  have hlen := dps_len ha
  refine ⟨_, pss_one (ps_ret (pe_and (pe_callB (cr_all (by rfl)) rfl T.all (by decide +kernel) (pa_cons (pe_lc (own := [("thing", 1)]) (g := gName 1) (tt := tYes) (by rfl) scUnlike.nd (pi_row (pv 0)) (blkOk_by (N := ["things", "thing"]) (sc := defScope sUnlike) (by decide +kernel))
      (fun _ _ _ _ _ => pg_name (i := 1) scUnlike.nd rfl (.inl rfl)) (fun _ _ _ _ _ => pts_nil) (fun _ _ _ _ _ => pe_call GW hr rfl mW kW bW .nil pass0 (pa_cons (pv 1) pa_nil))) pa_nil))
    (pe_one (pe_cmpR op_eq (XS.pe_lenS (by rfl) rfl T.len rfl T.set (pv 0)) (pe_callB call_len_seq rfl T.len PySem.boot_len (pa_cons (pv 0) pa_nil)) (nomark _))))), ?_⟩
  unfold tRet tAndV tCB tCons
  show tLc (iRow K (tVar 0)) (gName 1) tYes (tCall (spIsWord K) [] E0 (tCons (tVar 1) tNil)) [1] _ H _
  refine lc_row (ys := ys) (fun D i H' => H' D = some (.lst (((ds.take i).map isWord).map V.bl)) ∧ Same H H') (fun Q' q => ⟨_, rfl, q⟩) hq (fun D hD => ⟨upd_same, new_same hD _⟩) (fun D i H' hD hP => hP.2) (fun D i x H1 hD hi hP hx => ?_) (fun D H' hD hP => ?_)
  · obtain ⟨d, hd, hdp⟩ := dps_get ha hx
    refine ⟨rfl, ?_⟩
    unfold tYes
    refine iteT ⟨_, rfl, x, d, rfl, dp_same hP.2 hdp, hs d (List.mem_of_getElem? hd), fun H2 s2 => ⟨_, s2 _ _ hP.1, small1000 ?_, ?_, fun b o q => ?_⟩⟩
    · rw [List.length_map, List.length_map, List.length_take]
      omega
    · rw [upd_same, take_one hd, List.map_append, List.map_append]
      rfl
    · rw [upd_ne (ne_of_none q hD)]
      exact s2 _ _ (hP.2 _ _ q)
  · obtain ⟨hL, s1⟩ := hP
    rw [List.take_of_length_le (by omega)] at hL
    refine ⟨_, _, rfl, SqL.of hL, _, rfl, iteB (fun e => ?_) (fun e => ?_)⟩
    · have e1 : ds.all isWord = true := by
        rw [List.all_map] at e
        exact e
      have e2 := words_vals ha e1
      have hq1 := sq_same s1 hq
      refine ⟨_, rfl, p, textsOf ds, rfl, by rw [← e2]; exact hq1, by unfold textsOf; rw [List.length_map]; exact hn, _, rfl, p, ys, rfl, hq1, rfl, ?_⟩
      refine q_is ?_ (k _ s1)
      unfold unlike
      rw [e1, Bool.true_and, words_int, ← XS.un_all, e2, List.length_map]
    · refine q_is ?_ (k _ s1)
      unfold unlike
      rw [List.all_map] at e
      have e1 : ds.all isWord = false := e
      rw [e1, Bool.false_and]
end
end Q
set_option Elab.async false
set_option linter.all false
set_option maxRecDepth 100000
set_option maxHeartbeats 4000000
/-! ### are_facts -/
namespace Q
open PySem L2 XD
/-- the values told of a field -/
def look (n : Str) : List (Str × List Str) → Option (List Str)
  | [] => none
  | (m, ws) :: t => if m = n then some ws else look n t
def stands (ws : List Str) (d : PyData) : Bool := (ws.map PyData.str).any fun z => PyData.eqv z d
def pairOf (f : PyData) : Option (PyData × PyData) := match rowOf f with
  | some [a, b] => some (a, b)
  | _ => none
def goFacts (t : List (Str × List Str)) (seen : List Str) : List PyData → Bool
  | [] => true
  | f :: fs => match pairOf f with
    | some (.str n, w) => match look n t with
      | some ws => !seen.contains n && (stands ws w && goFacts t (n :: seen) fs)
      | none => false
    | _ => false
def areFacts (t : List (Str × List Str)) (d : PyData) : Bool := match rowOf d with
  | some fs => decide (fs.length ≤ t.length) && goFacts t [] fs
  | none => false
/-- the fields as a form keeps them -/
inductive TabR (K : PySem.W.Frag) (H : Hp) : List Addr → List (Key × V) → List (Str × List Str) → Prop
  | nil : TabR K H [] [] []
  | cons {q v : Addr} {n : Str} {ws : List Str} {ps : List Addr} {kvs : List (Key × V)} {t : List (Str × List Str)} : SqT K H q [.str n, .ref v] → SqT K H v (ws.map V.str) → (∀ w ∈ ws, PyData.strOk w = true) → TabR K H ps kvs t → TabR K H (q :: ps) ((.inr n, .ref v) :: kvs) ((n, ws) :: t)
def TabAt (K : PySem.W.Frag) (H : Hp) (p : Addr) (t : List (Str × List Str)) : Prop := ∃ (ps : List Addr) (kvs : List (Key × V)), SqZ H p (ps.map V.ref) ∧ TabR K H ps kvs t ∧ (t.map (·.1)).Nodup ∧ t.length ≤ 1000
theorem TabR.same {K : PySem.W.Frag} {H H' : Hp} (s : Same H H') : ∀ {ps : List Addr} {kvs : List (Key × V)} {t : List (Str × List Str)}, TabR K H ps kvs t → TabR K H' ps kvs t
  | _, _, _, .nil => .nil
  | _, _, _, .cons a b o c => .cons (seqT_same s a) (seqT_same s b) o (TabR.same s c)
theorem TabR.len {K : PySem.W.Frag} {H : Hp} : ∀ {ps : List Addr} {kvs : List (Key × V)} {t : List (Str × List Str)}, TabR K H ps kvs t → ps.length = t.length ∧ kvs.map (·.1) = (t.map (·.1)).map Sum.inr
  | _, _, _, .nil => ⟨rfl, rfl⟩
  | _, _, _, .cons a b o c => ⟨by rw [List.length_cons, List.length_cons, (TabR.len c).1], by rw [List.map_cons, List.map_cons, List.map_cons, (TabR.len c).2]⟩
theorem TabR.prs {K : PySem.W.Frag} {H : Hp} : ∀ {ps : List Addr} {kvs : List (Key × V)} {t : List (Str × List Str)}, TabR K H ps kvs t → Paired (fun p (kv : Key × V) => SqT K H p [kV kv.1, kv.2] ∨ SqL K H p [kV kv.1, kv.2]) ps kvs
  | _, _, _, .nil => .nil
  | _, _, _, .cons a b o c => .cons (.inl a) (TabR.prs c)
theorem TabR.val {K : PySem.W.Frag} {H : Hp} {n : Str} : ∀ {ps : List Addr} {kvs : List (Key × V)} {t : List (Str × List Str)}, TabR K H ps kvs t →
    (look n t = none ∧ valV kvs (.inr n) = none) ∨ (∃ ws vp, look n t = some ws ∧ valV kvs (.inr n) = some (.ref vp) ∧ SqT K H vp (ws.map V.str) ∧ ∀ w ∈ ws, PyData.strOk w = true)
  | _, _, _, .nil => .inl ⟨rfl, rfl⟩
  | _, _, _, .cons (n := m) (v := v) (ws := ws) a b o c => by
    by_cases e : m = n
    · subst e
      exact .inr ⟨ws, v, by unfold look; rw [if_pos rfl], valV_pos rfl, b, o⟩
    · have e2 : ¬ (Sum.inr m : Key) = Sum.inr n := fun z => e (Sum.inr.inj z)
      have l1 : ∀ {ws : List Str} {t : List (Str × List Str)}, look n ((m, ws) :: t) = look n t := by
        intro ws t
        show (if m = n then some ws else look n t) = look n t
        rw [if_neg e]
      rcases TabR.val c with ⟨h1, h2⟩ | ⟨ws', vp, h1, h2, h3⟩
      · exact .inl ⟨l1.trans h1, (valV_neg e2).trans h2⟩
      · exact .inr ⟨ws', vp, l1.trans h1, (valV_neg e2).trans h2, h3⟩
theorem merge_nodup : ∀ (kvs acc : List (Key × V)), (∀ kv ∈ kvs, valV acc kv.1 = none) → (kvs.map (·.1)).Nodup → mergeK acc kvs = acc ++ kvs
  | [], acc, _, _ => (List.append_nil acc).symm
  | kv :: kvs, acc, h, hn => by
    rw [List.map_cons, List.nodup_cons] at hn
    show mergeK (putK acc kv.1 kv.2) kvs = _
    have h0 := h kv List.mem_cons_self
    rw [putK_new kv.2 h0, merge_nodup kvs _ (fun kv' hm => ?_) hn.2, List.append_assoc]
    · rfl
    · rw [valV_snoc kv.1 kv'.1 kv.2 acc h0, if_neg (fun z => hn.1 (List.mem_map.mpr ⟨kv', hm, z⟩))]
      exact h kv' (List.mem_cons_of_mem _ hm)
theorem nodup_inr {xs : List Str} (h : xs.Nodup) : (xs.map (Sum.inr : Str → Key)).Nodup := by
  induction xs with
  | nil => exact List.nodup_nil
  | cons x xs ih =>
    rw [List.nodup_cons] at h
    rw [List.map_cons, List.nodup_cons]
    refine ⟨fun z => ?_, ih h.2⟩
    obtain ⟨y, hy, e⟩ := List.mem_map.mp z
    exact h.1 (Sum.inr.inj e ▸ hy)
theorem dps_strs {K : PySem.W.Frag} {H : Hp} : ∀ ws : List Str, DpAll K H (ws.map V.str) (ws.map PyData.str)
  | [] => .nil
  | w :: ws => .cons (.str w) (dps_strs ws)
theorem lay_strs : ∀ ws : List Str, (∀ w ∈ ws, PyData.strOk w = true) → PyData.canLayAll0 (ws.map PyData.str) = true
  | [], _ => by simp [PyData.canLayAll0]
  | w :: ws, h => by simp [PyData.canLayAll0, PyData.canLay0, h w List.mem_cons_self, lay_strs ws fun x hx => h x (List.mem_cons_of_mem _ hx)]
/-- x not in a tuple of texts, x any data -/
def rNotInZ (K : PySem.W.Frag) : R2 := fun x y H Q => ∃ (p : Addr) (ws : List Str) (d : PyData), y = .ref p ∧ SqT K H p (ws.map V.str) ∧ (∀ w ∈ ws, PyData.strOk w = true) ∧ Dp K H x d ∧ SeqAt.shaped d = true ∧ Q (.bl (!stands ws d)) H
theorem op_notInZ {X : Cx} (hu : X.A.units + 65 < cLine) : OpR X (compareOp .NotIn) (rNotInZ X.K) := by
  intro pins s σ H x y v u Q I rx ry h
  obtain ⟨p, ws, d, rfl, hq, ho, hd, sd, q⟩ := h
  cases ry
  obtain ⟨bs, r1⟩ := Dp.reads I d x v hd rx
  obtain ⟨its, rv, pl, hz⟩ := I.tuple hq
  obtain ⟨as, r2⟩ := Dp.readsAll I (ws.map PyData.str) _ its (dps_strs ws) rv
  have r3 : ReadsAll s.heap its.toArray.toList (ws.map PyData.str) as := by simpa using r2
  refine SeqAt.notIn_tupleAt _ pl (SeqAt.items_eqAt r3 r1 (lay_strs ws ho) (SeqAt.canLay_of_shaped sd) (PyProof.Rows.room_in_shaped sd hu)) ⟨.bl _, H, I, rfl, ?_⟩
  rw [SeqAt.any_by_data r3 (lay_strs ws ho)]
  exact q
/-- a, b = a list or a tuple of that length -/
def gRow (K : PySem.W.Frag) (n : Nat) (t : TGs) : TG := fun v σ H Q => gTup K n t v σ H Q ∨ gLst K n t v σ H Q
theorem pg_row {X : Cx} {es : List Expr} {k : Nat} {t : TGs} {n : Nat} {pos : Pos} (hc : X.calm = true) (h : PGs X es t)
    (hn : (assignEach es X.env).length = n := by rfl) (hst : (assignEach es X.env).findIdx? (·.1) = none := by rfl) : PG X (.Tuple es k pos) (gRow X.K n t) :=
  ⟨fun pins s σ H v u Q I r hw => hw.elim (fun q => (pg_tup hc h hn hst).run pins s σ H v u Q I r q) (fun q => (pg_lst hc h hn hst).run pins s σ H v u Q I r q)⟩
/-- a walk over a list or a tuple that its turns leave as it is -/
theorem for_row {K : PySem.W.Frag} {p : Addr} {ys : List V} {t0 : TE} {g : TG} {tb : TS} {D : Ends} {σ : L2.St} {H0 H : Hp} (Pv : Nat → L2.St → Hp → Prop) (ht : ∀ Q' : VK, Q' (.ref p) H → t0 σ H Q') (hq : SqL K H0 p ys ∨ SqT K H0 p ys) (h0 : Pv 0 σ H) (hG : ∀ i σ H', Pv i σ H' → Same H0 H')
    (hs : ∀ i x σ H', i < ys.length → Pv i σ H' → ys[i]? = some x → g x σ H' fun σ2 H2 => tb { D with nx := Pv (i + 1), ct := Pv (i + 1), bk := D.nx } σ2 H2) (hd : ∀ σ H', Pv ys.length σ H' → D.nx σ H') : tFor (iRow K t0) g tb D σ H := by
  have s0 := hG 0 σ H h0
  rcases hq with hq | hq
  · refine .inl (ht _ ⟨p, rfl, ⟨ys, s0.seq hq⟩, for_it walk_list Pv h0 (fun i σ H' _ hP => (hG i σ H' hP).seq hq) (fun i x σ H1 H2 hi hP hY => ?_) hd⟩)
    obtain ⟨rfl, hx⟩ := hY
    exact hs i x σ H2 hi hP hx
  · refine .inr (ht _ ⟨p, rfl, ⟨ys, seqT_same s0 hq⟩, for_it walk_tup Pv h0 (fun i σ H' _ hP => seqT_same (hG i σ H' hP) hq) (fun i x σ H1 H2 hi hP hY => ?_) hd⟩)
    obtain ⟨rfl, hx⟩ := hY
    exact hs i x σ H2 hi hP hx
theorem pair_yes {f : PyData} (h : isPair f = true) : ∃ a b, pairOf f = some (a, b) ∧ rowOf f = some [a, b] := by
  unfold isPair at h
  unfold pairOf
  cases e : rowOf f with
  | none =>
    rw [e] at h
    cases h
  | some xs =>
    rw [e] at h
    have h2 : xs.length = 2 := of_decide_eq_true h
    match xs, h2 with
    | [a, b], _ => exact ⟨a, b, rfl, rfl⟩
theorem pair_no {f : PyData} (h : isPair f = false) : pairOf f = none := by
  unfold isPair at h
  unfold pairOf
  cases e : rowOf f with
  | none => rfl
  | some xs =>
    rw [e] at h
    have h2 : ¬ xs.length = 2 := of_decide_eq_false h
    match xs, h2 with
    | [], _ => rfl
    | [_], _ => rfl
    | [_, _], h => exact absurd rfl h
    | _ :: _ :: _ :: _, _ => rfl
theorem go_none {t : List (Str × List Str)} {seen : List Str} {f : PyData} {fs : List PyData} (h : pairOf f = none) : goFacts t seen (f :: fs) = false := by
  unfold goFacts
  rw [h]
theorem go_nostr {t : List (Str × List Str)} {seen : List Str} {f a b : PyData} {fs : List PyData} (h : pairOf f = some (a, b)) (hs : isStr a = false) : goFacts t seen (f :: fs) = false := by
  unfold goFacts
  rw [h]
  cases a <;> first | rfl | cases hs
theorem go_new {t : List (Str × List Str)} {seen : List Str} {f b : PyData} {n : Str} {fs : List PyData} (h : pairOf f = some (.str n, b)) (hl : look n t = none) : goFacts t seen (f :: fs) = false := by
  unfold goFacts
  rw [h]
  show (match look n t with | some ws => !seen.contains n && (stands ws b && goFacts t (n :: seen) fs) | none => false) = false
  rw [hl]
theorem go_old {t : List (Str × List Str)} {seen : List Str} {f b : PyData} {n : Str} {ws : List Str} {fs : List PyData} (h : pairOf f = some (.str n, b)) (hl : look n t = some ws) : goFacts t seen (f :: fs) = (!seen.contains n && (stands ws b && goFacts t (n :: seen) fs)) := by
  conv => lhs; unfold goFacts
  rw [h]
  show (match look n t with | some ws => !seen.contains n && (stands ws b && goFacts t (n :: seen) fs) | none => false) = _
  rw [hl]
theorem go_seen {t : List (Str × List Str)} {seen : List Str} {f b : PyData} {n : Str} {fs : List PyData} (h : pairOf f = some (.str n, b)) (hs : seen.contains n = true) : goFacts t seen (f :: fs) = false := by
  cases e : look n t with
  | none => exact go_new h e
  | some ws => rw [go_old h e, hs] <;> rfl
/-- what stands for values is such that it can be compared -/
def FOk (d : PyData) : Prop := ∀ fs, rowOf d = some fs → ∀ f ∈ fs, ∀ a b, pairOf f = some (a, b) → SeqAt.shaped b = true
def spAreFacts (K : PySem.W.Frag) : Sp := fun vs H Q _ => ∃ (p : Addr) (t : List (Str × List Str)) (v : V) (d : PyData), vs = [.ref p, v] ∧ TabAt K H p t ∧ Dp K H v d ∧ FOk d ∧ ∀ H', Same H H' → Q (.bl (areFacts t d)) H'
section
variable {P : Program} {w : World} {K : PySem.W.Frag} {mg : Str → Option Value} {base : Heap}
theorem scAreFacts : FnScope ["fields", "facts", "values_of", "told", "fact", "name", "value"] ["fields", "facts"] (defScope sAreFacts) := ⟨rfl, rfl, rfl, by decide +kernel, rfl, by decide +kernel, by decide +kernel⟩
theorem ok_arefacts {f fR fP : Addr} {fd fdR fdP : FuncData} (F : Fun K "are_facts" "are_facts" sAreFacts f fd) (T : Bb mg) (GR : FnOk P w K mg base CX0 1 fR fdR ["thing"] (spIsRow K)) (kR : PySem.W.keepIn K (.ref fR) = true) (bR : Binds K fdR ["thing"] []) (mR : mg "is_row" = some (.ref fR))
    (GP : FnOk P w K mg base CX0 2 fP fdP ["thing"] (spIsPair K)) (kP : PySem.W.keepIn K (.ref fP) = true) (bP : Binds K fdP ["thing"] []) (mP : mg "is_pair" = some (.ref fP)) :
    FnOk P w K mg base CX0 3 f fd ["fields", "facts"] (spAreFacts K) := by
  refine F.ok scAreFacts (fun vs H Q E h => ?_) (fun cdv A outer s H vs Q E hr h => ?_)
  · obtain ⟨p, t, v, d, rfl, _⟩ := h
    rfl
  obtain ⟨p, t, v, d, rfl, ht, hd, hf, k⟩ := h
  have vs_ : PySem.bootBuiltins "str" = some (.type "str") := by decide +kernel
  have vd_ : PySem.bootBuiltins "dict" = some (.type "dict") := by decide +kernel
  have hu2 : (A.deeper (PyProof.Rows.envOfC "are_facts" (defScope sAreFacts) s.heap.objs.size f cdv)).units + 65 < cLine := by
    have := hr.un
    omega
  have hu1 : (A.deeper (PyProof.Rows.envOfC "are_facts" (defScope sAreFacts) s.heap.objs.size f cdv)).units + 1 < cLine := by
    omega
  refine ⟨_, pss_cons (ps_if (PW.pt (pw_or (pt_not (pt_val (pe_call GR (hr.mono (by decide)) rfl mR kR bR .nil pass0 (pa_cons (pv 1) pa_nil)))) (pw_or1 (pt_cmpR op_gt (pe_callB call_len_seq rfl T.len PySem.boot_len (pa_cons (pv 1) pa_nil)) (pe_callB call_len_seq rfl T.len PySem.boot_len (pa_cons (pv 0) pa_nil)) (nomark _)))))
      (pss_one (ps_ret pe_bl)) pss_nil)
    (pss_cons (ps_set (i := 2) scAreFacts.nd rfl (.inl rfl) (pe_callTy (call_dictZ (by rfl)) rfl T.dict vd_ (pa_cons (pv 0) pa_nil)))
    (pss_cons (ps_set (i := 3) scAreFacts.nd rfl (.inl rfl) pe_dnewK)
    (pss_cons (ps_for PassesOwn.never rfl (pi_row (pv 1)) (pg_name (i := 4) scAreFacts.nd rfl (.inl rfl))
      (pss_cons (ps_if (pt_not (pt_val (pe_call GP hr rfl mP kP bP .nil pass0 (pa_cons (pv 4) pa_nil)))) (pss_one (ps_ret pe_bl)) pss_nil)
      (pss_cons (ps_asg (pv 4) (pg_row rfl (pgs_cons (pg_name (i := 5) scAreFacts.nd rfl (.inl rfl)) (pgs_cons (pg_name (i := 6) scAreFacts.nd rfl (.inl rfl)) pgs_nil))))
      (pss_cons (ps_if (PW.pt (pw_or (pt_not (pt_val (pe_isi T.isi T.str vs_ (pv 5)))) (pw_or (pt_cmp (pc_din hu1 (pv 5) (pv 3)) (by with_unfolding_all rfl)) (pw_or1 (pt_cmp (pc_dnotin hu1 (pv 5) (pv 2)) (by with_unfolding_all rfl))))))
        (pss_one (ps_ret pe_bl)) pss_nil)
      (pss_cons (ps_if (pt_cmpR (op_notInZ hu2) (pv 6) (pe_dget hu1 (pv 2) (pv 5) (fun _ _ => rfl)) (by with_unfolding_all rfl)) (pss_one (ps_ret pe_bl)) pss_nil)
      (pss_one (ps_dput hu1 (pv 3) (pv 5) pe_bl rfl)))))))
    (pss_one (ps_ret pe_bl))))), ?_⟩
  refine ⟨_, rfl, v, d, rfl, hd, fun H1 s1 => ⟨_, rfl, ?_⟩⟩
  cases e : rowOf d with
  | none =>
    have e1 : isRow d = false := by
      unfold isRow
      rw [e]
      rfl
    rw [e1]
    refine iteT (iteT (q_is ?_ (k H1 s1)))
    unfold areFacts
    rw [e]
  | some fs =>
    have e1 : isRow d = true := by
      unfold isRow
      rw [e]
      rfl
    rw [e1]
    obtain ⟨q, ys, rfl, hq, ha⟩ := row_len (dp_same s1 hd) e
    have hlen := dps_len ha
    obtain ⟨ps, kvs, hz, hT, hn, hm⟩ := ht
    have hz1 : SqZ H1 p (ps.map V.ref) := hz.same s1
    have hT1 := hT.same s1
    have hps : (ps.map V.ref).length = t.length := by rw [List.length_map, hT1.len.1]
    refine iteF ⟨_, rfl, q, ys, rfl, hq, _, rfl, p, _, rfl, .inr hz1.sqT, _, _, rfl, rfl, _, rfl, ?_⟩
    by_cases hl : fs.length ≤ t.length
    · refine iteDF (by omega) ?_
      refine ⟨_, rfl, p, ps, kvs, rfl, .inr hz1, hT1.prs, fun Av hA => ?_⟩
      intro Bv hB
      have hkeys : (kvs.map (·.1)).Nodup := by
        rw [hT1.len.2]
        exact nodup_inr hn
      have hmk : mergeK [] kvs = kvs := (merge_nodup kvs [] (fun _ _ => rfl) hkeys).trans (List.nil_append kvs)
      rw [hmk] at hB ⊢
      have hAB : Av ≠ Bv := fun z => by
        rw [z, upd_same] at hB
        cases hB
      have s2 : Same H1 (upd (upd H1 Av (.dK kvs)) Bv (.dK [])) := (new_same hA _).trans (new_same hB _)
      have areq : areFacts t d = goFacts t [] fs := by
        unfold areFacts
        rw [e]
        show (decide (fs.length ≤ t.length) && goFacts t [] fs) = _
        rw [decide_eq_true hl, Bool.true_and]
      show tFor (iRow K (tVar 1)) (gName 4) _ _ _ _
      refine for_row (ys := ys) (H0 := H1) (fun i σ H' => ∃ (seen : List Str) (told : List (Key × V)) (f4 f5 f6 : Option V), σ = [some (.ref p), some (.ref q), some (.ref Av), some (.ref Bv), f4, f5, f6] ∧ H' Av = some (.dK kvs) ∧ H' Bv = some (.dK told) ∧ told.length ≤ i ∧
        (∀ n, (valV told (.inr n)).isSome = seen.contains n) ∧ Same H1 H' ∧ areFacts t d = goFacts t seen (fs.drop i)) (fun Q' z => ⟨_, rfl, z⟩) hq ?_ ?_ ?_ ?_
      · refine ⟨[], [], none, none, none, rfl, ?_, upd_same, Nat.le_refl _, fun n => rfl, s2, areq⟩
        rw [upd_ne hAB, upd_same]
      · rintro i σ H' ⟨_, _, _, _, _, _, _, _, _, _, z, _⟩
        exact z
      · rintro i x σ H2 hi ⟨seen, told, f4, f5, f6, rfl, h1, h2, h3, h4, h5, h6⟩ hx
        obtain ⟨f, hf1, hdf⟩ := dps_get ha hx
        have hfm : f ∈ fs := List.mem_of_getElem? hf1
        have hdrop : fs.drop i = f :: fs.drop (i + 1) := by
          obtain ⟨hi2, e2⟩ := List.getElem?_eq_some_iff.mp hf1
          rw [List.drop_eq_getElem_cons hi2, e2]
        rw [hdrop] at h6
        refine ⟨_, rfl, x, f, rfl, dp_same h5 hdf, fun H3 s3 => ⟨_, rfl, ?_⟩⟩
        have s13 : Same H1 H3 := h5.trans s3
        have no : areFacts t d = false → Q (.bl false) H3 := fun z => q_is z.symm (k _ (s1.trans s13))
        cases ep : isPair f with
        | false => exact iteT (no (h6.trans (go_none (pair_no ep))))
        | true =>
          obtain ⟨a, b, e2, e3⟩ := pair_yes ep
          refine iteF ?_
          obtain ⟨r, zs, rfl, hz2, hzs⟩ := row_len (dp_same s13 hdf) e3
          obtain ⟨va, vb, rfl, hva, hvb⟩ : ∃ va vb, zs = [va, vb] ∧ Dp K H3 va a ∧ Dp K H3 vb b := by
            cases hzs with
            | cons q1 q2 =>
              cases q2 with
              | cons q3 q4 =>
                cases q4
                exact ⟨_, _, rfl, q1, q3⟩
          have asg : ∀ Q' : L2.St → Hp → Prop, Q' [some (.ref p), some (.ref q), some (.ref Av), some (.ref Bv), some (.ref r), some va, some vb] H3 →
              gRow K 2 (gCons (gName 5) (gCons (gName 6) gNil)) (.ref r) [some (.ref p), some (.ref q), some (.ref Av), some (.ref Bv), some (.ref r), f5, f6] H3 Q' := fun Q' z => by
            rcases hz2 with hz2 | hz2
            · exact .inr ⟨r, [va, vb], rfl, hz2, rfl, va, [vb], rfl, vb, [], rfl, rfl, z⟩
            · exact .inl ⟨r, [va, vb], rfl, hz2, rfl, va, [vb], rfl, vb, [], rfl, rfl, z⟩
          refine ⟨_, rfl, asg _ ?_⟩
          refine ⟨_, rfl, _, _, _, _, _, rfl, .ty _, tyD hva, kit_str (dp_no_dict hva), _, rfl, ?_⟩
          cases es : isStr a with
          | false => exact iteT (iteT (no (h6.trans (go_nostr e2 es))))
          | true =>
            obtain ⟨n, rfl⟩ : ∃ n, a = .str n := by
              cases a <;> first | exact ⟨_, rfl⟩ | cases es
            cases hva
            have h1' := s3 _ _ h1
            have h2' := s3 _ _ h2
            refine iteF ⟨_, rfl, _, rfl, Bv, _, rfl, DGet.k (k := .inr n) h2', _, rfl, ?_⟩
            rw [h4]
            cases en : seen.contains n with
            | true => exact iteT (iteT (no (h6.trans (go_seen e2 en))))
            | false =>
              refine iteF ⟨_, rfl, _, rfl, Av, _, rfl, DGet.k (k := .inr n) h1', _, rfl, ?_⟩
              rcases hT1.val (n := n) with ⟨g1, g2⟩ | ⟨ws, vp, g1, g2, g3, g4⟩
              · rw [g2]
                exact iteT (no (h6.trans (go_new e2 g1)))
              · rw [g2]
                refine iteF ?_
                have hg := DGet.k (k := .inr n) h1'
                rw [g2] at hg
                refine ⟨_, rfl, _, rfl, _, rfl, Av, _, rfl, hg, vp, ws, b, rfl, seqT_same s13 g3, g4, hvb, hf fs e f hfm _ _ e2, _, rfl, ?_⟩
                have g5 := go_old (t := t) (seen := seen) (fs := fs.drop (i + 1)) e2 g1
                rw [en] at g5
                cases ew : stands ws b with
                | false =>
                  refine iteT (no (h6.trans (g5.trans ?_)))
                  rw [ew] <;> rfl
                | true =>
                  refine iteF ⟨_, rfl, _, rfl, Bv, _, rfl, DPut.k (k := .inr n) h2' (small1000 (by omega)), ?_⟩
                  refine ⟨n :: seen, putK told (.inr n) (.bl true), some (.ref r), some (.str n), some vb, rfl, ?_, upd_same, ?_, ?_, ?_, ?_⟩
                  · rw [upd_ne hAB]
                    exact h1'
                  · have := length_putK told (.inr n) (.bl true)
                    omega
                  · intro m
                    rw [valV_put, List.contains_cons]
                    by_cases em : m = n
                    · subst em
                      rw [if_pos rfl]
                      simp
                    · rw [if_neg (fun z => em (Sum.inr.inj z)), h4 m]
                      have : (m == n) = false := beq_eq_false_iff_ne.mpr em
                      rw [this, Bool.false_or]
                  · refine fun b' o z => ?_
                    have nB : b' ≠ Bv := fun y => by
                      subst y
                      have := (new_same hA (.dK kvs)) _ _ z
                      rw [hB] at this
                      cases this
                    rw [upd_ne nB]
                    exact s13 _ _ z
                  · rw [h6, g5, ew] <;> rfl
      · rintro σ H' ⟨seen, told, f4, f5, f6, rfl, h1, h2, h3, h4, h5, h6⟩
        rw [List.drop_eq_nil_of_le (by omega)] at h6
        exact q_is (h6.trans rfl).symm (k _ (s1.trans h5))
    · refine iteDT (by omega) (q_is ?_ (k H1 s1))
      unfold areFacts
      rw [e]
      show false = (decide (fs.length ≤ t.length) && goFacts t [] fs)
      rw [decide_eq_false hl, Bool.false_and]
end
end Q
set_option Elab.async false
set_option linter.all false
set_option maxRecDepth 100000
set_option maxHeartbeats 4000000
/-! ### in_sequence -/
namespace Q
open PySem L2 XD
/-- the word told with a name -/
def pick (n : Str) : List (Str × Str) → Option Str
  | [] => none
  | (m, w) :: r => if m = n then some w else pick n r
def sorted (t : List (Str × List Str)) (r : List (Str × Str)) : List (Str × Str) := t.filterMap fun e => (pick e.1 r).map fun w => (e.1, w)
/-- pairs of words, each a list or a tuple -/
inductive FactR (K : PySem.W.Frag) (H : Hp) : List Addr → List (Key × V) → List (Str × Str) → Prop
  | nil : FactR K H [] [] []
  | cons {q : Addr} {n w : Str} {ps : List Addr} {kvs : List (Key × V)} {r : List (Str × Str)} : (SqT K H q [.str n, .str w] ∨ SqL K H q [.str n, .str w]) → FactR K H ps kvs r → FactR K H (q :: ps) ((.inr n, .str w) :: kvs) ((n, w) :: r)
theorem FactR.prs {K : PySem.W.Frag} {H : Hp} : ∀ {ps : List Addr} {kvs : List (Key × V)} {r : List (Str × Str)}, FactR K H ps kvs r → Paired (fun p (kv : Key × V) => SqT K H p [kV kv.1, kv.2] ∨ SqL K H p [kV kv.1, kv.2]) ps kvs
  | _, _, _, .nil => .nil
  | _, _, _, .cons a c => .cons a (FactR.prs c)
theorem FactR.same {K : PySem.W.Frag} {H H' : Hp} (s : Same H H') : ∀ {ps : List Addr} {kvs : List (Key × V)} {r : List (Str × Str)}, FactR K H ps kvs r → FactR K H' ps kvs r
  | _, _, _, .nil => .nil
  | _, _, _, .cons a c => .cons (a.elim (fun q => .inl (seqT_same s q)) (fun q => .inr (s.seq q))) (FactR.same s c)
theorem FactR.keys {K : PySem.W.Frag} {H : Hp} : ∀ {ps : List Addr} {kvs : List (Key × V)} {r : List (Str × Str)}, FactR K H ps kvs r → kvs.map (·.1) = (r.map (·.1)).map Sum.inr
  | _, _, _, .nil => rfl
  | _, _, _, .cons a c => by rw [List.map_cons, List.map_cons, List.map_cons, FactR.keys c]
theorem FactR.val {K : PySem.W.Frag} {H : Hp} {n : Str} : ∀ {ps : List Addr} {kvs : List (Key × V)} {r : List (Str × Str)}, FactR K H ps kvs r → valV kvs (.inr n) = (pick n r).map V.str
  | _, _, _, .nil => rfl
  | _, _, _, .cons (n := m) (w := w) (r := r) a c => by
    by_cases e : m = n
    · subst e
      rw [valV_pos rfl]
      unfold pick
      rw [if_pos rfl] <;> rfl
    · rw [valV_neg (fun z => e (Sum.inr.inj z)), FactR.val c]
      conv => rhs; unfold pick
      rw [if_neg e]
/-- a rule as a form keeps it -/
def RuleAt (K : PySem.W.Frag) (H : Hp) (p : Addr) (r : List (Str × Str)) : Prop := ∃ qs : List Addr, SqZ H p (qs.map V.ref) ∧ Paired (fun q (e : Str × Str) => SqT K H q [.str e.1, .str e.2]) qs r
theorem prd_same {K : PySem.W.Frag} {H H' : Hp} (s : Same H H') : ∀ {qs : List Addr} {r : List (Str × Str)}, Paired (fun q (e : Str × Str) => SqT K H q [.str e.1, .str e.2]) qs r → Paired (fun q (e : Str × Str) => SqT K H' q [.str e.1, .str e.2]) qs r
  | _, _, .nil => .nil
  | _, _, .cons a b => .cons (seqT_same s a) (prd_same s b)
theorem prd_snoc {α β : Type} {R : α → β → Prop} : ∀ {xs : List α} {ys : List β} {x : α} {y : β}, Paired R xs ys → R x y → Paired R (xs ++ [x]) (ys ++ [y])
  | _, _, _, _, .nil, h => .cons h .nil
  | _, _, _, _, .cons a b, h => .cons a (prd_snoc b h)
theorem TabR.at {K : PySem.W.Frag} {H : Hp} : ∀ {ps : List Addr} {kvs : List (Key × V)} {t : List (Str × List Str)} {i : Nat} {x : V}, TabR K H ps kvs t → (ps.map V.ref)[i]? = some x →
    ∃ (q v : Addr) (n : Str) (ws : List Str), x = .ref q ∧ t[i]? = some (n, ws) ∧ SqT K H q [.str n, .ref v] ∧ SqT K H v (ws.map V.str)
  | _, _, _, _, _, .nil, e => by simp at e
  | _, _, _, 0, _, .cons (q := q) (v := v) (n := n) (ws := ws) a b o c, e => by
    simp at e
    exact ⟨q, v, n, ws, e.symm, rfl, a, b⟩
  | _, _, _, i + 1, x, .cons a b o c, e => by
    obtain ⟨q, v, n, ws, h1, h2, h3⟩ := TabR.at (i := i) (x := x) c (by simpa using e)
    exact ⟨q, v, n, ws, h1, by simpa using h2, h3⟩
theorem sorted_next {t : List (Str × List Str)} {r : List (Str × Str)} {i : Nat} {n : Str} {ws : List Str} (h : t[i]? = some (n, ws)) : sorted (t.take (i + 1)) r = sorted (t.take i) r ++ ((pick n r).map fun w => (n, w)).toList := by
  unfold sorted
  rw [take_one h, List.filterMap_append]
  cases e : pick n r with
  | none => simp [e]
  | some w => simp [e]
theorem sorted_len {t : List (Str × List Str)} {r : List (Str × Str)} : (sorted t r).length ≤ t.length := by
  unfold sorted
  exact List.length_filterMap_le _ _
theorem prd_len {α β : Type} {R : α → β → Prop} : ∀ {xs : List α} {ys : List β}, Paired R xs ys → xs.length = ys.length
  | _, _, .nil => rfl
  | _, _, .cons _ b => by rw [List.length_cons, List.length_cons, prd_len b]
theorem seqT_off {K : PySem.W.Frag} {H : Hp} {D q : Addr} {xs acc acc' : List V} (h : SqT K H q xs) (hD : H D = some (.lst acc)) : SqT K (upd H D (.lst acc')) q xs := by
  have n1 : ∀ {o : HO}, H q = some o → (∀ l, o ≠ .lst l) → q ≠ D := fun e1 e2 z => by
    subst z
    rw [hD] at e1
    exact e2 _ (Option.some.inj e1).symm
  rcases h with (h | ⟨o, h⟩) | h
  · exact .inl (.inl (by rw [upd_ne (n1 h (by intro l z; cases z))]; exact h))
  · exact .inl (.inr ⟨o, by rw [upd_ne (n1 h (by intro l z; cases z))]; exact h⟩)
  · exact .inr h
theorem prd_off {K : PySem.W.Frag} {H : Hp} {D : Addr} {acc acc' : List V} (hD : H D = some (.lst acc)) : ∀ {qs : List Addr} {r : List (Str × Str)}, Paired (fun q (e : Str × Str) => SqT K H q [.str e.1, .str e.2]) qs r →
    Paired (fun q (e : Str × Str) => SqT K (upd H D (.lst acc')) q [.str e.1, .str e.2]) qs r
  | _, _, .nil => .nil
  | _, _, .cons a b => .cons (seqT_off a hD) (prd_off hD b)
def spInSeq (K : PySem.W.Frag) : Sp := fun vs H Q _ => ∃ (p q : Addr) (t : List (Str × List Str)) (ps : List Addr) (kvs : List (Key × V)) (r : List (Str × Str)), vs = [.ref p, .ref q] ∧ TabAt K H p t ∧ (SqL K H q (ps.map V.ref) ∨ SqZ H q (ps.map V.ref)) ∧
  FactR K H ps kvs r ∧ (r.map (·.1)).Nodup ∧ ∀ z H', Same H H' → RuleAt K H' z (sorted t r) → Q (.ref z) H'
section
variable {P : Program} {w : World} {K : PySem.W.Frag} {mg : Str → Option Value} {base : Heap}
theorem scInSeq : FnScope ["fields", "facts", "value_of", "name", "_"] ["fields", "facts"] (defScope sInSeq) := ⟨rfl, rfl, rfl, by decide +kernel, rfl, by decide +kernel, by decide +kernel⟩
theorem ok_inseq {f : Addr} {fd : FuncData} (F : Fun K "in_sequence" "in_sequence" sInSeq f fd) (T : Bb mg) : FnOk P w K mg base CX0 1 f fd ["fields", "facts"] (spInSeq K) := by
  refine F.ok scInSeq (fun vs H Q E h => ?_) (fun cdv A outer s H vs Q E hr h => ?_)
  · obtain ⟨p, q, t, ps, kvs, r, rfl, _⟩ := h
    rfl
  obtain ⟨p, q, t, ps, kvs, r, rfl, ht, hq, hF, hn, k⟩ := h
  have vd_ : PySem.bootBuiltins "dict" = some (.type "dict") := by decide +kernel
  have vt_ : PySem.bootBuiltins "tuple" = some (.type "tuple") := by decide +kernel
  have hu1 : (A.deeper (PyProof.Rows.envOfC "in_sequence" (defScope sInSeq) s.heap.objs.size f cdv)).units + 1 < cLine := by
    have := hr.un
    omega
  refine ⟨_, pss_cons (ps_set (i := 2) scInSeq.nd rfl (.inr rfl) (pe_callTy (call_dictZ (by rfl)) rfl T.dict vd_ (pa_cons (pv 1) pa_nil)))
    (pss_one (ps_ret (pe_callTy call_tupZ rfl T.tup vt_ (pa_cons (pe_lc (own := [("name", 3), ("_", 4)]) (g := gTup K 2 (gCons (gName 3) (gCons (gName 4) gNil))) (by rfl) scInSeq.nd (pi_row (pv 0)) (blkOk_by (N := ["fields", "facts", "value_of", "name", "_"]) (sc := defScope sInSeq) (by decide +kernel))
      (fun _ _ _ _ _ => pg_tup rfl (pgs_cons (pg_name (i := 3) scInSeq.nd rfl (.inl rfl)) (pgs_cons (pg_name (i := 4) scInSeq.nd rfl (.inl rfl)) pgs_nil)))
      (fun _ _ _ _ _ => pts_one (pt_cmp (pc_din hu1 (pv 3) (pv 2)) (by with_unfolding_all rfl)))
      (fun _ _ _ _ _ => pe_tupZ (pa_cons (pv 3) (pa_cons (pe_dget hu1 (pv 2) (pv 3) (fun _ _ => rfl)) pa_nil)))) pa_nil)))), ?_⟩
  obtain ⟨ps0, tk, hz, hT, htn, htm⟩ := ht
  refine ⟨_, rfl, q, ps, kvs, rfl, hq, hF.prs, fun C hC => ?_⟩
  have hmk : mergeK [] kvs = kvs := (merge_nodup kvs [] (fun _ _ => rfl) (by rw [hF.keys]; exact nodup_inr hn)).trans (List.nil_append kvs)
  rw [hmk]
  have s2 : Same H (upd H C (.dK kvs)) := new_same hC _
  have hT2 := hT.same s2
  have hlen : (ps0.map V.ref).length = t.length := by rw [List.length_map, hT.len.1]
  show tLc (iRow K (tVar 0)) (gTup K 2 (gCons (gName 3) (gCons (gName 4) gNil))) (tB (tDIn (tVar 3) (tVar 2))) (tTupZ (tCons (tVar 3) (tCons (tDGet (tVar 2) (tVar 3)) tNil))) [3, 4]
    [some (.ref p), some (.ref q), some (.ref C), none, none] (upd H C (.dK kvs)) (fun x H1 => rTupZ K [x] H1 Q)
  refine lc_row (ys := ps0.map V.ref) (fun D i H' => ∃ qs : List Addr, H' D = some (.lst (qs.map V.ref)) ∧ Paired (fun q (e : Str × Str) => SqT K H' q [.str e.1, .str e.2]) qs (sorted (t.take i) r) ∧ Same (upd H C (.dK kvs)) H')
    (fun Q' z => ⟨_, rfl, z⟩) (.inr (hz.same s2).sqT) (fun D hD => ⟨[], upd_same, .nil, new_same hD _⟩) (fun D i H' hD hP => hP.elim fun _ z => z.2.2) (fun D i x H' hD hi hP hx => ?_) (fun D H' hD hP => ?_)
  · obtain ⟨qs, g1, g2, g3⟩ := hP
    obtain ⟨q1, v1, n, ws, rfl, e1, e2, e3⟩ := hT2.at hx
    have hC' := g3 _ _ (upd_same (H := H) (a := C) (o := .dK kvs))
    have hv := hF.val (n := n)
    have hnx := sorted_next (r := r) e1
    refine ⟨q1, _, rfl, seqT_same g3 e2, rfl, .str n, _, rfl, .ref v1, [], rfl, rfl, rfl, _, rfl, _, rfl, C, _, rfl, DGet.k (k := .inr n) hC', _, rfl, ?_⟩
    rw [hv]
    cases ep : pick n r with
    | none =>
      refine iteF ⟨qs, g1, ?_, g3⟩
      rw [hnx, ep]
      simpa using g2
    | some w1 =>
      have hg := DGet.k (k := .inr n) hC'
      rw [hv, ep] at hg
      refine iteT ⟨_, rfl, _, rfl, _, rfl, C, _, rfl, hg, (by show 2 ≤ sizeLine; decide), fun z o hz0 ho => ?_⟩
      have hDz : D ≠ z := fun y => by
        rw [y, hz0] at g1
        cases g1
      have sz : Same H' (upd H' z (.frz o (.tup [.str n, .str w1]))) := new_same hz0 _
      have hD4 := sz _ _ g1
      have hql : qs.length ≤ t.length := by
        rw [prd_len g2]
        refine Nat.le_trans sorted_len ?_
        rw [List.length_take]
        exact Nat.min_le_right _ _
      refine ⟨_, hD4, small1000 (by rw [List.length_map]; omega), qs ++ [z], ?_, ?_, fun b o' y => ?_⟩
      · rw [upd_same, List.map_append] <;> rfl
      · rw [hnx, ep]
        refine prd_off hD4 (prd_snoc (prd_same sz g2) ?_)
        exact .inl (.inr ⟨o, upd_same⟩)
      · rw [upd_ne (ne_of_none y hD)]
        exact sz _ _ (g3 _ _ y)
  · obtain ⟨qs, g1, g2, g3⟩ := hP
    rw [List.take_of_length_le (by omega)] at g2
    refine ⟨D, _, rfl, .inl ⟨SqL.of g1, fun l o hl ho => ?_⟩⟩
    have sl : Same H' (upd H' l (.frz o (.tup (qs.map V.ref)))) := new_same hl _
    exact k l _ ((s2.trans g3).trans sl) ⟨qs, ⟨o, upd_same, ho⟩, prd_same sl g2⟩
end
end Q
set_option Elab.async false
set_option linter.all false
set_option maxRecDepth 100000
set_option maxHeartbeats 4000000
/-! ### _are_values, _are_fields -/
namespace Q
open PySem L2 XD
structure Fm (mg : Str → Option Value) : Prop where
  mf : ∃ t, mg "MOST_FIELDS" = some (.int 6 t)
  mv : ∃ t, mg "MOST_VALUES" = some (.int 5 t)
  mr : ∃ t, mg "MOST_RULES" = some (.int 20 t)
  mp : ∃ t, mg "MOST_PAIRS" = some (.int 4 t)
  mfi : ∃ t, mg "MOST_FILLINGS" = some (.int 1000 t)
/-- a def that is known -/
structure Kn (P : Program) (w : World) (K : PySem.W.Frag) (mg : Str → Option Value) (base : Heap) (k : Nat) (x : Str) (ps : List Str) (sp : Sp) : Prop where
  ex : ∃ f fd, FnOk P w K mg base CX0 k f fd ps sp ∧ PySem.W.keepIn K (.ref f) = true ∧ Binds K fd ps [] ∧ mg x = some (.ref f)
def areValues (d : PyData) : Bool := match rowOf d with
  | some ws => decide (1 ≤ ws.length) && (decide (ws.length ≤ 5) && unlike ws)
  | none => false
def MShort (d : PyData) : Prop := ∀ ws, rowOf d = some ws → ∀ w ∈ ws, Short w
def spAreValues (K : PySem.W.Frag) : Sp := fun vs H Q _ => ∃ (v : V) (d : PyData), vs = [v] ∧ Dp K H v d ∧ MShort d ∧ ∀ H', Same H H' → Q (.bl (areValues d)) H'
theorem isRow_of {d : PyData} {xs : List PyData} (h : rowOf d = some xs) : isRow d = true := by
  unfold isRow
  rw [h]
  rfl
theorem isRow_no {d : PyData} (h : rowOf d = none) : isRow d = false := by
  unfold isRow
  rw [h]
  rfl
section
variable {P : Program} {w : World} {K : PySem.W.Frag} {mg : Str → Option Value} {base : Heap}
theorem scAreValues : FnScope ["values"] ["values"] (defScope sAreValues) := ⟨rfl, rfl, rfl, by decide +kernel, rfl, by decide +kernel, by decide +kernel⟩
theorem ok_arevalues {f : Addr} {fd : FuncData} (F : Fun K "_are_values" "_are_values" sAreValues f fd) (T : Bb mg) (C : Fm mg) (KR : Kn P w K mg base 1 "is_row" ["thing"] (spIsRow K)) (KU : Kn P w K mg base 3 "are_unlike_words" ["things"] (spUnlike K)) :
    FnOk P w K mg base CX0 4 f fd ["values"] (spAreValues K) := by
  obtain ⟨fR, fdR, GR, kR, bR, mR⟩ := KR.ex
  obtain ⟨fU, fdU, GU, kU, bU, mU⟩ := KU.ex
  obtain ⟨tV, hV⟩ := C.mv
  refine F.ok scAreValues (fun vs H Q E h => ?_) (fun cdv A outer s H vs Q E hr h => ?_)
  · obtain ⟨v, d, rfl, _⟩ := h
    rfl
  obtain ⟨v, d, rfl, hd, hs, k⟩ := h
  refine ⟨_, pss_one (ps_ret (pe_and (pe_call GR (hr.mono (by decide)) rfl mR kR bR .nil pass0 (pa_cons (pv 0) pa_nil))
    (pe_and (pe_chain op_le op_le pe_int (pe_callB call_len_seq rfl T.len PySem.boot_len (pa_cons (pv 0) pa_nil)) (pe_glob (v := .int 5) (by rfl) hV ⟨_, rfl⟩))
    (pe_one (pe_call GU hr rfl mU kU bU .nil pass0 (pa_cons (pv 0) pa_nil)))))), ?_⟩
  refine ⟨_, rfl, v, d, rfl, hd, fun H1 s1 => ⟨_, rfl, ?_⟩⟩
  cases e : rowOf d with
  | none =>
    rw [isRow_no e]
    refine iteF (q_is ?_ (k H1 s1))
    unfold areValues
    rw [e]
  | some ws =>
    rw [isRow_of e]
    obtain ⟨p, ys, rfl, hq, ha⟩ := row_len (dp_same s1 hd) e
    have hlen := dps_len ha
    have eq0 : areValues d = (decide (1 ≤ ws.length) && (decide (ws.length ≤ 5) && unlike ws)) := by
      unfold areValues
      rw [e]
    refine iteT ⟨_, rfl, p, ys, rfl, hq, _, _, rfl, rfl, _, rfl, ?_⟩
    by_cases h1 : 1 ≤ ws.length
    · rw [decide_eq_true h1, Bool.true_and] at eq0
      refine iteDT (by omega) ⟨_, _, rfl, rfl, _, rfl, ?_⟩
      by_cases h5 : ws.length ≤ 5
      · rw [decide_eq_true h5, Bool.true_and] at eq0
        refine iteDT (by omega) ⟨_, rfl, p, ys, ws, rfl, hq, ha, hs ws e, by omega, fun H2 s2 => q_is eq0.symm (k _ (s1.trans s2))⟩
      · rw [decide_eq_false h5, Bool.false_and] at eq0
        exact iteDF (by omega) (q_is eq0.symm (k H1 s1))
    · rw [decide_eq_false h1, Bool.false_and] at eq0
      exact iteDF (by omega) ⟨_, rfl, iteF (q_is eq0.symm (k H1 s1))⟩
end
def fieldOk (f : PyData) : Bool := match pairOf f with
  | some (_, v) => areValues v
  | none => false
def firstOf (f : PyData) : PyData := match pairOf f with
  | some (a, _) => a
  | none => .none
def areFields (d : PyData) : Bool := match rowOf d with
  | some fs => decide (1 ≤ fs.length) && (decide (fs.length ≤ 6) && (fs.all fieldOk && unlike (fs.map firstOf)))
  | none => false
/-- the texts in it are short -/
def FShort (d : PyData) : Prop := ∀ fs, rowOf d = some fs → ∀ f ∈ fs, ∀ a b, pairOf f = some (a, b) → Short a ∧ MShort b
def spAreFields (K : PySem.W.Frag) : Sp := fun vs H Q _ => ∃ (v : V) (d : PyData), vs = [v] ∧ Dp K H v d ∧ FShort d ∧ ∀ H', Same H H' → Q (.bl (areFields d)) H'
def rBoth (K : PySem.W.Frag) : V → V → Hp → VK → Prop := fun x y H Q => rIxL K x y H Q ∨ rIxT K x y H Q
theorem ix_both {X : Cx} (K : PySem.W.Frag) (h : X.K = K) : IxR X (rBoth K) := by
  subst h
  exact IxR.or ix_list ix_tup
theorem ix_row {K : PySem.W.Frag} {H : Hp} {p : Addr} {xs : List V} {i : Int} {v : V} {Q : VK} (h : SqL K H p xs ∨ SqT K H p xs) (e : atI xs i = some v) (q : Q v H) : rBoth K (.ref p) (.int i) H Q :=
  h.elim (fun z => .inl ⟨p, xs, i, v, rfl, rfl, z, e, q⟩) (fun z => .inr ⟨p, xs, i, v, rfl, rfl, z, e, q⟩)
theorem dps_snoc {K : PySem.W.Frag} {H : Hp} {v : V} {d : PyData} : ∀ {vs : List V} {ds : List PyData}, DpAll K H vs ds → Dp K H v d → DpAll K H (vs ++ [v]) (ds ++ [d])
  | _, _, .nil, h => .cons h .nil
  | _, _, .cons a b, h => .cons a (dps_snoc b h)
/-- what stands behind a pair -/
theorem pair_at {K : PySem.W.Frag} {H : Hp} {v : V} {f a b : PyData} (h : Dp K H v f) (e : pairOf f = some (a, b)) : ∃ (r : Addr) (va vb : V), v = .ref r ∧ (SqL K H r [va, vb] ∨ SqT K H r [va, vb]) ∧ Dp K H va a ∧ Dp K H vb b := by
  have e3 : rowOf f = some [a, b] := by
    unfold pairOf at e
    cases er : rowOf f with
    | none =>
      rw [er] at e
      cases e
    | some xs =>
      rw [er] at e
      match xs, e with
      | [_, _], e =>
        cases e
        rfl
  obtain ⟨r, zs, rfl, hz2, hzs⟩ := row_len h e3
  cases hzs with
  | cons q1 q2 =>
    cases q2 with
    | cons q3 q4 =>
      cases q4
      exact ⟨r, _, _, rfl, hz2, q1, q3⟩
theorem pair_isPair {f a b : PyData} (e : pairOf f = some (a, b)) : isPair f = true := by
  cases h : isPair f with
  | true => rfl
  | false =>
    rw [pair_no h] at e
    cases e
section
variable {P : Program} {w : World} {K : PySem.W.Frag} {mg : Str → Option Value} {base : Heap}
theorem scAreFields : FnScope ["fields", "field"] ["fields"] (defScope sAreFields) := ⟨rfl, rfl, rfl, by decide +kernel, rfl, by decide +kernel, by decide +kernel⟩
theorem ok_arefields {f : Addr} {fd : FuncData} (F : Fun K "_are_fields" "_are_fields" sAreFields f fd) (T : Bb mg) (C : Fm mg) (KR : Kn P w K mg base 1 "is_row" ["thing"] (spIsRow K)) (KP : Kn P w K mg base 2 "is_pair" ["thing"] (spIsPair K)) (KU : Kn P w K mg base 3 "are_unlike_words" ["things"] (spUnlike K)) (KV : Kn P w K mg base 4 "_are_values" ["values"] (spAreValues K)) :
    FnOk P w K mg base CX0 5 f fd ["fields"] (spAreFields K) := by
  obtain ⟨fR, fdR, GR, kR, bR, mR⟩ := KR.ex
  obtain ⟨fP, fdP, GP, kP, bP, mP⟩ := KP.ex
  obtain ⟨fU, fdU, GU, kU, bU, mU⟩ := KU.ex
  obtain ⟨fV, fdV, GV, kV, bV, mV⟩ := KV.ex
  obtain ⟨tF, hF⟩ := C.mf
  refine F.ok scAreFields (fun vs H Q E h => ?_) (fun cdv A outer s H vs Q E hr h => ?_)
  · obtain ⟨v, d, rfl, _⟩ := h
    rfl
  obtain ⟨v, d, rfl, hd, hs, k⟩ := h
  refine ⟨_, pss_cons (ps_if (PW.pt (pw_or (pt_not (pt_val (pe_call GR (hr.mono (by decide)) rfl mR kR bR .nil pass0 (pa_cons (pv 0) pa_nil)))) (pw_or1 (pt_not (pt_chain op_le op_le pe_int (pe_callB call_len_seq rfl T.len PySem.boot_len (pa_cons (pv 0) pa_nil)) (pe_glob (v := .int 6) (by rfl) hF ⟨_, rfl⟩))))))
      (pss_one (ps_ret pe_bl)) pss_nil)
    (pss_cons (ps_for PassesOwn.never rfl (pi_row (pv 0)) (pg_name (i := 1) scAreFields.nd rfl (.inl rfl))
      (pss_one (ps_if (PW.pt (pw_or (pt_not (pt_val (pe_call GP (hr.mono (by decide)) rfl mP kP bP .nil pass0 (pa_cons (pv 1) pa_nil)))) (pw_or1 (pt_not (pt_val (pe_call GV hr rfl mV kV bV .nil pass0 (pa_cons (pe_ix (ix_both K rfl) (pv 1) pe_int (fun _ _ => rfl)) pa_nil)))))))
        (pss_one (ps_ret pe_bl)) pss_nil)))
    (pss_one (ps_ret (pe_call GU (hr.mono (by decide)) rfl mU kU bU .nil pass0 (pa_cons (pe_lc (own := [("field", 1)]) (g := gName 1) (tt := tYes) (by rfl) scAreFields.nd (pi_row (pv 0)) (blkOk_by (N := ["fields", "field"]) (sc := defScope sAreFields) (by decide +kernel))
      (fun _ _ _ _ _ => pg_name (i := 1) scAreFields.nd rfl (.inl rfl)) (fun _ _ _ _ _ => pts_nil) (fun _ _ _ _ _ => pe_ix (ix_both K rfl) (pv 1) pe_int (fun _ _ => rfl))) pa_nil))))), ?_⟩
  refine ⟨_, rfl, v, d, rfl, hd, fun H1 s1 => ⟨_, rfl, ?_⟩⟩
  cases e : rowOf d with
  | none =>
    rw [isRow_no e]
    refine iteT (iteT (q_is ?_ (k H1 s1)))
    unfold areFields
    rw [e]
  | some fs =>
    rw [isRow_of e]
    obtain ⟨p, ys, rfl, hq, ha⟩ := row_len (dp_same s1 hd) e
    have hlen := dps_len ha
    have eq0 : areFields d = (decide (1 ≤ fs.length) && (decide (fs.length ≤ 6) && (fs.all fieldOk && unlike (fs.map firstOf)))) := by
      unfold areFields
      rw [e]
    refine iteF ⟨_, rfl, p, ys, rfl, hq, _, _, rfl, rfl, _, rfl, ?_⟩
    by_cases h1 : 1 ≤ fs.length
    · rw [decide_eq_true h1, Bool.true_and] at eq0
      refine iteDT (by omega) ⟨_, _, rfl, rfl, _, rfl, ?_⟩
      by_cases h5 : fs.length ≤ 6
      · rw [decide_eq_true h5, Bool.true_and] at eq0
        rw [decide_eq_true (by omega : (ys.length : Int) ≤ 6)]
        refine iteF ?_
        show tFor (iRow K (tVar 0)) (gName 1) _ _ _ _
        refine for_row (ys := ys) (H0 := H1) (fun i σ H' => ∃ f1 : Option V, σ = [some (.ref p), f1] ∧ Same H1 H' ∧ fs.all fieldOk = (fs.drop i).all fieldOk) (fun Q' z => ⟨_, rfl, z⟩) hq ⟨none, rfl, Same.refl H1, rfl⟩ ?_ ?_ ?_
        · rintro i σ H' ⟨_, _, z, _⟩
          exact z
        · rintro i x σ H2 hi ⟨f1, rfl, s2, h6⟩ hx
          obtain ⟨f, hf1, hdf⟩ := dps_get ha hx
          have hfm : f ∈ fs := List.mem_of_getElem? hf1
          have hdrop : fs.drop i = f :: fs.drop (i + 1) := by
            obtain ⟨hi2, e2⟩ := List.getElem?_eq_some_iff.mp hf1
            rw [List.drop_eq_getElem_cons hi2, e2]
          rw [hdrop, List.all_cons] at h6
          have no : ∀ H3, Same H1 H3 → fieldOk f = false → Q (.bl false) H3 := fun H3 s3 z => q_is (by rw [eq0, h6, z] <;> rfl) (k _ (s1.trans s3))
          refine ⟨_, rfl, x, f, rfl, dp_same s2 hdf, fun H3 s3 => ⟨_, rfl, ?_⟩⟩
          have s13 : Same H1 H3 := s2.trans s3
          cases ep : pairOf f with
          | none =>
            have : isPair f = false := by
              cases z : isPair f with
              | false => rfl
              | true =>
                obtain ⟨a, b, z2, _⟩ := pair_yes z
                rw [ep] at z2
                cases z2
            rw [this]
            exact iteT (iteT (no _ s13 (by unfold fieldOk; rw [ep])))
          | some ab =>
            obtain ⟨a, b⟩ := ab
            rw [pair_isPair ep]
            obtain ⟨r, va, vb, rfl, hr2, hva, hvb⟩ := pair_at (dp_same s13 hdf) ep
            have eok : fieldOk f = areValues b := by
              unfold fieldOk
              rw [ep]
            refine iteF ⟨_, rfl, ix_row hr2 rfl ⟨vb, b, rfl, hvb, (hs fs e f hfm a b ep).2, fun H4 s4 => ⟨_, rfl, ?_⟩⟩⟩
            have s14 : Same H1 H4 := s13.trans s4
            rw [← eok]
            cases ev : fieldOk f with
            | false => exact iteT (no _ s14 ev)
            | true =>
              refine iteF ⟨_, rfl, s14, ?_⟩
              rw [h6, ev, Bool.true_and]
        · rintro σ H' ⟨f1, rfl, s2, h6⟩
          rw [List.drop_eq_nil_of_le (by omega)] at h6
          have hall : fs.all fieldOk = true := h6
          rw [hall, Bool.true_and] at eq0
          have s02 : Same H H' := s1.trans s2
          show tLc (iRow K (tVar 0)) (gName 1) tYes (tOp (rBoth K) (tVar 1) (tC (.int 0))) [1] [some (.ref p), f1] H' (fun x H2 => spUnlike K ([x] ++ []) H2 Q E0)
          -- the first parts
          have pick1 : ∀ {i : Nat} {x : V} {f : PyData} {H3 : Hp}, Same H1 H3 → ys[i]? = some x → fs[i]? = some f → ∃ (r : Addr) (va vb : V), x = .ref r ∧ (SqL K H3 r [va, vb] ∨ SqT K H3 r [va, vb]) ∧ Dp K H3 va (firstOf f) := fun {i x f H3} s3 hx hf1 => by
            obtain ⟨f', hf2, hdf⟩ := dps_get ha hx
            rw [hf1] at hf2
            cases hf2
            have hfm : f ∈ fs := List.mem_of_getElem? hf1
            have hok := List.all_eq_true.mp hall f hfm
            cases ep : pairOf f with
            | none =>
              unfold fieldOk at hok
              rw [ep] at hok
              cases hok
            | some ab =>
              obtain ⟨a, b⟩ := ab
              obtain ⟨r, va, vb, h1, h2, h3, _⟩ := pair_at (dp_same s3 hdf) ep
              have ef : firstOf f = a := by
                unfold firstOf
                rw [ep]
              rw [ef]
              exact ⟨r, va, vb, h1, h2, h3⟩
          refine lc_row (ys := ys) (fun D i H3 => ∃ vs : List V, H3 D = some (.lst vs) ∧ DpAll K H1 vs ((fs.take i).map firstOf) ∧ Same H' H3) (fun Q' z => ⟨_, rfl, z⟩) (sq_same s2 hq) (fun D hD => ⟨[], upd_same, .nil, new_same hD _⟩) (fun D i H3 _ hP => hP.elim fun _ z => z.2.2) (fun D i x H3 hD hi hP hx => ?_) (fun D H3 hD hP => ?_)
          · obtain ⟨vs, g1, g2, g3⟩ := hP
            obtain ⟨f, hf1, _⟩ := dps_get ha hx
            obtain ⟨r, va, vb, rfl, h2', h3'⟩ := pick1 (Same.refl H1) hx hf1
            refine ⟨rfl, ?_⟩
            unfold tYes
            refine iteT ⟨_, rfl, ix_row (sq_same (s2.trans g3) h2') rfl ⟨vs, g1, small1000 ?_, vs ++ [va], upd_same, ?_, fun b o z => ?_⟩⟩
            · rw [dps_len g2, List.length_map, List.length_take]
              omega
            · rw [take_one hf1, List.map_append]
              exact dps_snoc g2 h3'
            · rw [upd_ne (ne_of_none z hD)]
              exact g3 _ _ z
          · obtain ⟨vs, g1, g2, g3⟩ := hP
            rw [List.take_of_length_le (by omega)] at g2
            refine ⟨D, vs, fs.map firstOf, rfl, .inl (SqL.of g1), dps_same (s2.trans g3) g2, ?_, by rw [List.length_map]; omega, fun H4 s4 => q_is eq0.symm (k _ ((s02.trans g3).trans s4))⟩
            intro a hm
            obtain ⟨f, hfm, rfl⟩ := List.mem_map.mp hm
            cases ep : pairOf f with
            | none =>
              have : firstOf f = .none := by
                unfold firstOf
                rw [ep]
              rw [this]
              exact True.intro
            | some ab =>
              obtain ⟨a, b⟩ := ab
              have ef : firstOf f = a := by
                unfold firstOf
                rw [ep]
              rw [ef]
              exact (hs fs e f hfm a b ep).1
      · rw [decide_eq_false h5, Bool.false_and] at eq0
        rw [decide_eq_false (by omega : ¬ (ys.length : Int) ≤ 6)]
        exact iteT (q_is eq0.symm (k H1 s1))
    · rw [decide_eq_false h1, Bool.false_and] at eq0
      exact iteDF (by omega) ⟨_, rfl, iteT (q_is eq0.symm (k H1 s1))⟩
end
end Q
set_option Elab.async false
set_option linter.all false
set_option maxRecDepth 100000
set_option maxHeartbeats 4000000
/-! ### _are_rules, _ways_to_fill -/
namespace Q
open PySem L2 XD
def ruleOk (t : List (Str × List Str)) (d : PyData) : Bool := match rowOf d with
  | some fs => areFacts t d && (decide (1 ≤ fs.length) && decide (fs.length ≤ 4))
  | none => false
def areRules (t : List (Str × List Str)) (d : PyData) : Bool := match rowOf d with
  | some rs => decide (rs.length ≤ 20) && rs.all (ruleOk t)
  | none => false
def ROk (d : PyData) : Prop := ∀ rs, rowOf d = some rs → ∀ r ∈ rs, FOk r
theorem TabAt.same {K : PySem.W.Frag} {H H' : Hp} {p : Addr} {t : List (Str × List Str)} (s : Same H H') (h : TabAt K H p t) : TabAt K H' p t := by
  obtain ⟨ps, kvs, a, b, c⟩ := h
  exact ⟨ps, kvs, a.same s, b.same s, c⟩
theorem facts_row {t : List (Str × List Str)} {d : PyData} (h : areFacts t d = true) : ∃ fs, rowOf d = some fs := by
  unfold areFacts at h
  cases e : rowOf d with
  | some fs => exact ⟨fs, rfl⟩
  | none =>
    rw [e] at h
    cases h
theorem ruleOk_no {t : List (Str × List Str)} {d : PyData} (h : areFacts t d = false) : ruleOk t d = false := by
  unfold ruleOk
  cases e : rowOf d with
  | none => rfl
  | some fs =>
    show (areFacts t d && _) = false
    rw [h, Bool.false_and]
theorem ruleOk_yes {t : List (Str × List Str)} {d : PyData} {fs : List PyData} (e : rowOf d = some fs) (h : areFacts t d = true) : ruleOk t d = (decide (1 ≤ fs.length) && decide (fs.length ≤ 4)) := by
  unfold ruleOk
  rw [e]
  show (areFacts t d && _) = _
  rw [h, Bool.true_and]
def spAreRules (K : PySem.W.Frag) : Sp := fun vs H Q _ => ∃ (p : Addr) (t : List (Str × List Str)) (v : V) (d : PyData), vs = [.ref p, v] ∧ TabAt K H p t ∧ Dp K H v d ∧ ROk d ∧ ∀ H', Same H H' → Q (.bl (areRules t d)) H'
section
variable {P : Program} {w : World} {K : PySem.W.Frag} {mg : Str → Option Value} {base : Heap}
theorem scAreRules : FnScope ["fields", "rules", "rule"] ["fields", "rules"] (defScope sAreRules) := ⟨rfl, rfl, rfl, by decide +kernel, rfl, by decide +kernel, by decide +kernel⟩
theorem ok_arerules {f : Addr} {fd : FuncData} (F : Fun K "_are_rules" "_are_rules" sAreRules f fd) (T : Bb mg) (C : Fm mg) (KR : Kn P w K mg base 1 "is_row" ["thing"] (spIsRow K)) (KF : Kn P w K mg base 3 "are_facts" ["fields", "facts"] (spAreFacts K)) :
    FnOk P w K mg base CX0 4 f fd ["fields", "rules"] (spAreRules K) := by
  obtain ⟨fR, fdR, GR, kR, bR, mR⟩ := KR.ex
  obtain ⟨fF, fdF, GF, kF, bF, mF⟩ := KF.ex
  obtain ⟨tR, hR⟩ := C.mr
  obtain ⟨tP, hP⟩ := C.mp
  refine F.ok scAreRules (fun vs H Q E h => ?_) (fun cdv A outer s H vs Q E hr h => ?_)
  · obtain ⟨p, t, v, d, rfl, _⟩ := h
    rfl
  obtain ⟨p, t, v, d, rfl, ht, hd, hs, k⟩ := h
  refine ⟨_, pss_cons (ps_if (PW.pt (pw_or (pt_not (pt_val (pe_call GR (hr.mono (by decide)) rfl mR kR bR .nil pass0 (pa_cons (pv 1) pa_nil)))) (pw_or1 (pt_cmpR op_gt (pe_callB call_len_seq rfl T.len PySem.boot_len (pa_cons (pv 1) pa_nil)) (pe_glob (v := .int 20) (by rfl) hR ⟨_, rfl⟩) (nomark _)))))
      (pss_one (ps_ret pe_bl)) pss_nil)
    (pss_cons (ps_for PassesOwn.never rfl (pi_row (pv 1)) (pg_name (i := 2) scAreRules.nd rfl (.inl rfl))
      (pss_one (ps_if (PW.pt (pw_or (pt_not (pt_val (pe_call GF hr rfl mF kF bF .nil pass0 (pa_cons (pv 0) (pa_cons (pv 2) pa_nil))))) (pw_or1 (pt_not (pt_chain op_le op_le pe_int (pe_callB call_len_seq rfl T.len PySem.boot_len (pa_cons (pv 2) pa_nil)) (pe_glob (v := .int 4) (by rfl) hP ⟨_, rfl⟩))))))
        (pss_one (ps_ret pe_bl)) pss_nil)))
    (pss_one (ps_ret pe_bl))), ?_⟩
  refine ⟨_, rfl, v, d, rfl, hd, fun H1 s1 => ⟨_, rfl, ?_⟩⟩
  cases e : rowOf d with
  | none =>
    rw [isRow_no e]
    refine iteT (iteT (q_is ?_ (k H1 s1)))
    unfold areRules
    rw [e]
  | some fs =>
    rw [isRow_of e]
    obtain ⟨q, ys, rfl, hq, ha⟩ := row_len (dp_same s1 hd) e
    have hlen := dps_len ha
    have eq0 : areRules t d = (decide (fs.length ≤ 20) && fs.all (ruleOk t)) := by
      unfold areRules
      rw [e]
    refine iteF ⟨_, rfl, q, ys, rfl, hq, _, _, rfl, rfl, _, rfl, ?_⟩
    by_cases h1 : fs.length ≤ 20
    · rw [decide_eq_true h1, Bool.true_and] at eq0
      refine iteDF (by omega) ?_
      show tFor (iRow K (tVar 1)) (gName 2) _ _ _ _
      refine for_row (ys := ys) (H0 := H1) (fun i σ H' => ∃ f1 : Option V, σ = [some (.ref p), some (.ref q), f1] ∧ Same H1 H' ∧ fs.all (ruleOk t) = (fs.drop i).all (ruleOk t)) (fun Q' z => ⟨_, rfl, z⟩) hq ⟨none, rfl, Same.refl H1, rfl⟩ ?_ ?_ ?_
      · rintro i σ H' ⟨_, _, z, _⟩
        exact z
      · rintro i x σ H2 hi ⟨f1, rfl, s2, h6⟩ hx
        obtain ⟨f, hf1, hdf⟩ := dps_get ha hx
        have hfm : f ∈ fs := List.mem_of_getElem? hf1
        have hdrop : fs.drop i = f :: fs.drop (i + 1) := by
          obtain ⟨hi2, e2⟩ := List.getElem?_eq_some_iff.mp hf1
          rw [List.drop_eq_getElem_cons hi2, e2]
        rw [hdrop, List.all_cons] at h6
        have no : ∀ H3, Same H1 H3 → ruleOk t f = false → Q (.bl false) H3 := fun H3 s3 z => q_is (by rw [eq0, h6, z] <;> rfl) (k _ (s1.trans s3))
        refine ⟨_, rfl, _, rfl, p, t, x, f, rfl, TabAt.same (s1.trans s2) ht, dp_same s2 hdf, hs fs e f hfm, fun H3 s3 => ⟨_, rfl, ?_⟩⟩
        have s13 : Same H1 H3 := s2.trans s3
        cases ef : areFacts t f with
        | false => exact iteT (iteT (no _ s13 (ruleOk_no ef)))
        | true =>
          obtain ⟨gs, eg⟩ := facts_row ef
          obtain ⟨r, zs, rfl, hr2, hzs⟩ := row_len (dp_same s13 hdf) eg
          have hzl := dps_len hzs
          have eok := ruleOk_yes eg ef
          refine iteF ⟨_, rfl, r, zs, rfl, hr2, _, _, rfl, rfl, _, rfl, ?_⟩
          by_cases g1 : 1 ≤ gs.length
          · rw [decide_eq_true g1, Bool.true_and] at eok
            refine iteDT (by omega) ⟨_, _, rfl, rfl, _, rfl, ?_⟩
            by_cases g4 : gs.length ≤ 4
            · rw [decide_eq_true g4] at eok
              rw [decide_eq_true (by omega : (zs.length : Int) ≤ 4)]
              refine iteF ⟨_, rfl, s13, ?_⟩
              rw [h6, eok, Bool.true_and]
            · rw [decide_eq_false g4] at eok
              rw [decide_eq_false (by omega : ¬ (zs.length : Int) ≤ 4)]
              exact iteT (no _ s13 eok)
          · rw [decide_eq_false g1, Bool.false_and] at eok
            exact iteDF (by omega) ⟨_, rfl, iteT (no _ s13 eok)⟩
      · rintro σ H' ⟨f1, rfl, s2, h6⟩
        rw [List.drop_eq_nil_of_le (by omega)] at h6
        exact q_is (eq0.trans h6).symm (k _ (s1.trans s2))
    · rw [decide_eq_false h1, Bool.false_and] at eq0
      exact iteDT (by omega) (q_is eq0.symm (k H1 s1))
end
end Q
set_option Elab.async false
set_option linter.all false
set_option maxRecDepth 100000
set_option maxHeartbeats 4000000
/-! ### _ways_to_fill, _each_once -/
namespace Q
open PySem L2 XD
/-- so many ways -/
def waysFrom (a : Nat) (t : List (Str × List Str)) : Nat := t.foldl (fun a e => a * e.2.length) a
def spWays (K : PySem.W.Frag) : Sp := fun vs H Q _ => ∃ (p : Addr) (t : List (Str × List Str)), vs = [.ref p] ∧ TabAt K H p t ∧ t.length ≤ 6 ∧ (∀ e ∈ t, e.2.length ≤ 5) ∧ ∀ H', Same H H' → Q (.int (waysFrom 1 t : Nat)) H'
theorem ways_next {t : List (Str × List Str)} {i : Nat} {e : Str × List Str} (h : t[i]? = some e) : waysFrom 1 (t.take (i + 1)) = waysFrom 1 (t.take i) * e.2.length := by
  unfold waysFrom
  rw [take_one h, List.foldl_append]
  rfl
theorem ways_small {t : List (Str × List Str)} (hs : ∀ e ∈ t, e.2.length ≤ 5) : ∀ a, waysFrom a t ≤ a * 5 ^ t.length := by
  induction t with
  | nil =>
    intro a
    show a ≤ a * 1
    omega
  | cons e t ih =>
    intro a
    show waysFrom (a * e.2.length) t ≤ a * 5 ^ (t.length + 1)
    refine Nat.le_trans (ih (fun e' h => hs e' (List.mem_cons_of_mem _ h)) _) ?_
    rw [Nat.pow_succ, Nat.mul_assoc]
    refine Nat.mul_le_mul_left a ?_
    rw [Nat.mul_comm]
    exact Nat.mul_le_mul_left _ (hs e List.mem_cons_self)
/-- a rule as data -/
def ruleD (r : List (Str × Str)) : PyData := .tuple (r.map fun e => .tuple [.str e.1, .str e.2])
theorem eqvAll_pairs : ∀ a b : List (Str × Str), PyData.eqvAll (a.map fun e => .tuple [.str e.1, .str e.2]) (b.map fun e => .tuple [.str e.1, .str e.2]) = decide (a = b)
  | [], [] => by simp [PyData.eqvAll]
  | [], _ :: _ => by simp [PyData.eqvAll]
  | _ :: _, [] => by simp [PyData.eqvAll]
  | (n, w) :: a, (m, v) :: b => by
    rw [List.map_cons, List.map_cons, PyData.eqvAll, eqvAll_pairs a b, PyData.eqv, PyData.eqvAll, PyData.eqvAll, PyData.eqvAll, PyData.eqv, PyData.eqv]
    by_cases h1 : n = m
    · by_cases h2 : w = v
      · by_cases h3 : a = b
        · simp [h1, h2, h3]
        · simp [h1, h2, h3]
      · simp [h1, h2]
    · simp [h1]
theorem eqv_rule (a b : List (Str × Str)) : PyData.eqv (ruleD a) (ruleD b) = decide (a = b) := by
  unfold ruleD
  rw [PyData.eqv]
  exact eqvAll_pairs a b
def RStr (r : List (Str × Str)) : Prop := ∀ e ∈ r, PyData.strOk e.1 = true ∧ PyData.strOk e.2 = true
theorem rule_lay : ∀ r : List (Str × Str), RStr r → PyData.canLayAll0 (r.map fun e => .tuple [.str e.1, .str e.2]) = true
  | [], _ => by simp [PyData.canLayAll0]
  | e :: r, h => by
    have h1 := h e List.mem_cons_self
    have h2 := rule_lay r fun x hx => h x (List.mem_cons_of_mem _ hx)
    rw [List.map_cons, PyData.canLayAll0, h2, Bool.and_true]
    simp [PyData.canLay0, PyData.canLayAll0, h1.1, h1.2]
theorem rule_depth : ∀ r : List (Str × Str), PyData.depthAll (r.map fun e => .tuple [.str e.1, .str e.2]) ≤ 2
  | [] => by simp [PyData.depthAll]
  | e :: r => by
    have := rule_depth r
    rw [List.map_cons, PyData.depthAll]
    simp [PyData.depth, PyData.depthAll] at this ⊢
    omega
theorem rule_shaped {r : List (Str × Str)} (h : RStr r) : SeqAt.shaped (ruleD r) = true := by
  unfold SeqAt.shaped ruleD
  have h1 := rule_lay r h
  have h2 := rule_depth r
  rw [PyData.canLay0, h1, Bool.true_and]
  refine decide_eq_true ?_
  rw [PyData.depth]
  omega
theorem rules_lay : ∀ rs : List (List (Str × Str)), (∀ r ∈ rs, RStr r) → PyData.canLayAll0 (rs.map ruleD) = true
  | [], _ => by simp [PyData.canLayAll0]
  | r :: rs, h => by
    rw [List.map_cons, PyData.canLayAll0, rules_lay rs fun x hx => h x (List.mem_cons_of_mem _ hx), Bool.and_true]
    exact SeqAt.canLay_of_shaped (rule_shaped (h r List.mem_cons_self))
theorem rules_depth : ∀ rs : List (List (Str × Str)), PyData.depthAll (rs.map ruleD) ≤ 3
  | [] => by simp [PyData.depthAll]
  | r :: rs => by
    have h1 := rules_depth rs
    have h2 := rule_depth r
    rw [List.map_cons, PyData.depthAll]
    have h3 : (ruleD r).depth ≤ 3 := by
      unfold ruleD
      rw [PyData.depth]
      omega
    omega
theorem rules_shaped {rs : List (List (Str × Str))} (h : ∀ r ∈ rs, RStr r) : SeqAt.shaped (.list (rs.map ruleD)) = true := by
  unfold SeqAt.shaped
  have h1 := rules_lay rs h
  have h2 := rules_depth rs
  rw [PyData.canLay0, h1, Bool.true_and]
  refine decide_eq_true ?_
  rw [PyData.depth]
  omega
theorem prd_dps {K : PySem.W.Frag} {H : Hp} : ∀ {qs : List Addr} {r : List (Str × Str)}, Paired (fun q (e : Str × Str) => SqT K H q [.str e.1, .str e.2]) qs r → DpAll K H (qs.map V.ref) (r.map fun e => .tuple [.str e.1, .str e.2])
  | _, _, .nil => .nil
  | _, _, .cons a b => .cons (.tup a (.cons (.str _) (.cons (.str _) .nil))) (prd_dps b)
theorem RuleAt.dp {K : PySem.W.Frag} {H : Hp} {p : Addr} {r : List (Str × Str)} (h : RuleAt K H p r) : Dp K H (.ref p) (ruleD r) := by
  obtain ⟨qs, h1, h2⟩ := h
  exact .tup h1.sqT (prd_dps h2)
theorem RuleAt.same {K : PySem.W.Frag} {H H' : Hp} {p : Addr} {r : List (Str × Str)} (s : Same H H') (h : RuleAt K H p r) : RuleAt K H' p r := by
  obtain ⟨qs, h1, h2⟩ := h
  exact ⟨qs, h1.same s, prd_same s h2⟩
theorem rules_dps {K : PySem.W.Frag} {H : Hp} : ∀ {ps : List Addr} {rs : List (List (Str × Str))}, Paired (RuleAt K H) ps rs → DpAll K H (ps.map V.ref) (rs.map ruleD)
  | _, _, .nil => .nil
  | _, _, .cons a b => .cons a.dp (rules_dps b)
theorem rules_same {K : PySem.W.Frag} {H H' : Hp} (s : Same H H') : ∀ {ps : List Addr} {rs : List (List (Str × Str))}, Paired (RuleAt K H) ps rs → Paired (RuleAt K H') ps rs
  | _, _, .nil => .nil
  | _, _, .cons a b => .cons (a.same s) (rules_same s b)
theorem prd_at {α β : Type} {R : α → β → Prop} : ∀ {xs : List α} {ys : List β} {i : Nat} {x : α}, Paired R xs ys → xs[i]? = some x → ∃ y, ys[i]? = some y ∧ R x y
  | _, _, _, _, .nil, e => by simp at e
  | _, _, 0, _, .cons a b, e => by
    simp at e
    subst e
    exact ⟨_, rfl, a⟩
  | _, _, i + 1, x, .cons a b, e => by
    obtain ⟨y, h1, h2⟩ := prd_at (i := i) (x := x) b (by simpa using e)
    exact ⟨y, by simpa using h1, h2⟩
/-- each once, at its first place -/
def once (rs : List (List (Str × Str))) : List (List (Str × Str)) := rs.foldl (fun acc r => if r ∈ acc then acc else acc ++ [r]) []
theorem once_next {rs : List (List (Str × Str))} {i : Nat} {r : List (Str × Str)} (h : rs[i]? = some r) : once (rs.take (i + 1)) = if r ∈ once (rs.take i) then once (rs.take i) else once (rs.take i) ++ [r] := by
  unfold once
  rw [take_one h, List.foldl_append]
  rfl
def RulesAt (K : PySem.W.Frag) (H : Hp) (p : Addr) (rs : List (List (Str × Str))) : Prop := ∃ ps : List Addr, SqZ H p (ps.map V.ref) ∧ Paired (RuleAt K H) ps rs
def spEach (K : PySem.W.Frag) : Sp := fun vs H Q _ => ∃ (q : Addr) (ps : List Addr) (rs : List (List (Str × Str))), vs = [.ref q] ∧ SqL K H q (ps.map V.ref) ∧ Paired (RuleAt K H) ps rs ∧ (∀ r ∈ rs, RStr r) ∧ rs.length ≤ 1000 ∧ ∀ z H', Same H H' → RulesAt K H' z (once rs) → Q (.ref z) H'
section
variable {P : Program} {w : World} {K : PySem.W.Frag} {mg : Str → Option Value} {base : Heap}
theorem scWays : FnScope ["fields", "ways", "_", "values"] ["fields"] (defScope sWays) := ⟨rfl, rfl, rfl, by decide +kernel, rfl, by decide +kernel, by decide +kernel⟩
theorem ok_ways {f : Addr} {fd : FuncData} (F : Fun K "_ways_to_fill" "_ways_to_fill" sWays f fd) (T : Bb mg) : FnOk P w K mg base CX0 1 f fd ["fields"] (spWays K) := by
  refine F.ok scWays (fun vs H Q E h => ?_) (fun cdv A outer s H vs Q E hr h => ?_)
  · obtain ⟨p, t, rfl, _⟩ := h
    rfl
  obtain ⟨p, t, rfl, ⟨ps, kvs, hz, hT, hn, hm⟩, hl, hs, k⟩ := h
  refine ⟨_, pss_cons (ps_set (i := 1) scWays.nd rfl (.inl rfl) pe_int)
    (pss_cons (ps_for PassesOwn.never rfl (pi_row (pv 0)) (pg_tup rfl (pgs_cons (pg_name (i := 2) scWays.nd rfl (.inl rfl)) (pgs_cons (pg_name (i := 3) scWays.nd rfl (.inl rfl)) pgs_nil)))
      (pss_one (ps_set (i := 1) scWays.nd rfl (.inl rfl) (pe_mul (pv 1) (pe_callB call_len_seq rfl T.len PySem.boot_len (pa_cons (pv 3) pa_nil))))))
    (pss_one (ps_ret (pv 1)))), ?_⟩
  have hlen : (ps.map V.ref).length = t.length := by rw [List.length_map, hT.len.1]
  show tFor (iRow K (tVar 0)) _ _ _ [some (.ref p), some (.int 1), none, none] _
  refine for_row (ys := ps.map V.ref) (H0 := H) (fun i σ H' => ∃ f2 f3 : Option V, σ = [some (.ref p), some (.int (waysFrom 1 (t.take i) : Nat)), f2, f3] ∧ H' = H) (fun Q' z => ⟨_, rfl, z⟩) (.inr hz.sqT) ⟨none, none, rfl, rfl⟩ ?_ ?_ ?_
  · rintro i σ H' ⟨_, _, _, rfl⟩
    exact Same.refl _
  · rintro i x σ H' hi ⟨f2, f3, rfl, rfl⟩ hx
    obtain ⟨q1, v1, n, ws, rfl, e1, e2, e3⟩ := hT.at hx
    have b1 : waysFrom 1 (t.take i) ≤ 15625 := by
      refine Nat.le_trans (ways_small (fun e he => hs e (List.mem_of_mem_take he)) 1) ?_
      rw [Nat.one_mul]
      have : (t.take i).length ≤ 6 := by
        rw [List.length_take]
        omega
      exact Nat.le_trans (Nat.pow_le_pow_right (by decide) this) (by decide)
    refine ⟨q1, _, rfl, e2, rfl, .str n, _, rfl, .ref v1, [], rfl, rfl, _, rfl, _, rfl, v1, _, rfl, .inr e3, _, _, rfl, rfl, ?_, ?_⟩
    · constructor
      · have : -(2 ^ 64 : Int) < 0 := by decide
        omega
      · have : (15625 : Int) < 2 ^ 64 := by decide
        omega
    · refine ⟨some (.str n), some (.ref v1), ?_, rfl⟩
      rw [ways_next e1, List.length_map]
      show [_, some (V.int _), _, _] = _
      rw [Int.natCast_mul]
  · rintro σ H' ⟨f2, f3, rfl, rfl⟩
    rw [List.take_of_length_le (by omega)]
    exact ⟨_, rfl, k _ (Same.refl _)⟩
theorem scEach : FnScope ["rules", "kept", "rule"] ["rules"] (defScope sEach) := ⟨rfl, rfl, rfl, by decide +kernel, rfl, by decide +kernel, by decide +kernel⟩
theorem ok_each {f : Addr} {fd : FuncData} (F : Fun K "_each_once" "_each_once" sEach f fd) (T : Bb mg) : FnOk P w K mg base CX0 1 f fd ["rules"] (spEach K) := by
  refine F.ok scEach (fun vs H Q E h => ?_) (fun cdv A outer s H vs Q E hr h => ?_)
  · obtain ⟨q, ps, rs, rfl, _⟩ := h
    rfl
  obtain ⟨q, ps, rs, rfl, hq, hp, hs, hm, k⟩ := h
  have vt_ : PySem.bootBuiltins "tuple" = some (.type "tuple") := by decide +kernel
  have hu2 : (A.deeper (PyProof.Rows.envOfC "_each_once" (defScope sEach) s.heap.objs.size f cdv)).units + 65 < cLine := by
    have := hr.un
    omega
  refine ⟨_, pss_cons (ps_set (i := 1) scEach.nd rfl (.inl rfl) (pe_lst pa_nil))
    (pss_cons (ps_for PassesOwn.never rfl (pi_row (pv 0)) (pg_name (i := 2) scEach.nd rfl (.inl rfl))
      (pss_one (ps_if (pt_cmpR (op_notInD hu2) (pv 2) (pv 1) (by with_unfolding_all rfl))
        (pss_one (ps_expr (pe_bm PySem.F.plainAttrs_list PySem.F.slot_list_append PySem.F.type_list_append mt_append (pv 1) (pa_cons (pv 2) pa_nil)))) pss_nil)))
    (pss_one (ps_ret (pe_callTy call_tupZ rfl T.tup vt_ (pa_cons (pv 1) pa_nil))))), ?_⟩
  refine ⟨by show 0 ≤ sizeLine; decide, fun B hB => ?_⟩
  have hlen : (ps.map V.ref).length = rs.length := by rw [List.length_map, prd_len hp]
  have s1 : Same H (upd H B (.lst [])) := new_same hB _
  show tFor (iRow K (tVar 0)) _ _ _ [some (.ref q), some (.ref B), none] _
  refine for_row (ys := ps.map V.ref) (H0 := H) (fun i σ H' => ∃ (f2 : Option V) (ks : List Addr), σ = [some (.ref q), some (.ref B), f2] ∧ H' B = some (.lst (ks.map V.ref)) ∧ Paired (RuleAt K H) ks (once (rs.take i)) ∧ (∀ r ∈ once (rs.take i), r ∈ rs) ∧ ks.length ≤ i ∧ Same H H') (fun Q' z => ⟨_, rfl, z⟩) (.inl hq)
    ⟨none, [], rfl, upd_same, .nil, (fun (r : List (Str × Str)) (h : r ∈ ([] : List (List (Str × Str)))) => absurd h List.not_mem_nil), Nat.le_refl _, s1⟩ ?_ ?_ ?_
  · rintro i σ H' ⟨_, _, _, _, _, _, _, z⟩
    exact z
  · rintro i x σ H' hi ⟨f2, ks, rfl, g1, g2, g3, g4, g5⟩ hx
    obtain ⟨pr, e0, rfl⟩ : ∃ pr, ps[i]? = some pr ∧ x = .ref pr := by
      rw [List.getElem?_map] at hx
      cases e : ps[i]? with
      | none =>
        rw [e] at hx
        cases hx
      | some pr =>
        rw [e] at hx
        cases hx
        exact ⟨pr, rfl, rfl⟩
    obtain ⟨r, e1, hr1⟩ := prd_at hp e0
    have hrm : r ∈ rs := List.mem_of_getElem? e1
    have hnx := once_next e1
    have hany : ((once (rs.take i)).map ruleD).any (fun z => PyData.eqv z (ruleD r)) = decide (r ∈ once (rs.take i)) := by
      rw [List.any_map]
      refine (List.any_eq (p := _)).trans (decide_eq_decide.mpr ⟨fun ⟨y, h1, h2⟩ => ?_, fun h1 => ⟨r, h1, ?_⟩⟩)
      · have h3 : PyData.eqv (ruleD y) (ruleD r) = true := h2
        rw [eqv_rule] at h3
        exact (of_decide_eq_true h3) ▸ h1
      · show PyData.eqv (ruleD r) (ruleD r) = true
        rw [eqv_rule]
        exact decide_eq_true rfl
    refine ⟨_, rfl, _, rfl, ruleD r, (once (rs.take i)).map ruleD, (hr1.same g5).dp, .lst (SqL.of g1) (rules_dps (rules_same g5 g2)), rule_shaped (hs r hrm), rules_shaped (fun r' h => hs r' (g3 r' h)), _, rfl, ?_⟩
    rw [hany]
    by_cases hin : r ∈ once (rs.take i)
    · rw [if_pos hin] at hnx
      rw [decide_eq_true hin]
      refine iteF ⟨_, ks, rfl, g1, by rw [hnx]; exact g2, by rw [hnx]; exact g3, by omega, g5⟩
    · rw [if_neg hin] at hnx
      rw [decide_eq_false hin]
      refine iteT ⟨_, rfl, .inl ⟨rfl, _, SqL.of g1⟩, _, rfl, B, _, _, rfl, rfl, g1, small1000 (by rw [List.length_map]; omega), ?_⟩
      refine ⟨_, ks ++ [pr], rfl, ?_, ?_, ?_, ?_, fun b o z => ?_⟩
      · rw [upd_same, List.map_append] <;> rfl
      · rw [hnx]
        exact prd_snoc g2 hr1
      · rw [hnx]
        intro r' h'
        rcases List.mem_append.mp h' with h' | h'
        · exact g3 r' h'
        · rw [List.mem_singleton.mp h']
          exact hrm
      · rw [List.length_append, List.length_singleton]
        omega
      · rw [upd_ne (ne_of_none z hB)]
        exact g5 _ _ z
  · rintro σ H' ⟨f2, ks, rfl, g1, g2, g3, g4, g5⟩
    rw [List.take_of_length_le (by omega)] at g2
    refine ⟨_, rfl, B, _, rfl, .inl ⟨SqL.of g1, fun l o hl ho => ?_⟩⟩
    have sl : Same H' (upd H' l (.frz o (.tup (ks.map V.ref)))) := new_same hl _
    exact k l _ (g5.trans sl) ⟨ks, ⟨o, upd_same, ho⟩, rules_same (g5.trans sl) g2⟩
end
end Q
set_option Elab.async false
set_option linter.all false
set_option maxRecDepth 100000
set_option maxHeartbeats 4000000
/-! ### what surely are facts -/
namespace Q
open PySem L2 XD
theorem stands_str {ws : List Str} {d : PyData} (h : stands ws d = true) : ∃ w, d = .str w ∧ w ∈ ws := by
  unfold stands at h
  obtain ⟨z, hz, e⟩ := List.any_eq_true.mp h
  obtain ⟨w, hw, rfl⟩ := List.mem_map.mp hz
  cases d with
  | str x =>
    rw [PyData.eqv] at e
    have : w = x := by simpa using e
    subst this
    exact ⟨w, rfl, hw⟩
  | _ => simp [PyData.eqv] at e
/-- the pair of texts that a fact is -/
def factOf (f : PyData) : Str × Str := match pairOf f with
  | some (.str n, .str w) => (n, w)
  | _ => (Str.empty, Str.empty)
def factsOf (d : PyData) : List (Str × Str) := match rowOf d with
  | some fs => fs.map factOf
  | none => []
theorem go_cons {t : List (Str × List Str)} {seen : List Str} {f : PyData} {fs : List PyData} (h : goFacts t seen (f :: fs) = true) :
    ∃ n w ws, pairOf f = some (.str n, .str w) ∧ look n t = some ws ∧ w ∈ ws ∧ seen.contains n = false ∧ goFacts t (n :: seen) fs = true := by
  cases ep : pairOf f with
  | none =>
    rw [go_none ep] at h
    cases h
  | some ab =>
    obtain ⟨a, b⟩ := ab
    cases es : isStr a with
    | false =>
      rw [go_nostr ep es] at h
      cases h
    | true =>
      obtain ⟨n, rfl⟩ : ∃ n, a = .str n := by
        cases a <;> first | exact ⟨_, rfl⟩ | cases es
      cases el : look n t with
      | none =>
        rw [go_new ep el] at h
        cases h
      | some ws =>
        rw [go_old ep el, Bool.and_eq_true, Bool.and_eq_true] at h
        obtain ⟨h1, h2, h3⟩ := h
        obtain ⟨w, rfl, hw⟩ := stands_str h2
        exact ⟨n, w, ws, rfl, el, hw, by simpa using h1, h3⟩
theorem facts_good {K : PySem.W.Frag} {H : Hp} {t : List (Str × List Str)} : ∀ {ys : List V} {fs : List PyData} {seen : List Str}, DpAll K H ys fs → goFacts t seen fs = true →
    ∃ (ps : List Addr) (kvs : List (Key × V)), ys = ps.map V.ref ∧ FactR K H ps kvs (fs.map factOf) ∧ ((fs.map factOf).map (·.1)).Nodup ∧ (∀ e ∈ fs.map factOf, e.1 ∉ seen) ∧ (∀ e ∈ fs.map factOf, ∃ ws, look e.1 t = some ws ∧ e.2 ∈ ws)
  | _, _, _, .nil, _ => ⟨[], [], rfl, .nil, List.nodup_nil, fun e h => absurd h List.not_mem_nil, fun e h => absurd h List.not_mem_nil⟩
  | _, _, seen, .cons (v := v) (d := f) (ds := fs) h t', g => by
    obtain ⟨n, w, ws, e1, e2, e3, e4, e5⟩ := go_cons g
    obtain ⟨ps, kvs, rfl, i1, i2, i3, i4⟩ := facts_good t' e5
    obtain ⟨r, va, vb, rfl, hr, hva, hvb⟩ := pair_at h e1
    cases hva
    cases hvb
    have ef : factOf f = (n, w) := by
      unfold factOf
      rw [e1]
    have nin : n ∉ seen := fun z => by
      have : seen.contains n = true := by simpa using z
      rw [this] at e4
      cases e4
    refine ⟨r :: ps, (.inr n, .str w) :: kvs, rfl, ?_, ?_, ?_, ?_⟩
    · rw [List.map_cons, ef]
      exact .cons hr.symm i1
    · rw [List.map_cons, List.map_cons, ef, List.nodup_cons]
      refine ⟨fun z => ?_, i2⟩
      obtain ⟨e, he, hn⟩ := List.mem_map.mp z
      exact i3 e he (hn ▸ List.mem_cons_self)
    · rw [List.map_cons, ef]
      intro e he
      rcases List.mem_cons.mp he with rfl | he
      · exact nin
      · exact fun z => i3 e he (List.mem_cons_of_mem _ z)
    · rw [List.map_cons, ef]
      intro e he
      rcases List.mem_cons.mp he with rfl | he
      · exact ⟨ws, e2, e3⟩
      · exact i4 e he
theorem facts_go {t : List (Str × List Str)} {d : PyData} {fs : List PyData} (e : rowOf d = some fs) (h : areFacts t d = true) : fs.length ≤ t.length ∧ goFacts t [] fs = true := by
  unfold areFacts at h
  rw [e] at h
  have h2 : (decide (fs.length ≤ t.length) && goFacts t [] fs) = true := h
  rw [Bool.and_eq_true] at h2
  exact ⟨of_decide_eq_true h2.1, h2.2⟩
/-- fields that are such, as a table -/
def entryOf (f : PyData) : Str × List Str := match pairOf f with
  | some (a, b) => (strOf a, match rowOf b with
    | some ws => textsOf ws
    | none => [])
  | none => (Str.empty, [])
def tabOf (d : PyData) : List (Str × List Str) := match rowOf d with
  | some fs => fs.map entryOf
  | none => []
theorem az_small {c : Nat} (h : az c = true) : c < 0x110000 := by
  unfold az at h
  rw [Bool.and_eq_true] at h
  have h2 : ¬ (("z" : Str).cps.toList < [c]) := by simpa using h.2
  by_cases h3 : c < 0x110000
  · exact h3
  · exfalso
    refine h2 ?_
    show ([122] : List Nat) < [c]
    exact List.cons_lt_cons_iff.mpr (.inl (by omega))
theorem word_ok {s : Str} (h : word s = true) : PyData.strOk s = true := by
  unfold word at h
  rw [Bool.and_eq_true] at h
  unfold PyData.strOk
  rw [← Array.all_toList]
  refine List.all_eq_true.mpr fun c hc => decide_eq_true (az_small (List.all_eq_true.mp h.2 c hc))
theorem entry_first (f : PyData) : (entryOf f).1 = strOf (firstOf f) := by
  unfold entryOf firstOf
  cases pairOf f with
  | none => rfl
  | some ab => rfl
theorem word_str {d : PyData} (h : isWord d = true) : ∃ n, d = .str n ∧ word n = true := by
  cases d with
  | str n => exact ⟨n, rfl, h⟩
  | _ => cases h
theorem field_good {f : PyData} (h : fieldOk f = true) (hw : isWord (firstOf f) = true) : ∃ (n : Str) (b : PyData) (ws : List PyData), pairOf f = some (.str n, b) ∧ rowOf b = some ws ∧ ws.all isWord = true ∧ ws.length ≤ 5 ∧ word n = true ∧ entryOf f = (n, textsOf ws) := by
  cases e : pairOf f with
  | none =>
    unfold fieldOk at h
    rw [e] at h
    cases h
  | some ab =>
    obtain ⟨a, b⟩ := ab
    have h1 : areValues b = true := by
      unfold fieldOk at h
      rw [e] at h
      exact h
    have h2 : firstOf f = a := by
      unfold firstOf
      rw [e]
    rw [h2] at hw
    obtain ⟨n, rfl, hn⟩ := word_str hw
    unfold areValues at h1
    cases er : rowOf b with
    | none =>
      rw [er] at h1
      cases h1
    | some ws =>
      rw [er] at h1
      have h3 : (decide (1 ≤ ws.length) && (decide (ws.length ≤ 5) && unlike ws)) = true := h1
      rw [Bool.and_eq_true, Bool.and_eq_true] at h3
      have h4 := h3.2.2
      unfold unlike at h4
      rw [Bool.and_eq_true] at h4
      refine ⟨n, b, ws, rfl, er, h4.1, of_decide_eq_true h3.2.1, hn, ?_⟩
      unfold entryOf
      rw [e]
      show (n, _) = (n, _)
      rw [er]
theorem fields_good {d : PyData} (h : areFields d = true) : ∃ fs, rowOf d = some fs ∧ fs.length ≤ 6 ∧ tabOf d = fs.map entryOf ∧ ((tabOf d).map (·.1)).Nodup ∧ ∀ f ∈ fs, fieldOk f = true ∧ isWord (firstOf f) = true := by
  unfold areFields at h
  cases e : rowOf d with
  | none =>
    rw [e] at h
    cases h
  | some fs =>
    rw [e] at h
    have h3 : (decide (1 ≤ fs.length) && (decide (fs.length ≤ 6) && (fs.all fieldOk && unlike (fs.map firstOf)))) = true := h
    rw [Bool.and_eq_true, Bool.and_eq_true, Bool.and_eq_true] at h3
    have h4 := h3.2.2.2
    unfold unlike at h4
    rw [Bool.and_eq_true] at h4
    have ht : tabOf d = fs.map entryOf := by
      unfold tabOf
      rw [e]
    refine ⟨fs, rfl, of_decide_eq_true h3.2.1, ht, ?_, fun f hf => ⟨List.all_eq_true.mp h3.2.2.1 f hf, List.all_eq_true.mp h4.1 _ (List.mem_map.mpr ⟨f, hf, rfl⟩)⟩⟩
    have h5 := of_decide_eq_true h4.2
    have : (tabOf d).map (·.1) = textsOf (fs.map firstOf) := by
      rw [ht]
      unfold textsOf
      rw [List.map_map, List.map_map]
      exact List.map_congr_left fun f _ => entry_first f
    rw [this]
    exact h5
theorem texts_word {ws : List PyData} (h : ws.all isWord = true) : ∀ w ∈ textsOf ws, word w = true := fun w hw => by
  obtain ⟨d, hd, rfl⟩ := List.mem_map.mp hw
  obtain ⟨n, rfl, hn⟩ := word_str (List.all_eq_true.mp h d hd)
  exact hn
theorem texts_len {ws : List PyData} : (textsOf ws).length = ws.length := by
  unfold textsOf
  rw [List.length_map]
end Q
set_option Elab.async false
set_option linter.all false
set_option maxRecDepth 100000
set_option maxHeartbeats 4000000
/-! ### what stays when a list or an object is changed -/
namespace Q
open PySem L2 XD
theorem sqZ_off {H : Hp} {D q : Addr} {xs acc acc' : List V} (h : SqZ H q xs) (hD : H D = some (.lst acc)) : SqZ (upd H D (.lst acc')) q xs := by
  obtain ⟨o, e, d⟩ := h
  have n : q ≠ D := fun z => by
    rw [z, hD] at e
    cases e
  exact ⟨o, by rw [upd_ne n]; exact e, d⟩
theorem RuleAt.off {K : PySem.W.Frag} {H : Hp} {D p : Addr} {acc acc' : List V} {r : List (Str × Str)} (h : RuleAt K H p r) (hD : H D = some (.lst acc)) : RuleAt K (upd H D (.lst acc')) p r := by
  obtain ⟨qs, h1, h2⟩ := h
  exact ⟨qs, sqZ_off h1 hD, prd_off hD h2⟩
theorem rules_off {K : PySem.W.Frag} {H : Hp} {D : Addr} {acc acc' : List V} (hD : H D = some (.lst acc)) : ∀ {ps : List Addr} {rs : List (List (Str × Str))}, Paired (RuleAt K H) ps rs → Paired (RuleAt K (upd H D (.lst acc'))) ps rs
  | _, _, .nil => .nil
  | _, _, .cons a b => .cons (a.off hD) (rules_off hD b)
theorem TabR.off {K : PySem.W.Frag} {H : Hp} {D : Addr} {acc acc' : List V} (hD : H D = some (.lst acc)) : ∀ {ps : List Addr} {kvs : List (Key × V)} {t : List (Str × List Str)}, TabR K H ps kvs t → TabR K (upd H D (.lst acc')) ps kvs t
  | _, _, _, .nil => .nil
  | _, _, _, .cons a b o c => .cons (seqT_off a hD) (seqT_off b hD) o (TabR.off hD c)
theorem TabR.snoc {K : PySem.W.Frag} {H : Hp} {q v : Addr} {n : Str} {ws : List Str} (h1 : SqT K H q [.str n, .ref v]) (h2 : SqT K H v (ws.map V.str)) (h3 : ∀ w ∈ ws, PyData.strOk w = true) : ∀ {ps : List Addr} {kvs : List (Key × V)} {t : List (Str × List Str)}, TabR K H ps kvs t → TabR K H (ps ++ [q]) (kvs ++ [(.inr n, .ref v)]) (t ++ [(n, ws)])
  | _, _, _, .nil => .cons h1 h2 h3 .nil
  | _, _, _, .cons a b o c => .cons a b o (TabR.snoc h1 h2 h3 c)
/-- all but what stands of objects is kept -/
def Sd (H H' : Hp) : Prop := ∀ b o, (∀ C dx fs, o ≠ .ins C dx fs) → H b = some o → H' b = some o
theorem sdOf {H H' : Hp} (s : Same H H') : Sd H H' := fun b o _ e => s b o e
theorem Sd.trans {H H' H'' : Hp} (s : Sd H H') (t : Sd H' H'') : Sd H H'' := fun b o n e => t b o n (s b o n e)
theorem sd_ins {H : Hp} {x C dx : Addr} {fs fs' : List (Str × V)} {dx' : Addr} (h : H x = some (.ins C dx fs)) : Sd H (upd H x (.ins C dx' fs')) := fun b o n e => by
  have nb : b ≠ x := fun z => by
    rw [z, h] at e
    exact n _ _ _ (Option.some.inj e).symm
  rw [upd_ne nb]
  exact e
theorem seq_sd {K : PySem.W.Frag} {H H' : Hp} {a : Addr} {xs : List V} (s : Sd H H') (h : SqL K H a xs) : SqL K H' a xs := by
  rcases h with (h | ⟨o, h⟩) | h
  · exact .inl (.inl (s _ _ (by intro _ _ _ z; cases z) h))
  · exact .inl (.inr ⟨o, s _ _ (by intro _ _ _ z; cases z) h⟩)
  · exact .inr h
theorem seqT_sd {K : PySem.W.Frag} {H H' : Hp} {a : Addr} {xs : List V} (s : Sd H H') (h : SqT K H a xs) : SqT K H' a xs := by
  rcases h with (h | ⟨o, h⟩) | h
  · exact .inl (.inl (s _ _ (by intro _ _ _ z; cases z) h))
  · exact .inl (.inr ⟨o, s _ _ (by intro _ _ _ z; cases z) h⟩)
  · exact .inr h
theorem sqZ_sd {H H' : Hp} {a : Addr} {xs : List V} (s : Sd H H') (h : SqZ H a xs) : SqZ H' a xs := by
  obtain ⟨o, e, d⟩ := h
  exact ⟨o, s _ _ (by intro _ _ _ z; cases z) e, d⟩
mutual
theorem dp_sd {K : PySem.W.Frag} {H H' : Hp} (s : Sd H H') : ∀ {v : V} {d : PyData}, Dp K H v d → Dp K H' v d
  | _, _, .non => .non
  | _, _, .bl b => .bl b
  | _, _, .int i => .int i
  | _, _, .str x => .str x
  | _, _, .lst h a => .lst (seq_sd s h) (dps_sd s a)
  | _, _, .tup h a => .tup (seqT_sd s h) (dps_sd s a)
theorem dps_sd {K : PySem.W.Frag} {H H' : Hp} (s : Sd H H') : ∀ {vs : List V} {ds : List PyData}, DpAll K H vs ds → DpAll K H' vs ds
  | _, _, .nil => .nil
  | _, _, .cons h t => .cons (dp_sd s h) (dps_sd s t)
end
theorem tabR_sd {K : PySem.W.Frag} {H H' : Hp} (s : Sd H H') : ∀ {ps : List Addr} {kvs : List (Key × V)} {t : List (Str × List Str)}, TabR K H ps kvs t → TabR K H' ps kvs t
  | _, _, _, .nil => .nil
  | _, _, _, .cons a b o c => .cons (seqT_sd s a) (seqT_sd s b) o (tabR_sd s c)
theorem tab_sd {K : PySem.W.Frag} {H H' : Hp} {p : Addr} {t : List (Str × List Str)} (s : Sd H H') (h : TabAt K H p t) : TabAt K H' p t := by
  obtain ⟨ps, kvs, a, b, c⟩ := h
  exact ⟨ps, kvs, sqZ_sd s a, tabR_sd s b, c⟩
theorem prd_sd {K : PySem.W.Frag} {H H' : Hp} (s : Sd H H') : ∀ {qs : List Addr} {r : List (Str × Str)}, Paired (fun q (e : Str × Str) => SqT K H q [.str e.1, .str e.2]) qs r → Paired (fun q (e : Str × Str) => SqT K H' q [.str e.1, .str e.2]) qs r
  | _, _, .nil => .nil
  | _, _, .cons a b => .cons (seqT_sd s a) (prd_sd s b)
theorem rules_sd' {K : PySem.W.Frag} {H H' : Hp} (s : Sd H H') : ∀ {ps : List Addr} {rs : List (List (Str × Str))}, Paired (RuleAt K H) ps rs → Paired (RuleAt K H') ps rs
  | _, _, .nil => .nil
  | _, _, .cons a b => by
    obtain ⟨qs, h1, h2⟩ := a
    exact .cons ⟨qs, sqZ_sd s h1, prd_sd s h2⟩ (rules_sd' s b)
theorem rulesAt_sd {K : PySem.W.Frag} {H H' : Hp} {p : Addr} {rs : List (List (Str × Str))} (s : Sd H H') (h : RulesAt K H p rs) : RulesAt K H' p rs := by
  obtain ⟨ps, a, b⟩ := h
  exact ⟨ps, sqZ_sd s a, rules_sd' s b⟩
theorem factR_sd {K : PySem.W.Frag} {H H' : Hp} (s : Sd H H') : ∀ {ps : List Addr} {kvs : List (Key × V)} {r : List (Str × Str)}, FactR K H ps kvs r → FactR K H' ps kvs r
  | _, _, _, .nil => .nil
  | _, _, _, .cons a c => .cons (a.elim (fun q => .inl (seqT_sd s q)) (fun q => .inr (seq_sd s q))) (factR_sd s c)
/-- all texts of a table, of rules over it, can be compared -/
theorem look_mem {n : Str} {ws : List Str} : ∀ {t : List (Str × List Str)}, look n t = some ws → (n, ws) ∈ t
  | [], h => by cases h
  | (m, vs) :: t, h => by
    unfold look at h
    by_cases e : m = n
    · rw [if_pos e] at h
      cases h
      rw [e]
      exact List.mem_cons_self
    · rw [if_neg e] at h
      exact List.mem_cons_of_mem _ (look_mem h)
theorem pick_mem {n w : Str} : ∀ {r : List (Str × Str)}, pick n r = some w → (n, w) ∈ r
  | [], h => by cases h
  | (m, v) :: r, h => by
    unfold pick at h
    by_cases e : m = n
    · rw [if_pos e] at h
      cases h
      rw [e]
      exact List.mem_cons_self
    · rw [if_neg e] at h
      exact List.mem_cons_of_mem _ (pick_mem h)
theorem sorted_mem {t : List (Str × List Str)} {r : List (Str × Str)} {e : Str × Str} (h : e ∈ sorted t r) : e ∈ r := by
  unfold sorted at h
  obtain ⟨f, _, h2⟩ := List.mem_filterMap.mp h
  cases ep : pick f.1 r with
  | none =>
    rw [ep] at h2
    cases h2
  | some w =>
    rw [ep] at h2
    cases h2
    exact pick_mem ep
end Q
set_option Elab.async false
set_option linter.all false
set_option maxRecDepth 100000
set_option maxHeartbeats 4000000
/-! Several except clauses, each with a name of its own; what is caught has no context, so that defs may be called in the suites. -/
namespace XT
open PySem PySem.Spec PyProof.Rows L2 L2N
/-- one clause: the class, the name's slot, the suite's reading -/
structure Cl where
  c : Value
  i : Nat
  ts : Addr → Value → Option Addr → TS
/-- the ends of a suite: behind it the name is gone -/
def offEnds (D : Ends) (i : Nat) : Ends :=
  ⟨fun σ H => D.nx (σ.set i none) H, D.rt, fun σ H => D.bk (σ.set i none) H, fun σ H => D.ct (σ.set i none) H⟩
def wCls (K : PySem.W.Frag) (Wout : WX) (D : Ends) : List Cl → WX
  | [] => Wout
  | q :: r => fun cls d σ H => ∃ yes, PySem.W.exmOne K cls q.c = some yes ∧
      (yes = true → ∀ a, H a = none → q.ts a cls d (offEnds D q.i) (σ.set q.i (some (.ref a))) H) ∧
      (yes = false → wCls K Wout D r cls d σ H)
inductive ClsOk (X : Cx) : List ExceptHandler → List Cl → Prop
  | nil : ClsOk X [] []
  | cons {x n : Str} {q : Cl} {b1 : Stmt} {more : List Stmt} {p1 p2 : Pos} {hs : List ExceptHandler} {l : List Cl}
      (hc : Names X x q.c) (hi : X.N[q.i]? = some n) (hl : X.env.kindOf n = some .local)
      (hsu : ∀ (a : Addr) (oe : Obj) (cls : Value) (d : Option Addr) (pn : List (Addr × Obj)), Zn cls d oe →
        (∃ vs, oe.data = .fields vs) → PSs (X.suite a ((a, oe) :: pn)) (b1 :: more) (q.ts a cls d)) (r : ClsOk X hs l) :
      ClsOk X (.ExceptHandler (some (.Name x p1)) (some n) (b1 :: more) p2 :: hs) (q :: l)
section
variable {X : Cx} {body : List Stmt} {hd1 : ExceptHandler} {hs1 : List ExceptHandler} {l : List Cl} {pos : Pos} {tb : WX → TS} {Wout : WX}
/-- what flies on from a clause list that did not take it -/
theorem flies {A : Around} {B : Heap} {env : Env} {outer : List Env} {a L : Addr} {Z : Obj → Prop} {s : Shared} {Q : Flow → Shared → Prop} {E : Value → Shared → Prop} {M : Model}
    (hf : env.frame = some L) (fl : HandSPX.FlyingZ B (env :: outer) a Z s.heap)
    (q : ∀ h, HandSPX.HeldZ B (env :: outer) a Z L h → s.heap.UpToSlots h → E (.ref a) { s with heap := h }) :
    wpAny M A (handleBy (.ref a) env []) Q E s := by
  refine wpAny_handleBy_nil ?_
  obtain ⟨_, _, _, oe, vs, T, oT, ts, he, hz, hd, h1, _⟩ := id fl
  have step : wpAny M A (setFlight (.ref a) env.frame) (fun _ s4 => wpAny M A (throw (.ref a) : Sem Flow) Q E s4) E s := by
    rw [hf]
    exact HandSPX.setFlight_upZ fl fun h hh up => wpAny_throw (q h hh up)
  unfold PySem.passOn
  refine wpAny_bind (wpAny_field he hd h1 ?_)
  rw [if_neg (show ¬ ((Value.ref T == Value.none) = true) by simp)]
  first
    | exact wpAny_bind (wpAny_pure (wpAny_bind step))
    | exact wpAny_bind step
theorem not_frame {B : Heap} {l : List Env} {h : Heap} {a : Addr} {o : Obj} {vs : Array Value} (ff : h.FunFrames B l)
    (e : h.get? a = some o) (dd : o.data = .fields vs) : a ∉ frs l := fun hm => by
  obtain ⟨_, u, hu, nf⟩ := ff.mem hm
  rw [hu] at e
  cases e
  exact nf _ dd
theorem ps_try_cls (hst : X.stack = X.env :: X.outer) (hf : X.env.frame = some X.env.locals) (hN : X.N.Nodup) (tk : L2N.Takes X Wout)
    (hb : ∀ (W : WX) (pn : List (Addr × Obj)) (xe : Value → Shared → Prop), L2N.Takes (X.tr pn xe) W →
      PassesOwn (model X.prog X.w) X.A X.env xe → PSs (X.tr pn xe) body (tb W))
    (hh : ClsOk X (hd1 :: hs1) l) : PS X (.Try body (hd1 :: hs1) [] [] pos) (fun D σ H => tb (wCls X.K Wout D l) D σ H) := by
  constructor
  intro pins s σ H D I h
  have ok := I.ok
  have frm : X.A.frames = some (X.env :: X.outer) := by
    rw [ok.frames, hst]
  refine wpAny_Try_except ?_
  have run := (hb (wCls X.K Wout D l) (X.pn ++ pins)
    (fun e s1 => wpAny (model X.prog X.w) X.A (noteFrame e X.env)
      (fun _ s2 => wpAny (model X.prog X.w) X.A (setFlight e none)
        (fun _ s3 => wpAny (model X.prog X.w) X.A (handleBy e X.env (hd1 :: hs1)) (SP X pins D) X.xe s3) X.xe s2) X.xe s1)
    ?takes PassesOwn.looking).run [] s σ H D (I.toTry _) h
  case takes =>
    intro u s1 air
    obtain ⟨a, B, sI, pins', σ1, H1, cls, d, rfl, J0, nb, up, sky, na, os, ag, w⟩ := air
    have J : Inv X pins σ1 H1 sI := J0.ofTry ok
    have sky1 : Sky B (X.env :: X.outer) a (Zn cls d) X.env.locals s1.heap := by
      rw [← hst]
      exact sky
    show wpAny (model X.prog X.w) X.A (noteFrame (.ref a) X.env) _ _ _
    refine L2N.Sky.land Zn.steady frm hf sky1 fun h3 fl up3 => ?_
    have J3 : Inv X pins σ1 H1 { s1 with heap := h3 } := J.landed nb fl.1 (up.trans up3) os ag
    obtain ⟨o3, v3, e3, z3, d3⟩ := fl.there
    have nfr := not_frame fl.2.2.1 e3 d3
    have nL : a ≠ X.env.locals := fun z =>
      nfr (List.mem_filterMap.mpr ⟨X.env, List.mem_cons_self, by rw [hf, z]⟩)
    have nF : a ∉ X.fs := fun hm => by
      obtain ⟨e, he, q⟩ := List.mem_filterMap.mp hm
      exact nfr (List.mem_filterMap.mpr ⟨e, List.mem_cons_of_mem _ he, q⟩)
    have S3 := J3.suite e3 d3 na nL nF
    have go : ∀ {hs2 : List ExceptHandler} {l2 : List Cl}, ClsOk X hs2 l2 → wCls X.K Wout D l2 cls d σ1 H1 →
        wpAny (model X.prog X.w) X.A (handleBy (.ref a) X.env hs2) (SP X pins D) X.xe { s1 with heap := h3 } := by
      intro hs2 l2 hk
      induction hk with
      | nil =>
        intro w
        refine flies (s := { s1 with heap := h3 }) hf fl fun h4 hh4 up4 => tk _ _ ?_
        exact ⟨a, B, sI, pins, σ1, H1, cls, d, rfl, J, nb, (up.trans up3).trans up4, .inr (.inr (by rw [hst]; exact hh4)), na, os, ag, w⟩
      | @cons x n q b1 more p1 p2 hs l hc hi hl hsu r ih =>
        intro w
        obtain ⟨yes, hx, hyes, hno⟩ := w
        refine wpAny_handleBy_cons (codeAny_handlers_test ?_) (by intro z; cases z)
        have LT : PySem.W.Looks (model X.prog X.w) h3 (typeOf (.ref a)) cls :=
          fun A Q E s k q => wpAny_typeOf_ref (k _ _ e3) (by rw [z3.1]; exact q)
        have LM := PySem.W.exm_one (M := model X.prog X.w) (J3.kIn) LT hx
        have test : ∀ {Q : Value → Shared → Prop} {E : Value → Shared → Prop}, Q q.c { s1 with heap := h3 } →
            wpAny (model X.prog X.w) (X.A.mark (some (.ref a))) (eval (.Name x p1) X.env) Q E { s1 with heap := h3 } := by
          intro Q E z
          obtain ⟨hg, hdb, hm | ⟨hm, hv, hnn⟩⟩ := hc
          · exact ld_glob (X := X.suite a ((a, o3) :: (X.pn ++ pins))) S3 hg hm z hdb
          · exact ld_blt (X := X.suite a ((a, o3) :: (X.pn ++ pins))) S3 hg hm hv z hnn hdb
        refine test (LM.here ?_)
        cases yes with
        | false =>
          show wpAny _ X.A (handleBy (.ref a) X.env hs) _ _ _
          exact ih (hno rfl)
        | true =>
          refine codeAny_handlers_suite_as ?_
          refine HandSPX.lands_againZ fl fun h4 fl4 up4 => ?_
          have J4 : Inv X pins σ1 H1 { s1 with heap := h4 } :=
            J.landed nb fl4.1 ((up.trans up3).trans up4) os ag
          obtain ⟨o4, v4, e4, z4, d4⟩ := fl4.there
          have S4 := J4.suite e4 d4 na nL nF
          refine store_ok (X := X.suite a ((a, o4) :: (X.pn ++ pins))) (v := .ref a) S4 hN hi (.inl hl) rfl (fun s5 S5 => ?_) (.inr hl)
          have fin : ∀ {s6 : Shared} {σ6 : L2.St} {H6 : Hp} {Q : Shared → Prop}, Inv (X.suite a ((a, o4) :: (X.pn ++ pins))) [] σ6 H6 s6 →
              (∀ s7, Inv X pins (σ6.set q.i none) H6 s7 → Q s7) →
              wpAny (model X.prog X.w) X.A (do bindName X.env n .none; unbindBehindTheSuite X.env n p2) (fun _ s7 => Q s7) X.xe s6 :=
            fun S6 hq => gone_ok (S6.unsuite ok) hN hi hl hq
          refine wpAny_mono ((hsu a o4 cls d (X.pn ++ pins) z4 ⟨_, d4⟩).run [] s5 _ H1 _ S5 (hyes rfl a na)) (fun f s6 hsp => ?_) (fun _ _ z => False.elim z)
          cases f with
          | ret u =>
            obtain ⟨v6, σ6, H6, S6, r6, q6⟩ := hsp
            exact fin S6 fun s7 J7 => ⟨_, _, _, J7, r6, q6⟩
          | next =>
            obtain ⟨σ6, H6, S6, q6⟩ := hsp
            exact fin S6 fun s7 J7 => ⟨_, _, J7, q6⟩
          | brk =>
            obtain ⟨σ6, H6, S6, q6⟩ := hsp
            exact fin S6 fun s7 J7 => ⟨_, _, J7, q6⟩
          | cont =>
            obtain ⟨σ6, H6, S6, q6⟩ := hsp
            exact fin S6 fun s7 J7 => ⟨_, _, J7, q6⟩
    exact go hh w
  refine wpAny_mono run (fun f s1 hsp => ?_) (fun e s1 he => he)
  cases f with
  | ret u =>
    obtain ⟨v, σ1, H1, J1, rv, q⟩ := hsp
    exact ⟨v, σ1, H1, J1.ofTry ok, rv, q⟩
  | next =>
    obtain ⟨σ1, H1, J1, q⟩ := hsp
    exact wpAny_execs_nil ⟨σ1, H1, J1.ofTry ok, q⟩
  | brk =>
    obtain ⟨σ1, H1, J1, q⟩ := hsp
    exact ⟨σ1, H1, J1.ofTry ok, q⟩
  | cont =>
    obtain ⟨σ1, H1, J1, q⟩ := hsp
    exact ⟨σ1, H1, J1.ofTry ok, q⟩
end
end XT
set_option Elab.async false
set_option linter.all false
set_option maxRecDepth 100000
set_option maxHeartbeats 4000000
/-! Own error classes over Exception with «def __init__(self, f): self.f = f», f one of three names: made and raised. -/
namespace XM
open PySem PySem.W PySem.Calls PyProof.Rows PySem.HandSPX
abbrev exTail : List Value := [.type "Exception", .type "BaseException", .type "object"]
def eArgs (f : Str) (p1 p2 : Pos) : Arguments :=
  { posonlyargs := [], args := [⟨"self", none, p1⟩, ⟨f, none, p2⟩], vararg := none, kwonlyargs := [], kw_defaults := [], kwarg := none, defaults := [] }
def eBody (f : Str) (q1 q2 q3 q4 : Pos) : List Stmt := [.Assign [.Attribute (.Name "self" q1) f q2] (.Name f q3) q4]
def eScope (f : Str) : Scope := ⟨.function, [(PySem.Str.ofString "self", .local), (f, .local)], false, false, []⟩
def Fld (f : Str) : Prop := f = PySem.Str.ofString "at" ∨ f = PySem.Str.ofString "name" ∨ f = PySem.Str.ofString "word"
/-- what the written part says of the class at C, its __init__ at fI, its field f -/
structure XcT (K : Frag) (C fI : Addr) (f qual : Str) : Prop where
  fld : Fld f
  ini : excInitIn K C exTail "Exception.__new__" = true
  ovr : excOver K C exTail = true
  tkn : takerIn K C f = some none
  sa : findIn K (.ref C) "__setattr__" = some (some (.builtin "object.__setattr__"))
  ga : findIn K (.ref C) "__getattribute__" = some (some (.builtin "BaseException.__getattribute__"))
  gg : findIn K (.ref C) "__getattr__" = some none
  noN : findIn K (.ref C) f = some none
  iC : findIn K (.ref C) "__init__" = some (some (.ref fI))
  tC : typeIn K (.ref fI) = some (.type "function")
  kC : keepIn K (.ref C) = true
  exC : subIn K (.ref C) (.type "BaseException") = some true
  tyC : typeIn K (.ref C) = some (.type "type")
  hdC : hasDictIn K C = true
  fn : ∃ (oc : Value) (od : Option Addr) (doc pm : Value) (an : Option Addr) (cdv ct : Value) (osl : Array (Option Value)) (p1 p2 q1 q2 q3 q4 : Pos),
    K.lookup fI = some ⟨oc, od, .func (fnOf "__init__" qual (eArgs f p1 p2) (eBody f q1 q2 q3 q4) (eScope f) .none .none doc pm an cdv ct), osl⟩ ∧ codeIn K cdv qual = true
theorem len1 (v : Value) : [v].length ≤ sizeLine := by
  rw [sizeLine_eq]
  exact (by decide : 1 ≤ 16777216)
theorem loaded {M : Model} {s : Shared} {nm : Str} {sc : Scope} {L a : Addr} {cd : Value} {m : Str → Option Value} {x : Str} {pos : Pos} {v : Value}
    {Q : Value → Shared → Prop} {A : Around} {E : Value → Shared → Prop} (hn : s.heap.Ns L m) (hv : m x = some v) (h : Q v s)
    (hk : sc.kind = .function) (hl : (envOfC nm sc L a cd).kindOf x = some .local) (hd : (x == ("__debug__" : Str)) = false) :
    wpAny M A (eval (.Name x pos) (envOfC nm sc L a cd)) Q E s := wpAny_Name (wpAny_loadName_local hk hl hn hv h) hd
/-- behind __init__: the object has its dict at dx, which holds the field -/
structure Inited (h h' : Heap) (x C dx t1 : Addr) (f : Str) (v : Value) : Prop where
  keep : ∀ b o, b ≠ x → h.get? b = some o → h'.get? b = some o
  obj : h'.get? x = some { cls := .ref C, dict := some dx, data := .fields #[.ref t1, .none, .none, .none, .bool false, .none] }
  dbig : h.objs.size ≤ dx
  dne : dx ≠ x
  ns : h'.Ns1 dx (fun y => if y = f then some v else none)
structure Made (h h' : Heap) (e C d : Addr) (f : Str) (v : Value) : Prop where
  keep : ∀ b o, h.get? b = some o → h'.get? b = some o
  new : h.objs.size ≤ e
  obj : ∃ t, h'.get? e = some { cls := .ref C, dict := some d, data := .fields #[.ref t, .none, .none, .none, .bool false, .none] }
  dbig : h.objs.size ≤ d
  dne : d ≠ e
  ns : h'.Ns1 d (fun y => if y = f then some v else none)
section
open Builtin Builtin.ObjectAttr
variable {prog : Program} {w : World} {A : Around} {E : Value → Shared → Prop} {R : Result → Shared → Prop} {K : Frag} {C fI : Addr} {f qual : Str}
/-- the first field of such an error -/
theorem first_field {hp : Heap} {g : Array GenState} {dr : Drawn} {t : Nat} {os : OsState} {tk : Tok} {v : Value} {x : Addr} {fv : Array Value}
    (X : K.In hp) (hx : hp.get? x = some { cls := .ref C, data := .fields fv }) (hov : excOver K C exTail = true) (hh : hasDictIn K C = true) (ht : takerIn K C f = some none)
    (hq : ∀ h' tk' dx, (∀ b o, b ≠ x → hp.get? b = some o → h'.get? b = some o) → hp.objs.size ≤ dx → dx ≠ x →
      h'.get? x = some { cls := .ref C, dict := some dx, data := .fields fv } → h'.Ns1 dx (fun y => if y = f then some v else none) → R (.ok (.ret .none)) ⟨h', g, dr, tk', os⟩) :
    codeAny (model prog w) A (.call (.builtin "object.__setattr__") ⟨[.ref x, .str f tk, v], []⟩) R ⟨hp, g, dr, t, os⟩ := by
  have I : W.InstAt hp x { cls := .ref C, data := .fields fv } C none := ⟨hx, rfl, rfl, trivial⟩
  obtain ⟨cd, hcd, hd⟩ := any_some hh
  have hcls : W.Looks (model prog w) hp (classData C) cd := W.looks_clsIn X hcd
  have lt : x < hp.objs.size := Heap.lt_size hx
  have hxs : x ≠ hp.objs.size := Nat.ne_of_lt lt
  refine osa_openX (s := ⟨hp, g, dr, t, os⟩) F.store_Exception X I hov ht fun b => ?_
  show wpAny _ _ (storeInOwnDict (.ref x) (.ref C) (.str f tk) f v b) _ _ _
  obtain ⟨nm, bs, mro, ns, qn, hd0, sn, sb, ab, col, del⟩ := cd
  have hd1 : hd0 = true := hd
  subst hd1
  unfold storeInOwnDict ownDictForStores
  repeat (first | with_reducible refine store_in_new ?_ ?_ | with_reducible refine wpAny_loadPart_at hx ?_ | with_reducible refine hcls.at ?_ | wp_step)
  · exact ⟨_, #[], _, (Heap.get?_update_ne _ _ _ _ hxs.symm).trans (Heap.get?_push_at rfl rfl), rfl, (fun e he => absurd he (by simp)), fun _ => rfl⟩
  · intro h' tk' hn' same
    have hx1 : (hp.push { cls := .type "dict", data := .dict #[] }).get? x = some { cls := .ref C, data := .fields fv } :=
      Heap.get?_push_of_some _ hx
    refine hq h' tk' hp.objs.size (fun b o hb ho => ?_) (Nat.le_refl _) hxs.symm ?_ hn'
    · have nb : b ≠ hp.objs.size := Nat.ne_of_lt (Heap.lt_size ho)
      exact (same.2 b nb).trans ((Heap.get?_update_ne _ _ _ _ hb).trans (Heap.get?_push_of_some _ ho))
    · exact (same.2 x hxs).trans (Heap.get?_update_self _ hx1 rfl)
theorem xinit (T : XcT K C fI f qual) {s : Shared} {x t0 : Addr} {v : Value} (X : K.In s.heap) (hlim : s.heap.NoLimit)
    (hx : s.heap.get? x = some (excO C t0)) (hroom : A.depth < recursionLimit)
    (hq : ∀ h' tk dx, Inited s.heap h' x C dx t0 f v → R (.ok (.ret .none)) { s with heap := h', toks := tk }) :
    codeAny (model prog w) A (.call (.ref fI) ⟨[.ref x, v], []⟩) R s := by
  obtain ⟨oc, od, doc, pm, an, cdv, ct, osl, p1, p2, q1, q2, q3, q4, ho, hcd⟩ := T.fn
  have hsa := T.sa
  have hov := T.ovr
  have hdc := T.hdC
  have htk := T.tkn
  rcases T.fld with rfl | rfl | rfl <;>
  · refine Att.call_fn (binds := [("self", .ref x), (_, v)]) X hlim ho hcd hroom (BindsTo.of_eq (by first | rfl | with_unfolding_all rfl)) (by first | rfl | decide | with_unfolding_all rfl) (fun s1 IC => ?_) rfl rfl rfl
    obtain ⟨h1, tk1, rfl⟩ := IC.toInCall.same
    have k : ∀ b o, s.heap.get? b = some o → h1.get? b = some o := IC.toInCall.keep
    have hn := IC.toInCall.ns
    have X1 : K.In h1 := X.keeps k
    have hx1 := k _ _ hx
    have big : s.heap.objs.size < h1.objs.size := hn.lt
    show wpAny _ _ (execs _ _) _ _ _
    refine wpAny_execs_cons (plainObj_wpAny_Assign_Attribute ?_)
    refine loaded (v := v) hn (by first | rfl | with_unfolding_all rfl | kernel_rfl) (loaded (v := .ref x) hn (by first | rfl | with_unfolding_all rfl | kernel_rfl) ?_ rfl rfl (by decide)) rfl rfl (by decide)
    refine set_plain X1 (ox := excO C t0) (od := none) ⟨hx1, rfl, rfl, trivial⟩ hsa ?_
    refine first_field X1 hx1 hov hdc htk (fun h3 tk3 dx k3 dn dne hx3 hn3 => ?_)
    show wpAny _ _ (execs _ _) _ _ _
    exact wpAny_execs_nil (hq h3 tk3 dx ⟨fun b o hb e => k3 b o hb (k b o e), hx3, Nat.le_of_lt (Nat.lt_of_lt_of_le big dn), dne, hn3⟩)
theorem xmade (T : XcT K C fI f qual) {s : Shared} {v : Value} (X : K.In s.heap) (hlim : s.heap.NoLimit) (hroom : A.depth + 1 < recursionLimit)
    (hq : ∀ h' tk e d, Made s.heap h' e C d f v → R (.ok (.ret (.ref e))) { s with heap := h', toks := tk }) :
    codeAny (model prog w) A (.call (.ref C) ⟨[v], []⟩) R s := by
  obtain ⟨nm, N, qn, bs, bm, hdct, sn, sub, ab, col, dd, k0, k1, k2, k3, k5, hC, hbm⟩ := excInit_of X T.ini
  obtain ⟨hp, g, dr, tk, os⟩ := s
  have k : ∀ b o, hp.get? b = some o → ((hp.push (kdv_tup [v])).push (excO C hp.objs.size)).get? b = some o :=
    fun b o e => Heap.get?_push_of_some _ (Heap.get?_push_of_some _ e)
  have hget : ((hp.push (kdv_tup [v])).push (excO C hp.objs.size)).get? (hp.objs.size + 1) = some (excO C hp.objs.size) := by
    heap_get
  refine call_own F.excBase_Exception hbm hC (looks_findIn X T.iC) (fun self => bind_fn X self T.tC) (len1 v) ?_
  have room1 : (A.under (.builtin "type.__call__" ⟨.ref C :: [v], []⟩)).depth < recursionLimit := hroom
  refine xinit (s := ⟨(hp.push (kdv_tup [v])).push (excO C hp.objs.size), g, dr, tk, os⟩) T (X.keeps k) (hlim.keeps k) hget room1 fun h' tk' dx Z => ?_
  have old : ∀ b o, hp.get? b = some o → h'.get? b = some o := fun b o e =>
    Z.keep b o (Nat.ne_of_lt (Nat.lt_succ_of_lt (Heap.lt_size e))) (k b o e)
  have z : hp.objs.size + 1 + 1 ≤ dx := by
    have q := Z.dbig
    first
      | (simpa only [Heap.size_push] using q)
      | exact q
      | (rw [Heap.size_push, Heap.size_push] at q; exact q)
  exact ⟨rfl, hq h' tk' (hp.objs.size + 1) dx ⟨old, Nat.le_succ _, ⟨_, Z.obj⟩, Nat.le_trans (Nat.le_trans (Nat.le_succ _) (Nat.le_succ _)) z, Z.dne, Z.ns⟩⟩
end
end XM
namespace XM
open PySem PySem.Spec PyProof.Rows L2
theorem relOne {v : V} {u : Value} (r : RelV v u) (f g : Str) : RelO (List.lookup g [(f, v)]) (if g = f then some u else none) := by
  by_cases h : g = f
  · subst h
    rw [if_pos rfl]
    have e : List.lookup g [(g, v)] = some v := by simp [List.lookup]
    rw [e]
    exact r
  · rw [if_neg h]
    have q : (g == f) = false := by simpa using h
    have e : List.lookup g [(f, v)] = none := by simp [List.lookup, q]
    rw [e]
    trivial
/-- C(e): the error's own dict is new and holds the field -/
def tMk (C : Addr) (f : Str) (ta : TA) : L2.St → Hp → XK → Prop := fun σ H Q =>
  ta σ H fun vs H1 => ∃ v, vs = [v] ∧ ∀ d, H1 d = none → Q (.ref C) (some d) (upd H1 d (.xd [(f, v)]))
theorem pmk {X : Cx} {C fI : Addr} {f qual x : Str} {a : Expr} {ta : TA} {p pos : Pos} {k : Nat} (T : XcT X.K C fI f qual) (hm : X.mg x = some (.ref C)) (hr : Room k X.A) (ha : PA X [a] ta)
    (hg : Gl X x := by rfl) (hdb : (x == ("__debug__" : Str)) = false := by decide)
    (he : starEach (a :: []) X.env = (false, eval a X.env) :: starEach [] X.env := by rfl) (hpl : (backTo pos (starEach [] X.env)).any (·.1) = false := by rfl) :
    L2N.PMk X (.Call (.Name x p) [a] [] pos) (tMk C f ta) := by
  intro pins s σ H Q I h
  refine wpAny_Call_Name_kw (ld_glob I hg hm ?_ hdb)
  refine PySem.W.callWith_K (h₀ := X.base) I.ok.mod.kin T.kC (thn (ha.run pos pins s σ H _ I h) fun us s1 hh => ?_) he hpl
  obtain ⟨vs, H1, I1, r1, v, rfl, q1⟩ := hh
  refine ⟨I1.kIn, ?_⟩
  cases r1 with
  | cons rv rn =>
    rename_i u us1
    cases rn
    have hlim := I1.nolimit
    show wpAny _ _ (call (.ref C) [u]) _ _ _
    obtain ⟨hp, g, dr, tk, os⟩ := s1
    have room : X.A.depth + 1 < recursionLimit := by
      have := hr.dp
      omega
    refine wpAny_call (xmade T I1.kIn hlim room fun h' tk' e d M => ?_)
    show L2N.MkP X pins σ Q (.ref e) ⟨h', g, dr, tk', os⟩
    obtain ⟨t, hoe⟩ := M.obj
    have hns := M.ns
    obtain ⟨G, g1, g2⟩ := restrict h' fun b => decide (b ≠ e)
    have gk : ∀ b, b ≠ e → G.get? b = h'.get? b := fun b hb => g1 b (decide_eq_true hb)
    have ge : G.get? e = none := g2 e (by simp)
    have old : ∀ b o, hp.get? b = some o → G.get? b = some o := fun b o q =>
      (gk b (Nat.ne_of_lt (Nat.lt_of_lt_of_le (Heap.lt_size q) M.new))).trans (M.keep b o q)
    have ob : ObjOk X.prog X.w (upd H1 d (.xd [(f, v)])) G d (.xd [(f, v)]) :=
      ⟨_, hns.at (fun o q => (gk d M.dne).trans q), fun y => relOne rv f y⟩
    have J : Inv X pins σ (upd H1 d (.xd [(f, v)])) ⟨G, g, dr, tk', os⟩ := I1.laid (t' := tk') old M.dbig ob
    refine ⟨e, _, _, ⟨G, g, dr, tk', os⟩, _, .ref C, some d, rfl, J, fun b o q => ?_, ge, hoe, ⟨rfl, rfl, fun ws ew => by cases ew; rfl⟩, rfl, rfl, ?_, rfl, I1.bare, raises_own T.exC T.tyC, q1 d (I1.hok.fresh M.dbig)⟩
    · by_cases hb : b = e
      · have q2 : G.get? b = some o := q
        rw [hb, ge] at q2
        cases q2
      · exact (gk b hb).symm.trans q
    · rw [upd_ne (Ne.symm M.dne)]
      exact I1.hok.fresh M.new
end XM
set_option Elab.async false
set_option linter.all false
set_option maxRecDepth 100000
set_option maxHeartbeats 8000000
/-! ### Form -/
namespace Q
open PySem L2 XD
/-- a def that may let errors out, their own dict with them -/
theorem Fun_okN {P : Program} {w : World} {K : PySem.W.Frag} {mg : Str → Option Value} {base : Heap} {x qual : Str} {st : Stmt} {f : Addr} {fd : FuncData} {N ps : List Str} {k : Nat} {sp : Sp} (F : Fun K x qual st f fd) (S : FnScope N ps (defScope st)) (len : ∀ vs H Q E, sp vs H Q E → vs.length = ps.length)
    (hbody : ∀ (cdv : Value) (A : Around) (outer : List Env) (s : Shared) (H : Hp) (vs : List V) (Q : VK) (E : XK), Room k (A.deeper (PyProof.Rows.envOfC qual (defScope st) s.heap.objs.size f cdv)) → sp vs H Q E →
      ∃ t, PSs (cxOf (L2N.CX P w) P w K mg base N qual (defScope st) f cdv A outer s H E) (defBody st) t ∧ t { nx := fun _ H' => Q .non H', rt := Q } (L2.start N vs) H) : FnOk P w K mg base (L2N.CX P w) (k + 1) f fd ps sp := by
  obtain ⟨oc, od, kV, doc, pm, an, cdv, ct, osl, rfl, lk, hcd⟩ := F.ex
  exact fn_of lk hcd S len fun A outer s H vs Q E hr hsp => hbody cdv A outer s H vs Q E hr hsp
theorem call_tupK {X : Cx} (K : PySem.W.Frag) (h : X.K = K) : CallR X (.type "tuple") (rTupZ K) := by
  subst h
  exact call_tupZ
structure Er (K : PySem.W.Frag) (mg : Str → Option Value) (CV CM : Addr) : Prop where
  v : ∃ fI qual, XM.XcT K CV fI "at" qual
  m : ∃ fI qual, XM.XcT K CM fI "word" qual
  gv : mg "BadValue" = some (.ref CV)
  gm : mg "TooMany" = some (.ref CM)
/-- rules whose pairs may be handed to dict: each a list, or a tuple known to have no dict -/
def RZ (K : PySem.W.Frag) (H : Hp) (v : V) (d : PyData) : Prop := ∃ (q : Addr) (ws : List V) (rds : List PyData), v = .ref q ∧ rowOf d = some rds ∧ (SqL K H q ws ∨ SqT K H q ws) ∧ ws.length = rds.length ∧
  ∀ (i : Nat) (y : V) (rd : PyData), ws[i]? = some y → rds[i]? = some rd → ∃ (q2 : Addr) (zs : List V) (gs : List PyData), y = .ref q2 ∧ (SqL K H q2 zs ∨ SqZ H q2 zs) ∧ rowOf rd = some gs ∧ DpAll K H zs gs
theorem RZ.same {K : PySem.W.Frag} {H H' : Hp} {v : V} {d : PyData} (s : Same H H') (h : RZ K H v d) : RZ K H' v d := by
  obtain ⟨q, ws, rds, e1, e2, e3, e4, e5⟩ := h
  refine ⟨q, ws, rds, e1, e2, sq_same s e3, e4, fun i y rd h1 h2 => ?_⟩
  obtain ⟨q2, zs, gs, f1, f2, f3, f4⟩ := e5 i y rd h1 h2
  exact ⟨q2, zs, gs, f1, f2.elim (fun z => .inl (s.seq z)) (fun z => .inr (z.same s)), f3, dps_same s f4⟩
def rulesOf (d : PyData) : List (List (Str × Str)) := match rowOf d with
  | some rs => rs.map factsOf
  | none => []
/-- what a form is made to -/
inductive Made
  | bad (i : Int)
  | many
  | form (t : List (Str × List Str)) (rs : List (List (Str × Str)))
def made (dF dR : PyData) : Made :=
  if areFields dF = true then
    if areRules (tabOf dF) dR = true then
      if 1000 < waysFrom 1 (tabOf dF) then .many else .form (tabOf dF) (once ((rulesOf dR).map (sorted (tabOf dF))))
    else .bad 1
  else .bad 0
def FormAt (C : Addr) (H : Hp) (x pf pr : Addr) : Prop := ∃ dx, H x = some (.ins C dx [("_fields", .ref pf), ("_rules", .ref pr)])
/-- the end of the making -/
def mEnd (K : PySem.W.Frag) (C CV CM x : Addr) (H : Hp) (Q : VK) (E : XK) : Made → Prop
  | .bad i => ∀ d H', Same H H' → H' d = none → E (.ref CV) (some d) (upd H' d (.xd [("at", .int i)]))
  | .many => ∀ d H', Same H H' → H' d = none → E (.ref CM) (some d) (upd H' d (.xd [("word", .str "fillings")]))
  | .form t rs => ∀ pf pr H', (∀ b o, b ≠ x → H b = some o → H' b = some o) → FormAt C H' x pf pr → TabAt K H' pf t → RulesAt K H' pr rs → Q .non H'
def spInit (K : PySem.W.Frag) (C CV CM : Addr) : Sp := fun vs H Q E => ∃ (x dx : Addr) (vF vR : V) (dF dR : PyData), vs = [.ref x, vF, vR] ∧ H x = some (.ins C dx []) ∧ Dp K H vF dF ∧ Dp K H vR dR ∧ FShort dF ∧ ROk dR ∧ (∀ t rs, made dF dR = .form t rs → RZ K H vR dR) ∧ mEnd K C CV CM x H Q E (made dF dR)
theorem nxt {D : Ends} {σ : L2.St} {H : Hp} (h : D.nx σ H) : tNext D σ H := h
theorem asg_tup {K : PySem.W.Frag} {te : TE} {u : TS} {D : Ends} {σ : L2.St} {H : Hp} {i : Nat} (h : te σ H fun v H1 => rTupZ K [v] H1 fun v2 H2 => u D (σ.set i (some v2)) H2) : tSeq (tAsg (tCB (rTupZ K) (tCons te tNil)) (gName i)) u D σ H := h
theorem fr_ : ¬ (("_fields" : Str) = "_rules") := by decide +kernel
theorem pf2 (l z : Addr) : putF "_rules" (.ref z) (putF "_fields" (.ref l) []) = ([("_fields", V.ref l), ("_rules", V.ref z)] : List (Str × V)) := by
  show (if ("_fields" : Str) = "_rules" then [(("_rules" : Str), V.ref z)] else (("_fields" : Str), V.ref l) :: putF "_rules" (V.ref z) []) = ([("_fields", V.ref l), ("_rules", V.ref z)] : List (Str × V))
  rw [if_neg fr_]
  all_goals rfl
theorem fld_each {K : PySem.W.Frag} {te t0 : TE} {f : Str} {D : Ends} {σ : L2.St} {H : Hp} (h : te σ H fun v H1 => spEach K [v] H1 (fun y H2 => t0 σ H2 fun x H3 => ∃ a C dx fs, x = .ref a ∧ H3 a = some (.ins C dx fs) ∧ Cls K C ∧ NoAttr K C f ∧ fs.length < 1000 ∧ D.nx σ (upd H3 a (.ins C dx (putF f y fs)))) E0) : sFld K t0 (tCall (spEach K) [] E0 (tCons te tNil)) f D σ H := h
theorem rules_good {t : List (Str × List Str)} {d : PyData} (h : areRules t d = true) : ∃ rs, rowOf d = some rs ∧ rs.length ≤ 20 ∧ rulesOf d = rs.map factsOf ∧ ∀ r ∈ rs, areFacts t r = true := by
  unfold areRules at h
  cases e : rowOf d with
  | none =>
    rw [e] at h
    cases h
  | some rs =>
    rw [e] at h
    have h2 : (decide (rs.length ≤ 20) && rs.all (ruleOk t)) = true := h
    rw [Bool.and_eq_true] at h2
    refine ⟨rs, rfl, of_decide_eq_true h2.1, ?_, fun r hr => ?_⟩
    · unfold rulesOf
      rw [e]
    · have h3 := List.all_eq_true.mp h2.2 r hr
      cases ef : areFacts t r with
      | true => rfl
      | false =>
        rw [ruleOk_no ef] at h3
        cases h3
section
variable {P : Program} {w : World} {K : PySem.W.Frag} {mg : Str → Option Value} {base : Heap}
theorem scInit : FnScope ["self", "fields", "rules", "kept", "name", "values", "rule"] ["self", "fields", "rules"] (defScope sInit) := ⟨rfl, rfl, rfl, by decide +kernel, rfl, by decide +kernel, by decide +kernel⟩
theorem scFieldsM : FnScope ["self"] ["self"] (defScope sFieldsM) := ⟨rfl, rfl, rfl, by decide +kernel, rfl, by decide +kernel, by decide +kernel⟩
theorem scRulesM : FnScope ["self"] ["self"] (defScope sRulesM) := ⟨rfl, rfl, rfl, by decide +kernel, rfl, by decide +kernel, by decide +kernel⟩
theorem scEqM : FnScope ["self", "other"] ["self", "other"] (defScope sEqM) := ⟨rfl, rfl, rfl, by decide +kernel, rfl, by decide +kernel, by decide +kernel⟩
theorem ok_init {f C CV CM : Addr} {fd : FuncData} (F : Fun K "__init__" "Form.__init__" sInit f fd) (T : Bb mg) (Cc : Fm mg) (R : Er K mg CV CM) (cl : Cls K C) (nF : NoAttr K C "_fields") (nR : NoAttr K C "_rules")
    (KA : Kn P w K mg base 5 "_are_fields" ["fields"] (spAreFields K)) (KR : Kn P w K mg base 4 "_are_rules" ["fields", "rules"] (spAreRules K)) (KW : Kn P w K mg base 1 "_ways_to_fill" ["fields"] (spWays K)) (KE : Kn P w K mg base 1 "_each_once" ["rules"] (spEach K)) (KS : Kn P w K mg base 1 "in_sequence" ["fields", "facts"] (spInSeq K)) :
    FnOk P w K mg base (L2N.CX P w) 6 f fd ["self", "fields", "rules"] (spInit K C CV CM) := by
  obtain ⟨fA, fdA, GA, kA, bA, mA⟩ := KA.ex
  obtain ⟨fR, fdR, GR, kR, bR, mR⟩ := KR.ex
  obtain ⟨fW, fdW, GW, kW, bW, mW⟩ := KW.ex
  obtain ⟨fE, fdE, GE, kE, bE, mE⟩ := KE.ex
  obtain ⟨fS, fdS, GS, kS, bS, mS⟩ := KS.ex
  obtain ⟨fIv, qv, XV⟩ := R.v
  obtain ⟨fIm, qm, XN⟩ := R.m
  obtain ⟨tF, hF⟩ := Cc.mfi
  refine Fun_okN F scInit (fun vs H Q E h => ?_) (fun cdv A outer s H vs Q E hr h => ?_)
  · obtain ⟨x, dx, vF, vR, dF, dR, rfl, _⟩ := h
    rfl
  have vt_ : PySem.bootBuiltins "tuple" = some (.type "tuple") := by decide +kernel
  refine ⟨_, pss_cons (ps_if (pt_not (pt_val (pe_call GA hr rfl mA kA bA .nil pass0 (pa_cons (pv 1) pa_nil)))) (pss_one (L2N.ps_raise rfl (L2N.takes_of rfl rfl rfl rfl) (XM.pmk XV R.gv hr (pa_cons pe_int pa_nil)))) pss_nil)
    (pss_cons (ps_set (i := 3) scInit.nd rfl (.inr rfl) (pe_callTy (call_tupK K rfl) rfl T.tup vt_ (pa_cons (pe_lc (own := [("name", 4), ("values", 5)]) (g := gRow K 2 (gCons (gName 4) (gCons (gName 5) gNil))) (tt := tYes) (by rfl) scInit.nd (pi_row (pv 1)) (blkOk_by (N := ["self", "fields", "rules", "kept", "name", "values", "rule"]) (sc := defScope sInit) (by decide +kernel))
      (fun _ _ _ _ _ => pg_row rfl (pgs_cons (pg_name (i := 4) scInit.nd rfl (.inl rfl)) (pgs_cons (pg_name (i := 5) scInit.nd rfl (.inl rfl)) pgs_nil)))
      (fun _ _ _ _ _ => pts_nil)
      (fun _ _ _ _ _ => pe_tupZ (pa_cons (pv 4) (pa_cons (pe_callTy (call_tupK K rfl) rfl T.tup vt_ (pa_cons (pv 5) pa_nil)) pa_nil)))) pa_nil)))
    (pss_cons (ps_if (pt_not (pt_val (pe_call GR (hr.mono (by decide)) rfl mR kR bR .nil pass0 (pa_cons (pv 3) (pa_cons (pv 2) pa_nil))))) (pss_one (L2N.ps_raise rfl (L2N.takes_of rfl rfl rfl rfl) (XM.pmk XV R.gv hr (pa_cons pe_int pa_nil)))) pss_nil)
    (pss_cons (ps_if (pt_cmpR op_gt (pe_call GW (hr.mono (by decide)) rfl mW kW bW .nil pass0 (pa_cons (pv 3) pa_nil)) (pe_glob (v := .int 1000) (by rfl) hF ⟨_, rfl⟩) (nomark _)) (pss_one (L2N.ps_raise rfl (L2N.takes_of rfl rfl rfl rfl) (XM.pmk XN R.gm hr (pa_cons pe_str pa_nil)))) pss_nil)
    (pss_cons (ps_fld (pv 0) (pv 3) rfl)
    (pss_one (ps_fld (pv 0) (pe_call GE (hr.mono (by decide)) rfl mE kE bE .nil pass0 (pa_cons (pe_lc (own := [("rule", 6)]) (g := gName 6) (tt := tYes) (by rfl) scInit.nd (pi_row (pv 2)) (blkOk_by (N := ["self", "fields", "rules", "kept", "name", "values", "rule"]) (sc := defScope sInit) (by decide +kernel))
      (fun _ _ _ _ _ => pg_name (i := 6) scInit.nd rfl (.inl rfl)) (fun _ _ _ _ _ => pts_nil)
      (fun _ _ _ _ _ => pe_call GS (hr.mono (by decide)) rfl mS kS bS .nil pass0 (pa_cons (pv 3) (pa_cons (pv 6) pa_nil)))) pa_nil)) rfl)))))), ?_⟩
  obtain ⟨x, dx, vF, vR, dF, dR, rfl, hx, hF, hR, hs, ho, hz, k⟩ := h
  refine ⟨_, rfl, vF, dF, rfl, hF, hs, fun H1 s1 => ⟨_, rfl, ?_⟩⟩
  cases eF : areFields dF with
  | false =>
    refine iteT ⟨.int 0, rfl, fun d hd => ?_⟩
    have em : made dF dR = .bad 0 := by
      unfold made
      rw [eF]
      rfl
    rw [em] at k
    exact k d H1 s1 hd
  | true =>
    obtain ⟨fs, er, hl6, et, hnd, hgood⟩ := fields_good eF
    obtain ⟨p, ys, rfl, hq, ha⟩ := row_len (dp_same s1 hF) er
    have hlen := dps_len ha
    have hwords : ∀ e ∈ tabOf dF, word e.1 = true ∧ e.2.length ≤ 5 ∧ ∀ w ∈ e.2, word w = true := fun e he => by
      rw [et] at he
      obtain ⟨f, hf, rfl⟩ := List.mem_map.mp he
      obtain ⟨n, b, ws, _, _, g3, g4, g5, g6⟩ := field_good (hgood f hf).1 (hgood f hf).2
      rw [g6]
      exact ⟨g5, by show (textsOf ws).length ≤ 5; rw [texts_len]; exact g4, texts_word g3⟩
    have htl : (tabOf dF).length = fs.length := by rw [et, List.length_map]
    refine iteF (nxt ?_)
    dsimp only
    refine asg_tup ?_
    refine lc_row (ys := ys) (fun D i H' => ∃ (ps : List Addr) (kvs : List (Key × V)), H' D = some (.lst (ps.map V.ref)) ∧ TabR K H' ps kvs ((tabOf dF).take i) ∧ Same H1 H') (fun Q' z => ⟨_, rfl, z⟩) hq (fun D hD => ⟨[], [], upd_same, .nil, new_same hD _⟩) (fun D i H' hD hP => by obtain ⟨_, _, _, _, z⟩ := hP; exact z) (fun D i y H' hD hi hP hy => ?_) (fun D H2 hD hP => ?_)
    · obtain ⟨ps, kvs, g1, g2, g3⟩ := hP
      obtain ⟨f, hf1, hdf⟩ := dps_get ha hy
      have hfm : f ∈ fs := List.mem_of_getElem? hf1
      obtain ⟨n, b, ws, e1, e2, e3, e4, e5, e6⟩ := field_good (hgood f hfm).1 (hgood f hfm).2
      have et1 : (tabOf dF)[i]? = some (n, textsOf ws) := by
        rw [et, List.getElem?_map, hf1, ← e6]
        rfl
      obtain ⟨r, va, vb, rfl, hr2, hva, hvb⟩ := pair_at (dp_same g3 hdf) e1
      cases hva
      obtain ⟨u, zs, rfl, hzs, hzd⟩ := row_len hvb e2
      have ezs := words_vals hzd e3
      subst ezs
      have hok : ∀ w ∈ textsOf ws, PyData.strOk w = true := fun w hw => word_ok (texts_word e3 w hw)
      have hpl : ps.length ≤ 6 := by
        rw [g2.len.1, List.length_take]
        omega
      -- behind the pair, whatever the values' tuple is
      have fin : ∀ (H3 : Hp) (l : Addr), Same H' H3 → SqT K H3 l ((textsOf ws).map V.str) → ∀ z o, H3 z = none → o.dict = none → ∃ acc, (upd H3 z (.frz o (.tup [.str n, .ref l]))) D = some (.lst acc) ∧ acc.length < sizeLine ∧
          (∃ (ps : List Addr) (kvs : List (Key × V)), upd (upd H3 z (.frz o (.tup [.str n, .ref l]))) D (.lst (acc ++ [.ref z])) D = some (.lst (ps.map V.ref)) ∧ TabR K (upd (upd H3 z (.frz o (.tup [.str n, .ref l]))) D (.lst (acc ++ [.ref z]))) ps kvs ((tabOf dF).take (i + 1)) ∧ Same H1 (upd (upd H3 z (.frz o (.tup [.str n, .ref l]))) D (.lst (acc ++ [.ref z])))) := fun H3 l s3 hl z o hz0 hod => by
        have sz : Same H3 (upd H3 z (.frz o (.tup [.str n, .ref l]))) := new_same hz0 _
        have hD4 := sz _ _ (s3 _ _ g1)
        refine ⟨ps.map V.ref, hD4, small1000 (by rw [List.length_map]; omega), ps ++ [z], kvs ++ [((.inr n : Key), V.ref l)], ?_, ?_, fun b' o' y' => ?_⟩
        · rw [upd_same, List.map_append] <;> rfl
        · rw [take_one et1]
          exact TabR.off hD4 (TabR.snoc (.inl (.inr ⟨o, upd_same⟩)) (seqT_same sz hl) hok (TabR.same (s3.trans sz) g2))
        · rw [upd_ne (ne_of_none y' hD)]
          exact sz _ _ (s3 _ _ (g3 _ _ y'))
      have asg : ∀ (σ : L2.St) (Q' : L2.St → Hp → Prop), Q' ((σ.set 4 (some (.str n))).set 5 (some (.ref u))) H' → gRow K 2 (gCons (gName 4) (gCons (gName 5) gNil)) (.ref r) σ H' Q' := fun σ Q' z => by
        rcases hr2 with hr2 | hr2
        · exact .inr ⟨r, _, rfl, hr2, rfl, .str n, [.ref u], rfl, .ref u, [], rfl, rfl, z⟩
        · exact .inl ⟨r, _, rfl, hr2, rfl, .str n, [.ref u], rfl, .ref u, [], rfl, rfl, z⟩
      refine asg _ _ ⟨rfl, ?_⟩
      unfold tYes
      refine iteT ⟨_, rfl, _, rfl, u, (textsOf ws).map V.str, rfl, ?_⟩
      rcases hzs with hzs | hzs
      · exact .inl ⟨hzs, fun l o hl hod => ⟨by show 2 ≤ sizeLine; decide, fun z o' hz0 hod' => fin _ l (new_same hl _) (.inl (.inr ⟨o, upd_same⟩)) z o' hz0 hod'⟩⟩
      · exact .inr ⟨hzs, by show 2 ≤ sizeLine; decide, fun z o' hz0 hod' => fin _ u (Same.refl _) hzs z o' hz0 hod'⟩
    · obtain ⟨ps, kvs, g1, g2, g3⟩ := hP
      rw [List.take_of_length_le (by omega)] at g2
      refine ⟨D, _, rfl, .inl ⟨SqL.of g1, fun l o hl hod => ?_⟩⟩
      have sl : Same H2 (upd H2 l (.frz o (.tup (ps.map V.ref)))) := new_same hl _
      have s3 : Same H (upd H2 l (.frz o (.tup (ps.map V.ref)))) := (s1.trans g3).trans sl
      have tab3 : TabAt K (upd H2 l (.frz o (.tup (ps.map V.ref)))) l (tabOf dF) := ⟨ps, kvs, ⟨o, upd_same, hod⟩, TabR.same sl g2, hnd, by omega⟩
      refine ⟨_, rfl, _, rfl, l, tabOf dF, vR, dR, rfl, tab3, dp_same s3 hR, ho, fun H4 s4 => ⟨_, rfl, ?_⟩⟩
      cases eR : areRules (tabOf dF) dR with
      | false =>
        refine iteT ⟨.int 1, rfl, fun d hd => ?_⟩
        have em : made dF dR = .bad 1 := by
          unfold made
          rw [eF, eR]
          rfl
        rw [em] at k
        exact k d H4 (s3.trans s4) hd
      | true =>
        obtain ⟨rs, er2, hl20, eru, hrf⟩ := rules_good eR
        refine iteF (nxt ?_)
        dsimp only
        refine ⟨_, rfl, l, tabOf dF, rfl, TabAt.same s4 tab3, by omega, fun e he => (hwords e he).2.1, fun H5 s5 => ⟨_, _, rfl, rfl, _, rfl, ?_⟩⟩
        have s35 := s4.trans s5
        have s05 : Same H H5 := s3.trans s35
        by_cases hw : 1000 < waysFrom 1 (tabOf dF)
        · refine iteDT (by omega) ⟨.str "fillings", rfl, fun d hd => ?_⟩
          have em : made dF dR = .many := by
            unfold made
            rw [eF, eR, if_pos rfl, if_pos rfl, if_pos hw]
          rw [em] at k
          exact k d H5 s05 hd
        · have em : made dF dR = .form (tabOf dF) (once ((rulesOf dR).map (sorted (tabOf dF)))) := by
            unfold made
            rw [eF, eR, if_pos rfl, if_pos rfl, if_neg hw]
          have hz := hz _ _ em
          rw [em] at k
          refine iteDF (by omega) (nxt ?_)
          dsimp only
          have hx5 := s05 _ _ hx
          refine ⟨_, rfl, _, rfl, x, C, dx, [], rfl, hx5, cl, nF, by show 0 < 1000; decide, ?_⟩
          have d6 : Sd H5 (upd H5 x (.ins C dx (putF "_fields" (.ref l) []))) := sd_ins hx5
          have d06 : Sd H (upd H5 x (.ins C dx (putF "_fields" (.ref l) []))) := Sd.trans (sdOf s05) d6
          have tab6 := tab_sd (Sd.trans (sdOf s35) d6) tab3
          obtain ⟨q, ws, rds, rfl, er3, hq0, hwl, hz⟩ := hz
          rw [er2] at er3
          cases er3
          have hq6 : SqL K (upd H5 x (.ins C dx (putF "_fields" (.ref l) []))) q ws ∨ SqT K (upd H5 x (.ins C dx (putF "_fields" (.ref l) []))) q ws := hq0.elim (fun z => .inl (seq_sd d06 z)) (fun z => .inr (seqT_sd d06 z))
          -- one rule
          have one : ∀ {j : Nat} {y : V}, ws[j]? = some y → ∃ (rd : PyData) (q2 : Addr) (ps2 : List Addr) (kvs2 : List (Key × V)), rs[j]? = some rd ∧ y = .ref q2 ∧ (SqL K H q2 (ps2.map V.ref) ∨ SqZ H q2 (ps2.map V.ref)) ∧ FactR K H ps2 kvs2 (factsOf rd) ∧ ((factsOf rd).map (·.1)).Nodup ∧ RStr (factsOf rd) := fun {j y} hy => by
            have hjl : j < rs.length := by
              have := (List.getElem?_eq_some_iff.mp hy).1
              omega
            obtain ⟨rd, e1⟩ : ∃ rd, rs[j]? = some rd := ⟨_, List.getElem?_eq_getElem hjl⟩
            have hrm : rd ∈ rs := List.mem_of_getElem? e1
            obtain ⟨q2, zs, gs, rfl, hz2, eg, hzs⟩ := hz j y rd hy e1
            obtain ⟨ps2, kvs2, rfl, i1, i2, _, i4⟩ := facts_good hzs (facts_go eg (hrf rd hrm)).2
            have efo : factsOf rd = gs.map factOf := by
              unfold factsOf
              rw [eg]
            refine ⟨rd, q2, ps2, kvs2, e1, rfl, hz2, by rw [efo]; exact i1, by rw [efo]; exact i2, ?_⟩
            rw [efo]
            intro e he
            obtain ⟨vs, h1, h2⟩ := i4 e he
            have h3 := hwords _ (look_mem h1)
            exact ⟨word_ok h3.1, word_ok (h3.2.2 _ h2)⟩
          dsimp only
          refine fld_each ?_
          refine lc_row (ys := ws) (fun D j H' => ∃ zs : List Addr, H' D = some (.lst (zs.map V.ref)) ∧ Paired (RuleAt K H') zs ((rs.take j).map fun rd => sorted (tabOf dF) (factsOf rd)) ∧ Same (upd H5 x (.ins C dx (putF "_fields" (.ref l) []))) H') (fun Q' z => ⟨_, rfl, z⟩) hq6 (fun D hD => ⟨[], upd_same, .nil, new_same hD _⟩) (fun D i H' hD hP => by obtain ⟨_, _, _, z⟩ := hP; exact z) (fun D j y H' hD hj hP hy => ?_) (fun D H7 hD hP => ?_)
          · obtain ⟨zs, g1, g2, g3⟩ := hP
            obtain ⟨rd, q2, ps2, kvs2, e1, rfl, e3, e4, e5, e6⟩ := one hy
            have d7 : Sd H H' := Sd.trans d06 (sdOf g3)
            refine ⟨rfl, ?_⟩
            unfold tYes
            refine iteT ⟨_, rfl, _, rfl, l, q2, tabOf dF, ps2, kvs2, factsOf rd, rfl, TabAt.same g3 tab6, e3.elim (fun z => .inl (seq_sd d7 z)) (fun z => .inr (sqZ_sd d7 z)), factR_sd d7 e4, e5, fun z H8 s8 hru => ?_⟩
            have hD8 := s8 _ _ g1
            have hzl : zs.length ≤ 20 := by
              rw [prd_len g2, List.length_map, List.length_take]
              omega
            refine ⟨zs.map V.ref, hD8, small1000 (by rw [List.length_map]; omega), zs ++ [z], ?_, ?_, fun b o' y' => ?_⟩
            · rw [upd_same, List.map_append] <;> rfl
            · rw [take_one e1, List.map_append]
              exact rules_off hD8 (prd_snoc (rules_same s8 g2) hru)
            · rw [upd_ne (ne_of_none y' hD)]
              exact s8 _ _ (g3 _ _ y')
          · obtain ⟨zs, g1, g2, g3⟩ := hP
            rw [List.take_of_length_le (by omega)] at g2
            refine ⟨D, zs, _, rfl, SqL.of g1, g2, fun r hr => ?_, by rw [List.length_map]; omega, fun z H8 s8 hru => ?_⟩
            · obtain ⟨rd, hrd, rfl⟩ := List.mem_map.mp hr
              obtain ⟨j, hj, ej⟩ := List.mem_iff_getElem.mp hrd
              have hjw : j < ws.length := by omega
              obtain ⟨rd', _, _, _, e1, _, _, _, _, e6⟩ := one (List.getElem?_eq_getElem hjw)
              have e7 : rs[j]? = some rd := by rw [List.getElem?_eq_getElem hj, ej]
              rw [e7] at e1
              cases e1
              exact fun e he => e6 e (sorted_mem he)
            · have s68 := g3.trans s8
              have hx8 : H8 x = some (.ins C dx (putF "_fields" (.ref l) [])) := s68 _ _ upd_same
              refine ⟨_, rfl, x, C, dx, _, rfl, hx8, cl, nR, by show 1 < 1000; decide, ?_⟩
              have d9 : Sd H8 (upd H8 x (.ins C dx (putF "_rules" (.ref z) (putF "_fields" (.ref l) [])))) := sd_ins hx8
              refine k l z _ (fun b o' nb e => ?_) ⟨dx, by rw [upd_same, pf2]⟩ (tab_sd (Sd.trans (sdOf s68) d9) tab6) ?_
              · rw [upd_ne nb]
                refine s68 _ _ ?_
                rw [upd_ne nb]
                exact s05 _ _ e
              · rw [eru, List.map_map]
                exact rulesAt_sd d9 hru
end
end Q
set_option Elab.async false
set_option linter.all false
set_option maxRecDepth 100000
set_option maxHeartbeats 4000000
/-! ### fields, rules, __eq__ -/
namespace Q
open PySem L2 XD
/-- fields as data -/
def entryD (e : Str × List Str) : PyData := .tuple [.str e.1, .tuple (e.2.map PyData.str)]
def tabD (t : List (Str × List Str)) : PyData := .tuple (t.map entryD)
def rulesD (rs : List (List (Str × Str))) : PyData := .tuple (rs.map ruleD)
theorem eqvAll_strs : ∀ a b : List Str, PyData.eqvAll (a.map PyData.str) (b.map PyData.str) = decide (a = b)
  | [], [] => by simp [PyData.eqvAll]
  | [], _ :: _ => by simp [PyData.eqvAll]
  | _ :: _, [] => by simp [PyData.eqvAll]
  | x :: a, y :: b => by
    rw [List.map_cons, List.map_cons, PyData.eqvAll, eqvAll_strs a b, PyData.eqv]
    by_cases h1 : x = y
    · by_cases h2 : a = b
      · simp [h1, h2]
      · simp [h1, h2]
    · simp [h1]
theorem eqvAll_tab : ∀ a b : List (Str × List Str), PyData.eqvAll (a.map entryD) (b.map entryD) = decide (a = b)
  | [], [] => by simp [PyData.eqvAll]
  | [], _ :: _ => by simp [PyData.eqvAll]
  | _ :: _, [] => by simp [PyData.eqvAll]
  | (n, w) :: a, (m, v) :: b => by
    rw [List.map_cons, List.map_cons, PyData.eqvAll, eqvAll_tab a b]
    unfold entryD
    rw [PyData.eqv, PyData.eqvAll, PyData.eqvAll, PyData.eqvAll, PyData.eqv, PyData.eqv, eqvAll_strs]
    by_cases h1 : n = m
    · by_cases h2 : w = v
      · by_cases h3 : a = b
        · simp [h1, h2, h3]
        · simp [h1, h2, h3]
      · simp [h1, h2]
    · simp [h1]
theorem eqvAll_rules : ∀ a b : List (List (Str × Str)), PyData.eqvAll (a.map ruleD) (b.map ruleD) = decide (a = b)
  | [], [] => by simp [PyData.eqvAll]
  | [], _ :: _ => by simp [PyData.eqvAll]
  | _ :: _, [] => by simp [PyData.eqvAll]
  | x :: a, y :: b => by
    rw [List.map_cons, List.map_cons, PyData.eqvAll, eqvAll_rules a b, eqv_rule]
    by_cases h1 : x = y
    · by_cases h2 : a = b
      · simp [h1, h2]
      · simp [h1, h2]
    · simp [h1]
def TStr (t : List (Str × List Str)) : Prop := ∀ e ∈ t, PyData.strOk e.1 = true ∧ ∀ w ∈ e.2, PyData.strOk w = true
theorem strs_depth : ∀ ws : List Str, PyData.depthAll (ws.map PyData.str) = 0
  | [] => by simp [PyData.depthAll]
  | w :: ws => by simp [PyData.depthAll, PyData.depth, strs_depth ws]
theorem tab_lay : ∀ t : List (Str × List Str), TStr t → PyData.canLayAll0 (t.map entryD) = true
  | [], _ => by simp [PyData.canLayAll0]
  | e :: t, h => by
    have h1 := h e List.mem_cons_self
    rw [List.map_cons, PyData.canLayAll0, tab_lay t fun x hx => h x (List.mem_cons_of_mem _ hx), Bool.and_true]
    unfold entryD
    simp [PyData.canLay0, PyData.canLayAll0, h1.1, lay_strs e.2 h1.2]
theorem tab_depth : ∀ t : List (Str × List Str), PyData.depthAll (t.map entryD) ≤ 2
  | [] => by simp [PyData.depthAll]
  | e :: t => by
    have h1 := tab_depth t
    rw [List.map_cons, PyData.depthAll]
    have h2 : (entryD e).depth ≤ 2 := by
      unfold entryD
      simp [PyData.depth, PyData.depthAll, strs_depth]
    omega
theorem tab_shaped {t : List (Str × List Str)} (h : TStr t) : SeqAt.shaped (tabD t) = true := by
  unfold SeqAt.shaped tabD
  have h2 := tab_depth t
  rw [PyData.canLay0, tab_lay t h, Bool.true_and]
  refine decide_eq_true ?_
  rw [PyData.depth]
  omega
theorem rulesD_shaped {rs : List (List (Str × Str))} (h : ∀ r ∈ rs, RStr r) : SeqAt.shaped (rulesD rs) = true := by
  unfold SeqAt.shaped rulesD
  have h2 := rules_depth rs
  rw [PyData.canLay0, rules_lay rs h, Bool.true_and]
  refine decide_eq_true ?_
  rw [PyData.depth]
  omega
theorem tabR_dps {K : PySem.W.Frag} {H : Hp} : ∀ {ps : List Addr} {kvs : List (Key × V)} {t : List (Str × List Str)}, TabR K H ps kvs t → DpAll K H (ps.map V.ref) (t.map entryD)
  | _, _, _, .nil => .nil
  | _, _, _, .cons a b o c => .cons (.tup a (.cons (.str _) (.cons (.tup b (dps_strs _)) .nil))) (tabR_dps c)
theorem tab_dp {K : PySem.W.Frag} {H : Hp} {p : Addr} {t : List (Str × List Str)} (h : TabAt K H p t) : Dp K H (.ref p) (tabD t) := by
  obtain ⟨ps, kvs, a, b, _⟩ := h
  exact .tup a.sqT (tabR_dps b)
theorem rules_dp {K : PySem.W.Frag} {H : Hp} {p : Addr} {rs : List (List (Str × Str))} (h : RulesAt K H p rs) : Dp K H (.ref p) (rulesD rs) := by
  obtain ⟨ps, a, b⟩ := h
  exact .tup a.sqT (rules_dps b)
/-- a form stands at x -/
structure Stands (K : PySem.W.Frag) (C : Addr) (H : Hp) (x : Addr) (t : List (Str × List Str)) (rs : List (List (Str × Str))) : Prop where
  at_ : ∃ pf pr, FormAt C H x pf pr ∧ TabAt K H pf t ∧ RulesAt K H pr rs
  ts : TStr t
  rs : ∀ r ∈ rs, RStr r
def spGet (K : PySem.W.Frag) (C : Addr) (r : Bool) : Sp := fun vs H Q _ => ∃ x pf pr, vs = [.ref x] ∧ FormAt C H x pf pr ∧ Q (.ref (if r = true then pr else pf)) H
def spEq (K : PySem.W.Frag) (C : Addr) : Sp := fun vs H Q _ => ∃ x t rs v, vs = [.ref x, v] ∧ Stands K C H x t rs ∧
  ((∃ d, Dp K H v d ∧ Q (.bl false) H) ∨ ∃ y t' rs', v = .ref y ∧ Stands K C H y t' rs' ∧ Q (.bl (decide (t = t') && decide (rs = rs'))) H)
/-- what the written part says of the class -/
structure Fc (K : PySem.W.Frag) (mg : Str → Option Value) (C : Addr) : Prop where
  cl : Cls K C
  nF : NoAttr K C "_fields"
  nR : NoAttr K C "_rules"
  gF : mg "Form" = some (.ref C)
  isi : mg "isinstance" = none
  ty : ∀ {H : Hp} {x dx : Addr} {fs : List (Str × V)}, H x = some (.ins C dx fs) → TyOf K H (.ref x) (.ref C)
  self : PySem.W.kitOne K (.ref C) (.ref C) = some true
  no : ∀ d : PyData, (∀ kvs, d ≠ .dict kvs) → PySem.W.kitOne K (.type (tyName d)) (.ref C) = some false
theorem lkF {l z : Addr} : List.lookup ("_fields" : Str) [(("_fields" : Str), V.ref l), (("_rules" : Str), V.ref z)] = some (.ref l) := by
  have e : (("_fields" : Str) == "_fields") = true := by decide +kernel
  rw [List.lookup, e]
theorem lkR {l z : Addr} : List.lookup ("_rules" : Str) [(("_fields" : Str), V.ref l), (("_rules" : Str), V.ref z)] = some (.ref z) := by
  have e : (("_rules" : Str) == "_fields") = false := by decide +kernel
  have e2 : (("_rules" : Str) == "_rules") = true := by decide +kernel
  rw [List.lookup, e]
  show List.lookup ("_rules" : Str) [(("_rules" : Str), V.ref z)] = _
  rw [List.lookup, e2]
section
variable {P : Program} {w : World} {K : PySem.W.Frag} {mg : Str → Option Value} {base : Heap}
theorem ok_fieldsM {f C : Addr} {fd : FuncData} (F : Fun K "fields" "Form.fields" sFieldsM f fd) (T : Fc K mg C) : FnOk P w K mg base CX0 1 f fd ["self"] (spGet K C false) := by
  refine F.ok scFieldsM (fun vs H Q E h => ?_) (fun cdv A outer s H vs Q E hr h => ?_)
  · obtain ⟨x, pf, pr, rfl, _⟩ := h
    rfl
  obtain ⟨x, pf, pr, rfl, ⟨dx, hx⟩, k⟩ := h
  refine ⟨_, pss_one (ps_ret (pe_fld (pv 0) rfl)), ?_⟩
  exact ⟨_, rfl, x, C, dx, _, _, rfl, hx, T.cl, T.nF, lkF, k⟩
theorem ok_rulesM {f C : Addr} {fd : FuncData} (F : Fun K "rules" "Form.rules" sRulesM f fd) (T : Fc K mg C) : FnOk P w K mg base CX0 1 f fd ["self"] (spGet K C true) := by
  refine F.ok scRulesM (fun vs H Q E h => ?_) (fun cdv A outer s H vs Q E hr h => ?_)
  · obtain ⟨x, pf, pr, rfl, _⟩ := h
    rfl
  obtain ⟨x, pf, pr, rfl, ⟨dx, hx⟩, k⟩ := h
  refine ⟨_, pss_one (ps_ret (pe_fld (pv 0) rfl)), ?_⟩
  exact ⟨_, rfl, x, C, dx, _, _, rfl, hx, T.cl, T.nR, lkR, k⟩
theorem ok_eqM {f C : Addr} {fd : FuncData} (F : Fun K "__eq__" "Form.__eq__" sEqM f fd) (T : Fc K mg C) : FnOk P w K mg base CX0 1 f fd ["self", "other"] (spEq K C) := by
  refine F.ok scEqM (fun vs H Q E h => ?_) (fun cdv A outer s H vs Q E hr h => ?_)
  · obtain ⟨x, t, rs, v, rfl, _⟩ := h
    rfl
  obtain ⟨x, t, rs, v, rfl, ⟨⟨pf, pr, ⟨dx, hx⟩, h2, h3⟩, hts, hrs⟩, k⟩ := h
  have hu := hr.units
  refine ⟨_, pss_one (ps_ret (pe_and (pe_callB call_isi rfl T.isi (by decide +kernel) (pa_cons (pv 1) (pa_cons (pe_glob (v := .ref C) (by rfl) T.gF rfl) pa_nil)))
    (pe_and (pe_cmpR (op_eqD hu) (pe_fld (pv 0) rfl) (pe_fld (pv 1) rfl) (nomark _)) (pe_one (pe_cmpR (op_eqD hu) (pe_fld (pv 0) rfl) (pe_fld (pv 1) rfl) (nomark _)))))), ?_⟩
  rcases k with ⟨d, hd, k⟩ | ⟨y, t', rs', rfl, ⟨⟨pf', pr', ⟨dx', hx'⟩, h2', h3'⟩, hts', hrs'⟩, k⟩
  · exact ⟨_, rfl, _, _, _, _, _, rfl, .own C, tyD hd, T.no d (dp_no_dict hd), _, rfl, iteF k⟩
  · refine ⟨_, rfl, _, _, _, _, _, rfl, .own C, .base (T.ty hx'), T.self, _, rfl, iteT ?_⟩
    refine ⟨_, rfl, x, C, dx, _, _, rfl, hx, T.cl, T.nF, lkF, _, rfl, y, C, dx', _, _, rfl, hx', T.cl, T.nF, lkF, tabD t, tabD t', tab_dp h2, tab_dp h2', tab_shaped hts, tab_shaped hts', _, rfl, ?_⟩
    have e1 : PyData.eqv (tabD t) (tabD t') = decide (t = t') := by
      unfold tabD
      rw [PyData.eqv]
      exact eqvAll_tab t t'
    have e2 : PyData.eqv (rulesD rs) (rulesD rs') = decide (rs = rs') := by
      unfold rulesD
      rw [PyData.eqv]
      exact eqvAll_rules rs rs'
    rw [e1]
    by_cases g : t = t'
    · rw [decide_eq_true g, Bool.true_and] at k
      refine iteDT g ⟨_, rfl, x, C, dx, _, _, rfl, hx, T.cl, T.nR, lkR, _, rfl, y, C, dx', _, _, rfl, hx', T.cl, T.nR, lkR, rulesD rs, rulesD rs', rules_dp h3, rules_dp h3', rulesD_shaped hrs, rulesD_shaped hrs', ?_⟩
      rw [e2]
      exact k
    · rw [decide_eq_false g, Bool.false_and] at k
      exact iteDF g k
end
end Q
set_option Elab.async false
set_option linter.all false
set_option maxRecDepth 100000
set_option maxHeartbeats 4000000
/-! ### a tape: a dict of six keys -/
namespace Q
open PySem L2
def tp (b : Addr) (p v g m s : Int) : List (Key × V) := [(.inr "cells", .ref b), (.inr "at", .int p), (.inr "value", .int v), (.inr "digits", .int g), (.inr "mixed", .int m), (.inr "salt", .int s)]
def tks : List Key := [.inr "cells", .inr "at", .inr "value", .inr "digits", .inr "mixed", .inr "salt"]
theorem tks_nodup : tks.Nodup := by decide +kernel
theorem tne : ∀ i < 6, ∀ j < 6, i ≠ j → tks[i]? ≠ tks[j]? := by decide +kernel
theorem n01 : ¬ ((.inr "cells" : Key) = .inr "at") := by decide +kernel
theorem n02 : ¬ ((.inr "cells" : Key) = .inr "value") := by decide +kernel
theorem n03 : ¬ ((.inr "cells" : Key) = .inr "digits") := by decide +kernel
theorem n04 : ¬ ((.inr "cells" : Key) = .inr "mixed") := by decide +kernel
theorem n05 : ¬ ((.inr "cells" : Key) = .inr "salt") := by decide +kernel
theorem n12 : ¬ ((.inr "at" : Key) = .inr "value") := by decide +kernel
theorem n13 : ¬ ((.inr "at" : Key) = .inr "digits") := by decide +kernel
theorem n14 : ¬ ((.inr "at" : Key) = .inr "mixed") := by decide +kernel
theorem n15 : ¬ ((.inr "at" : Key) = .inr "salt") := by decide +kernel
theorem n23 : ¬ ((.inr "value" : Key) = .inr "digits") := by decide +kernel
theorem n24 : ¬ ((.inr "value" : Key) = .inr "mixed") := by decide +kernel
theorem n25 : ¬ ((.inr "value" : Key) = .inr "salt") := by decide +kernel
theorem n34 : ¬ ((.inr "digits" : Key) = .inr "mixed") := by decide +kernel
theorem n35 : ¬ ((.inr "digits" : Key) = .inr "salt") := by decide +kernel
theorem n45 : ¬ ((.inr "mixed" : Key) = .inr "salt") := by decide +kernel
theorem putK_in {κ : Type} [DecidableEq κ] {kvs : List (κ × V)} {k : κ} {v y : V} (h : valV kvs k = some y) : putK kvs k v = kvs.map fun kv => if kv.1 = k then (kv.1, v) else kv := by
  unfold putK
  rw [valV_any, h] <;> rfl
section
variable {b : Addr} {p v g m s : Int}
theorem tg0 : valV (tp b p v g m s) (.inr "cells") = some (.ref b) := valV_pos rfl
theorem tg1 : valV (tp b p v g m s) (.inr "at") = some (.int p) := by
  unfold tp
  rw [valV_neg n01]
  exact valV_pos rfl
theorem tg2 : valV (tp b p v g m s) (.inr "value") = some (.int v) := by
  unfold tp
  rw [valV_neg n02, valV_neg n12]
  exact valV_pos rfl
theorem tg3 : valV (tp b p v g m s) (.inr "digits") = some (.int g) := by
  unfold tp
  rw [valV_neg n03, valV_neg n13, valV_neg n23]
  exact valV_pos rfl
theorem tg4 : valV (tp b p v g m s) (.inr "mixed") = some (.int m) := by
  unfold tp
  rw [valV_neg n04, valV_neg n14, valV_neg n24, valV_neg n34]
  exact valV_pos rfl
theorem tg5 : valV (tp b p v g m s) (.inr "salt") = some (.int s) := by
  unfold tp
  rw [valV_neg n05, valV_neg n15, valV_neg n25, valV_neg n35, valV_neg n45]
  exact valV_pos rfl
theorem tu1 {y : Int} : putK (tp b p v g m s) (.inr "at") (.int y) = tp b y v g m s := by
  rw [putK_in tg1]
  unfold tp
  simp only [List.map_cons, List.map_nil]
  rw [if_neg n01, if_pos True.intro, if_neg (Ne.symm n12), if_neg (Ne.symm n13), if_neg (Ne.symm n14), if_neg (Ne.symm n15)]
theorem tu2 {y : Int} : putK (tp b p v g m s) (.inr "value") (.int y) = tp b p y g m s := by
  rw [putK_in tg2]
  unfold tp
  simp only [List.map_cons, List.map_nil]
  rw [if_neg n02, if_neg n12, if_pos True.intro, if_neg (Ne.symm n23), if_neg (Ne.symm n24), if_neg (Ne.symm n25)]
theorem tu3 {y : Int} : putK (tp b p v g m s) (.inr "digits") (.int y) = tp b p v y m s := by
  rw [putK_in tg3]
  unfold tp
  simp only [List.map_cons, List.map_nil]
  rw [if_neg n03, if_neg n13, if_neg n23, if_pos True.intro, if_neg (Ne.symm n34), if_neg (Ne.symm n35)]
theorem tu4 {y : Int} : putK (tp b p v g m s) (.inr "mixed") (.int y) = tp b p v g y s := by
  rw [putK_in tg4]
  unfold tp
  simp only [List.map_cons, List.map_nil]
  rw [if_neg n04, if_neg n14, if_neg n24, if_neg n34, if_pos True.intro, if_neg (Ne.symm n45)]
theorem tu5 {y : Int} : putK (tp b p v g m s) (.inr "salt") (.int y) = tp b p v g m y := by
  rw [putK_in tg5]
  unfold tp
  simp only [List.map_cons, List.map_nil]
  rw [if_neg n05, if_neg n15, if_neg n25, if_neg n35, if_neg n45, if_pos True.intro]
end
/-- the written dict -/
theorem tmerge {b : Addr} {p v g m s : Int} : mergeK [] (tp b p v g m s) = tp b p v g m s := by
  show putK (putK (putK (putK (putK (putK ([] : List (Key × V)) (Sum.inr "cells" : Key) (.ref b)) (Sum.inr "at" : Key) (.int p)) (Sum.inr "value" : Key) (.int v)) (Sum.inr "digits" : Key) (.int g)) (Sum.inr "mixed" : Key) (.int m)) (Sum.inr "salt" : Key) (.int s) = _
  have z : ∀ {kvs : List (Key × V)} {k : Key} {v : V}, valV kvs k = none → putK kvs k v = kvs ++ [(k, v)] := fun h => putK_new _ h
  rw [z (kvs := []) valV_nil]
  rw [z (k := .inr "at") (by rw [List.nil_append, valV_neg n01]; exact valV_nil)]
  rw [z (k := .inr "value") (by show valV [_, _] _ = _; rw [valV_neg n02, valV_neg n12]; exact valV_nil)]
  rw [z (k := .inr "digits") (by show valV [_, _, _] _ = _; rw [valV_neg n03, valV_neg n13, valV_neg n23]; exact valV_nil)]
  rw [z (k := .inr "mixed") (by show valV [_, _, _, _] _ = _; rw [valV_neg n04, valV_neg n14, valV_neg n24, valV_neg n34]; exact valV_nil)]
  rw [z (k := .inr "salt") (by show valV [_, _, _, _, _] _ = _; rw [valV_neg n05, valV_neg n15, valV_neg n25, valV_neg n35, valV_neg n45]; exact valV_nil)]
  rfl
/-- a tape at a: its copy of the script at b -/
structure Tx (H : Hp) (a b : Addr) (ns : List Int) (p v g m s : Int) : Prop where
  at_ : H a = some (.dK (tp b p v g m s))
  ls : H b = some (.lst (ns.map V.int))
  pos : 0 ≤ p
def Tape (b : Addr) (H : Hp) (a : Addr) : Prop := ∃ (ns : List Int) (p v g m s : Int), Tx H a b ns p v g m s
section
variable {H : Hp} {a b : Addr} {ns : List Int} {p v g m s : Int}
theorem Tx.ne (Z : Tx H a b ns p v g m s) : b ≠ a := fun e => by
  have h := Z.ls
  rw [e, Z.at_] at h
  cases h
theorem Tx.put {p' v' g' m' s' : Int} (Z : Tx H a b ns p v g m s) (h : 0 ≤ p') : Tx (upd H a (.dK (tp b p' v' g' m' s'))) a b ns p' v' g' m' s' :=
  ⟨upd_same, by rw [upd_ne Z.ne]; exact Z.ls, h⟩
theorem Tx.g0 (Z : Tx H a b ns p v g m s) : DGet H a (.str "cells") (some (.ref b)) := by
  rw [← tg0 (b := b) (p := p) (v := v) (g := g) (m := m) (s := s)]
  exact DGet.k (k := .inr "cells") Z.at_
theorem Tx.g1 (Z : Tx H a b ns p v g m s) : DGet H a (.str "at") (some (.int p)) := by
  rw [← tg1 (b := b) (p := p) (v := v) (g := g) (m := m) (s := s)]
  exact DGet.k (k := .inr "at") Z.at_
theorem Tx.g2 (Z : Tx H a b ns p v g m s) : DGet H a (.str "value") (some (.int v)) := by
  rw [← tg2 (b := b) (p := p) (v := v) (g := g) (m := m) (s := s)]
  exact DGet.k (k := .inr "value") Z.at_
theorem Tx.g3 (Z : Tx H a b ns p v g m s) : DGet H a (.str "digits") (some (.int g)) := by
  rw [← tg3 (b := b) (p := p) (v := v) (g := g) (m := m) (s := s)]
  exact DGet.k (k := .inr "digits") Z.at_
theorem Tx.g4 (Z : Tx H a b ns p v g m s) : DGet H a (.str "mixed") (some (.int m)) := by
  rw [← tg4 (b := b) (p := p) (v := v) (g := g) (m := m) (s := s)]
  exact DGet.k (k := .inr "mixed") Z.at_
theorem Tx.g5 (Z : Tx H a b ns p v g m s) : DGet H a (.str "salt") (some (.int s)) := by
  rw [← tg5 (b := b) (p := p) (v := v) (g := g) (m := m) (s := s)]
  exact DGet.k (k := .inr "salt") Z.at_
theorem tp_small : (tp b p v g m s).length < sizeLine := by show 6 < sizeLine; decide
theorem Tx.u1 {y : Int} (Z : Tx H a b ns p v g m s) : DPut H a (.str "at") (.int y) (upd H a (.dK (tp b y v g m s))) := by
  rw [← tu1 (p := p)]
  exact DPut.k (k := .inr "at") Z.at_ tp_small
theorem Tx.u2 {y : Int} (Z : Tx H a b ns p v g m s) : DPut H a (.str "value") (.int y) (upd H a (.dK (tp b p y g m s))) := by
  rw [← tu2 (v := v)]
  exact DPut.k (k := .inr "value") Z.at_ tp_small
theorem Tx.u3 {y : Int} (Z : Tx H a b ns p v g m s) : DPut H a (.str "digits") (.int y) (upd H a (.dK (tp b p v y m s))) := by
  rw [← tu3 (g := g)]
  exact DPut.k (k := .inr "digits") Z.at_ tp_small
theorem Tx.u4 {y : Int} (Z : Tx H a b ns p v g m s) : DPut H a (.str "mixed") (.int y) (upd H a (.dK (tp b p v g y s))) := by
  rw [← tu4 (m := m)]
  exact DPut.k (k := .inr "mixed") Z.at_ tp_small
theorem Tx.u5 {y : Int} (Z : Tx H a b ns p v g m s) : DPut H a (.str "salt") (.int y) (upd H a (.dK (tp b p v g m y))) := by
  rw [← tu5 (s := s)]
  exact DPut.k (k := .inr "salt") Z.at_ tp_small
end
end Q
set_option Elab.async false
set_option linter.all false
set_option maxRecDepth 100000
set_option maxHeartbeats 4000000
namespace Q
open PySem L2
end Q
/-! ### the flow: a list of the script's copy and five ints -/
namespace Q
open PySem L2
def fl (b : Addr) (p s c m w : Int) : List V := [.ref b, .int p, .int s, .int c, .int m, .int w]
/-- a flow at a: its copy of the script at b -/
structure Fx (H : Hp) (a b : Addr) (ns : List Int) (p s c m w : Int) : Prop where
  at_ : H a = some (.lst (fl b p s c m w))
  ls : H b = some (.lst (ns.map V.int))
  pos : 0 ≤ p
/-- .. whose copy of the script is b -/
def Flw (b : Addr) (H : Hp) (a : Addr) : Prop := ∃ (ns : List Int) (p s c m w : Int), Fx H a b ns p s c m w
/-- all but a stands -/
def Kept (a : Addr) (H H' : Hp) : Prop := ∀ x o, x ≠ a → H x = some o → H' x = some o
theorem Kept.refl {a : Addr} {H : Hp} : Kept a H H := fun _ _ _ e => e
theorem Kept.trans {a : Addr} {H H1 H2 : Hp} (k : Kept a H H1) (l : Kept a H1 H2) : Kept a H H2 := fun x o n e => l x o n (k x o n e)
theorem Kept.upd {a : Addr} {H : Hp} {o : HO} : Kept a H (upd H a o) := fun x u n e => by
  rw [upd_ne n]
  exact e
theorem Fx.ne {H : Hp} {a b : Addr} {ns : List Int} {p s c m w : Int} (F : Fx H a b ns p s c m w) : b ≠ a := fun e => by
  have h := F.ls
  rw [e, F.at_] at h
  have q : (fl b p s c m w) = ns.map V.int := HO.lst.inj (Option.some.inj h)
  cases ns with
  | nil => cases q
  | cons x r =>
    have z := (List.cons.inj q).1
    cases z
theorem Fx.put {H : Hp} {a b : Addr} {ns : List Int} {p s c m w p' s' c' m' w' : Int} (F : Fx H a b ns p s c m w) (h : 0 ≤ p') : Fx (upd H a (.lst (fl b p' s' c' m' w'))) a b ns p' s' c' m' w' :=
  ⟨upd_same, by rw [upd_ne F.ne]; exact F.ls, h⟩
theorem Fx.kept {H H' : Hp} {a b : Addr} {ns : List Int} {p s c m w : Int} (F : Fx H a b ns p s c m w) (k : Same H H') : Fx H' a b ns p s c m w :=
  ⟨k _ _ F.at_, k _ _ F.ls, F.pos⟩
theorem Flw.same {H H' : Hp} {a b : Addr} (F : Flw b H a) (k : Same H H') : Flw b H' a := by
  obtain ⟨ns, p, s, c, m, w, F⟩ := F
  exact ⟨ns, p, s, c, m, w, F.kept k⟩
theorem Kept.of_same {a : Addr} {H H' : Hp} (k : Same H H') : Kept a H H' := fun x o _ e => k x o e
theorem fl0 {b : Addr} {p s c m w : Int} : atI (fl b p s c m w) 0 = some (.ref b) := rfl
theorem fl1 {b : Addr} {p s c m w : Int} : atI (fl b p s c m w) 1 = some (.int p) := rfl
theorem fl2 {b : Addr} {p s c m w : Int} : atI (fl b p s c m w) 2 = some (.int s) := rfl
theorem fl3 {b : Addr} {p s c m w : Int} : atI (fl b p s c m w) 3 = some (.int c) := rfl
theorem fl4 {b : Addr} {p s c m w : Int} : atI (fl b p s c m w) 4 = some (.int m) := rfl
theorem fl5 {b : Addr} {p s c m w : Int} : atI (fl b p s c m w) 5 = some (.int w) := rfl
/-! ### promises -/
def spFlow (K : PySem.W.Frag) : Sp := fun vs H Q _ => ∃ (a : Addr) (ns : List Int), vs = [.ref a] ∧ SqL K H a (ns.map V.int) ∧
  ∀ (f b : Addr) (H' : Hp), Same H H' → Flw b H' f → H f = none → H b = none → Q (.ref f) H'
def spLoad : Sp := fun vs H Q _ => ∃ a b, vs = [.ref a] ∧ Flw b H a ∧ ∀ H', Flw b H' a → Kept a H H' → Q .non H'
def spDraw : Sp := fun vs H Q _ => ∃ (a b : Addr) (n : Int), vs = [.ref a, .int n] ∧ Flw b H a ∧ n.natAbs < 2 ^ 200 ∧
  ∀ (r : Int) (H' : Hp), 0 ≤ r → r < (if n > 1 then n else 1) → Flw b H' a → Kept a H H' → Q (.int r) H'
def spPick : Sp := fun vs H Q _ => ∃ (a b t : Addr) (xs : List V), vs = [.ref a, .ref t] ∧ Flw b H a ∧ H t = some (.lst xs) ∧ t ≠ a ∧ 0 < xs.length ∧ xs.length ≤ 1000 ∧
  ∀ (x : V) (H' : Hp), x ∈ xs → Flw b H' a → Kept a H H' → Q x H'
structure Bt (mg : Str → Option Value) : Prop where
  int : mg "int" = none
  list : mg "list" = none
  len : mg "len" = none
  abs : mg "abs" = none
  max : mg "max" = none
section
variable {P : Program} {w : World} {K : PySem.W.Frag} {mg : Str → Option Value} {base : Heap}
/-- what a draw of n is below -/
def lim (n : Int) : Int := if n > 1 then n else 1
theorem lim_pos (n : Int) : 0 < lim n := by
  unfold lim
  split <;> omega
theorem lim_small {n : Int} (h : n.natAbs < 2 ^ 200) : (lim n).natAbs < 2 ^ 200 := by
  unfold lim
  split
  · exact h
  · exact (by decide : (1 : Int).natAbs < 2 ^ 200)
end
end Q
set_option Elab.async false
set_option linter.all false
set_option maxRecDepth 100000
set_option maxHeartbeats 4000000
/-! ### _law_letter, _law_name -/
namespace Q
open PySem L2 XD
theorem Flw.off {H : Hp} {a b D : Addr} {o : HO} (F : Flw b H a) (h1 : D ≠ a) (h2 : D ≠ b) : Flw b (upd H D o) a := by
  obtain ⟨ns, p, s, c, m, w, Fl⟩ := F
  exact ⟨ns, p, s, c, m, w, by rw [upd_ne h1.symm]; exact Fl.at_, by rw [upd_ne h2.symm]; exact Fl.ls, Fl.pos⟩
theorem Flw.ne {H : Hp} {a b D : Addr} (F : Flw b H a) (h : H D = none) : D ≠ a ∧ D ≠ b := by
  obtain ⟨ns, p, s, c, m, w, Fl⟩ := F
  refine ⟨fun z => ?_, fun z => ?_⟩
  · rw [z, Fl.at_] at h
    cases h
  · rw [z, Fl.ls] at h
    cases h
def spLetter : Sp := fun vs H Q _ => ∃ a b, vs = [.ref a] ∧ Flw b H a ∧ ∀ (c : Nat) H', az c = true → Flw b H' a → Kept a H H' → Q (.str ⟨#[c]⟩) H'
theorem abc_at : ∀ n, n < 26 → atI ("abcdefghijklmnopqrstuvwxyz" : Str).cps.toList (n : Nat) = some (97 + n) ∧ az (97 + n) = true := by
  decide +kernel
section
variable {P : Program} {w : World} {K : PySem.W.Frag} {mg : Str → Option Value} {base : Heap}
def signs (cs : List Nat) : List Str := cs.map fun c => ⟨#[c]⟩
def spName : Sp := fun vs H Q _ => ∃ a b, vs = [.ref a] ∧ Flw b H a ∧ ∀ (x : Str) H', word x = true → Flw b H' a → Kept a H H' → Q (.str x) H'
theorem join_signs : ∀ cs : List Nat, (Txt.join Str.empty (signs cs)).cps.toList = cs := fun cs => by
  rw [TL.join_eq]
  have e := TL.tl_join Str.empty (signs cs)
  have e2 : ∀ cs : List Nat, TL.joinL [] ((signs cs).map TL.tl) = cs := by
    intro cs
    induction cs with
    | nil => rfl
    | cons c cs ih =>
      cases cs with
      | nil => rfl
      | cons d cs =>
        show [c] ++ ([] ++ TL.joinL [] ((signs (d :: cs)).map TL.tl)) = c :: d :: cs
        rw [ih]
        rfl
  exact e.trans (e2 cs)
theorem word_signs {cs : List Nat} (h1 : 1 ≤ cs.length) (h8 : cs.length ≤ 8) (h : cs.all az = true) : word (Txt.join Str.empty (signs cs)) = true := by
  have e := join_signs cs
  have hl : (Txt.join Str.empty (signs cs)).length = cs.length := by
    have : (Txt.join Str.empty (signs cs)).length = (Txt.join Str.empty (signs cs)).cps.toList.length := by
      rw [Array.length_toList]
      rfl
    rw [this, e]
  unfold word
  rw [hl, e, decide_eq_true h1, decide_eq_true h8, h]
  rfl
theorem signs_sum : ∀ cs : List Nat, ((signs cs).map (·.length)).sum = cs.length
  | [] => rfl
  | c :: cs => by
    show 1 + ((signs cs).map (·.length)).sum = cs.length + 1
    rw [signs_sum cs]
    omega
end
end Q
set_option Elab.async false
set_option linter.all false
set_option maxRecDepth 100000
set_option maxHeartbeats 4000000
/-! ### _law_same: of two times the same data it says True -/
namespace Q
open PySem L2 XD
/-- data to a depth, no row longer than 1000 -/
def Ds : Nat → PyData → Prop
  | 0, _ => False
  | n + 1, d => ∀ xs, rowOf d = some xs → xs.length ≤ 1000 ∧ ∀ x ∈ xs, Ds n x
def spSame (K : PySem.W.Frag) (n : Nat) : Sp := fun vs H Q _ => ∃ (v u : V) (d : PyData), vs = [v, u] ∧ Dp K H v d ∧ Dp K H u d ∧ Ds n d ∧ ∀ H', Same H H' → Q (.bl true) H'
structure Bs (mg : Str → Option Value) : Prop where
  isi : mg "isinstance" = none
  tup : mg "tuple" = none
  list : mg "list" = none
  len : mg "len" = none
  all : mg "all" = none
  range : mg "range" = none
  str : mg "str" = none
  bool : mg "bool" = none
  int : mg "int" = none
theorem all_true (n : Nat) : (List.replicate n true).all id = true := by
  induction n with
  | zero => rfl
  | succ n ih => rw [List.replicate_succ, List.all_cons, ih] <;> rfl
theorem iteNS {c : Bool} {A B : Prop} (h : c = false) (b : B) : if c = true then A else B := by
  rw [h]
  exact iteF b
theorem dps_get2 {K : PySem.W.Frag} {H : Hp} {vs us : List V} {ds : List PyData} {i : Nat} (h1 : DpAll K H vs ds) (h2 : DpAll K H us ds) (hi : i < ds.length) : ∃ v u d, vs[i]? = some v ∧ us[i]? = some u ∧ ds[i]? = some d ∧ Dp K H v d ∧ Dp K H u d := by
  have l1 := dps_len h1
  have l2 := dps_len h2
  have e1 : vs[i]? = some vs[i] := List.getElem?_eq_getElem (by omega)
  have e2 : us[i]? = some us[i] := List.getElem?_eq_getElem (by omega)
  obtain ⟨d, g1, g2⟩ := dps_get h1 e1
  obtain ⟨d', g3, g4⟩ := dps_get h2 e2
  rw [g1] at g3
  cases g3
  exact ⟨_, _, d, e1, e2, g1, g2, g4⟩
section
variable {P : Program} {w : World} {K : PySem.W.Frag} {mg : Str → Option Value} {base : Heap}
end
end Q
set_option Elab.async false
set_option linter.all false
set_option maxRecDepth 100000
set_option maxHeartbeats 4000000
/-! ### _law_sorted -/
namespace Q
open PySem L2 XD
/-- the pairs in the sequence of the table, as the law finds them -/
def bySeq (t : List (Str × List Str)) (r : List (Str × Str)) : List (Str × Str) := t.flatMap fun e => r.filter fun f => decide (f.1 = e.1)
theorem bySeq_next {t : List (Str × List Str)} {r : List (Str × Str)} {i : Nat} {e : Str × List Str} (h : t[i]? = some e) : bySeq (t.take (i + 1)) r = bySeq (t.take i) r ++ r.filter fun f => decide (f.1 = e.1) := by
  unfold bySeq
  rw [take_one h, List.flatMap_append]
  simp
theorem prd_app {α β : Type} {R : α → β → Prop} : ∀ {xs xs2 : List α} {ys ys2 : List β}, Paired R xs ys → Paired R xs2 ys2 → Paired R (xs ++ xs2) (ys ++ ys2)
  | _, _, _, _, .nil, h => h
  | _, _, _, _, .cons a b, h => .cons a (prd_app b h)
def spSorted (K : PySem.W.Frag) : Sp := fun vs H Q _ => ∃ (p q : Addr) (ps : List Addr) (kvs : List (Key × V)) (t : List (Str × List Str)) (qs : List Addr) (r : List (Str × Str)), vs = [.ref p, .ref q] ∧ (SqL K H p (ps.map V.ref) ∨ SqT K H p (ps.map V.ref)) ∧ TabR K H ps kvs t ∧
  (SqL K H q (qs.map V.ref) ∨ SqT K H q (qs.map V.ref)) ∧ Paired (fun q (e : Str × Str) => SqT K H q [.str e.1, .str e.2]) qs r ∧ t.length ≤ 6 ∧ r.length ≤ 10 ∧ ∀ z H', Same H H' → RuleAt K H' z (bySeq t r) → Q (.ref z) H'
section
variable {P : Program} {w : World} {K : PySem.W.Frag} {mg : Str → Option Value} {base : Heap}
end
end Q
set_option Elab.async false
set_option linter.all false
/-! ### the program's sequence and the law's are one -/
namespace Q
open PySem L2 XD
theorem filter_none {n : Str} : ∀ {r : List (Str × Str)}, (∀ e ∈ r, e.1 ≠ n) → r.filter (fun f => decide (f.1 = n)) = []
  | [], _ => rfl
  | e :: r, h => by
    rw [List.filter_cons_of_neg (by simpa using h e List.mem_cons_self)]
    exact filter_none fun f hf => h f (List.mem_cons_of_mem _ hf)
theorem pick_filter {n : Str} : ∀ {r : List (Str × Str)}, (r.map (·.1)).Nodup → ((pick n r).map fun w => (n, w)).toList = r.filter fun f => decide (f.1 = n)
  | [], _ => rfl
  | (m, w) :: r, h => by
    rw [List.map_cons, List.nodup_cons] at h
    unfold pick
    by_cases e : m = n
    · subst e
      rw [if_pos rfl, List.filter_cons_of_pos (by simp), filter_none fun f hf z => h.1 (List.mem_map.mpr ⟨f, hf, z⟩)]
      rfl
    · rw [if_neg e, List.filter_cons_of_neg (by simpa using e)]
      exact pick_filter h.2
theorem sorted_bySeq {r : List (Str × Str)} (h : (r.map (·.1)).Nodup) : ∀ t : List (Str × List Str), sorted t r = bySeq t r
  | [] => rfl
  | e :: t => by
    have ih := sorted_bySeq h t
    unfold sorted bySeq at ih ⊢
    rw [List.flatMap_cons, ← ih, ← pick_filter (n := e.1) h]
    cases ep : pick e.1 r with
    | none => simp [ep]
    | some w => simp [ep]
end Q
set_option Elab.async false
set_option linter.all false
set_option maxRecDepth 100000
set_option maxHeartbeats 4000000
/-! ### texts as lists of code points; _law_near -/
namespace Q
open PySem L2 XD
def tlx (s : Str) : List Nat := s.cps.toList
theorem tlx_len (s : Str) : (tlx s).length = s.length := Array.length_toList
theorem tlx_app (a b : Str) : tlx (a ++ b) = tlx a ++ tlx b := TL.tl_append a b
theorem tlx_inj {a b : Str} (h : tlx a = tlx b) : a = b := by
  obtain ⟨⟨x⟩⟩ := a
  obtain ⟨⟨y⟩⟩ := b
  have h' : x = y := h
  rw [h']
theorem tlx_one (c : Nat) : tlx ⟨#[c]⟩ = [c] := rfl
theorem tlx_to (z : Str) (k : Nat) : tlx (cutS z none (some (k : Int))) = (tlx z).take k := by
  show ((z.cps.toList.drop 0).take (HT.sIx z.length z.length (some (k : Int)) - 0)) = z.cps.toList.take k
  rw [HT.sIx_nat, List.drop_zero, Nat.sub_zero]
  have e : z.cps.toList.length = z.length := Array.length_toList
  rw [← e, ← List.take_eq_take_min]
theorem tlx_from (z : Str) (k : Nat) : tlx (cutS z (some (k : Int)) none) = (tlx z).drop k := by
  show ((z.cps.toList.drop (HT.sIx z.length 0 (some (k : Int)))).take (z.length - HT.sIx z.length 0 (some (k : Int)))) = z.cps.toList.drop k
  have e : z.cps.toList.length = z.length := Array.length_toList
  rw [HT.sIx_nat, ← e]
  by_cases h : k ≤ z.cps.toList.length
  · rw [Nat.min_eq_left h, List.take_of_length_le (by rw [List.length_drop]; exact Nat.le_refl _)]
  · rw [Nat.min_eq_right (by omega), List.drop_length, List.drop_eq_nil_of_le (by omega), List.take_nil]
theorem word_iff {s : Str} : word s = true ↔ 1 ≤ (tlx s).length ∧ (tlx s).length ≤ 8 ∧ (tlx s).all az = true := by
  unfold word
  rw [Bool.and_eq_true, Bool.and_eq_true, decide_eq_true_eq, decide_eq_true_eq, tlx_len]
  exact ⟨fun ⟨⟨a, b⟩, c⟩ => ⟨a, b, c⟩, fun ⟨a, b, c⟩ => ⟨⟨a, b⟩, c⟩⟩
theorem word_len {s : Str} (h : word s = true) : s.length ≤ 8 := by
  have := (word_iff.mp h).2.1
  rwa [tlx_len] at this
theorem all_take {p : Nat → Bool} {l : List Nat} (h : l.all p = true) (k : Nat) : (l.take k).all p = true :=
  List.all_eq_true.mpr fun x hx => List.all_eq_true.mp h x (List.mem_of_mem_take hx)
theorem all_drop {p : Nat → Bool} {l : List Nat} (h : l.all p = true) (k : Nat) : (l.drop k).all p = true :=
  List.all_eq_true.mpr fun x hx => List.all_eq_true.mp h x (List.mem_of_mem_drop hx)
theorem word_of {s : Str} {l : List Nat} (e : tlx s = l) (h1 : 1 ≤ l.length) (h8 : l.length ≤ 8) (ha : l.all az = true) : word s = true :=
  word_iff.mpr ⟨by rw [e]; exact h1, by rw [e]; exact h8, by rw [e]; exact ha⟩
theorem cutS_short (z : Str) (lo hi : Option Int) : (cutS z lo hi).length ≤ z.length := by
  rw [← tlx_len, ← tlx_len]
  show ((z.cps.toList.drop _).take _).length ≤ z.cps.toList.length
  rw [List.length_take, List.length_drop]
  omega
theorem le_line {n : Nat} (h : n ≤ 1000) : n ≤ sizeLine := Nat.le_of_lt (small1000 h)
theorem one_len (c : Nat) : Str.length ⟨#[c]⟩ = 1 := rfl
theorem seq_cut {t u : TS} {D : Ends} {σ : L2.St} {H : Hp} (M : L2.St → Hp → Prop) (h2 : ∀ σ' H', M σ' H' → u D σ' H') (h1 : (∀ σ' H', M σ' H' → u D σ' H') → t { D with nx := u D } σ H) : tSeq t u D σ H := h1 h2
def spNear : Sp := fun vs H Q _ => ∃ a b x, vs = [.ref a, .str x] ∧ Flw b H a ∧ word x = true ∧ ∀ (y : Str) H', word y = true → Flw b H' a → Kept a H H' → Q (.str y) H'
section
variable {P : Program} {w : World} {K : PySem.W.Frag} {mg : Str → Option Value} {base : Heap}
end
end Q
set_option Elab.async false
set_option linter.all false
set_option maxRecDepth 100000
set_option maxHeartbeats 4000000
/-! ### _law_pick of a list or a tuple; _law_words -/
namespace Q
open PySem L2 XD
theorem sqL_kept {K : PySem.W.Frag} {H H' : Hp} {a p : Addr} {xs : List V} (k : Kept a H H') (n : p ≠ a) (h : SqL K H p xs) : SqL K H' p xs := by
  rcases h with (h | ⟨o, h⟩) | h
  · exact .inl (.inl (k _ _ n h))
  · exact .inl (.inr ⟨o, k _ _ n h⟩)
  · exact .inr h
theorem sqT_kept {K : PySem.W.Frag} {H H' : Hp} {a p : Addr} {xs : List V} (k : Kept a H H') (n : p ≠ a) (h : SqT K H p xs) : SqT K H' p xs := by
  rcases h with (h | ⟨o, h⟩) | h
  · exact .inl (.inl (k _ _ n h))
  · exact .inl (.inr ⟨o, k _ _ n h⟩)
  · exact .inr h
theorem sq_kept {K : PySem.W.Frag} {H H' : Hp} {a p : Addr} {xs : List V} (k : Kept a H H') (n : p ≠ a) (h : SqL K H p xs ∨ SqT K H p xs) : SqL K H' p xs ∨ SqT K H' p xs :=
  h.elim (fun q => .inl (sqL_kept k n q)) (fun q => .inr (sqT_kept k n q))
theorem Flw.lst {H : Hp} {a b : Addr} (F : Flw b H a) : ∃ xs, H a = some (.lst xs) := by
  obtain ⟨ns, p, s, c, m, w, F⟩ := F
  exact ⟨_, F.at_⟩
theorem seqT_flw {K : PySem.W.Frag} {H H' : Hp} {a b q : Addr} {xs : List V} (F : Flw b H a) (k : Kept a H H') (h : SqT K H q xs) : SqT K H' q xs := by
  obtain ⟨ys, e⟩ := F.lst
  have n1 : ∀ {o : HO}, H q = some o → (∀ l, o ≠ .lst l) → q ≠ a := fun e1 e2 z => by
    subst z
    rw [e] at e1
    exact e2 _ (Option.some.inj e1).symm
  rcases h with (h | ⟨o, h⟩) | h
  · exact .inl (.inl (k _ _ (n1 h (by intro l z; cases z)) h))
  · exact .inl (.inr ⟨o, k _ _ (n1 h (by intro l z; cases z)) h⟩)
  · exact .inr h
def spPickB (K : PySem.W.Frag) : Sp := fun vs H Q _ => ∃ (a b t : Addr) (xs : List V), vs = [.ref a, .ref t] ∧ Flw b H a ∧ ((SqL K H t xs ∧ t ≠ a) ∨ SqT K H t xs) ∧ 0 < xs.length ∧ xs.length ≤ 1000 ∧
  ∀ (i : Nat) (x : V) (H' : Hp), xs[i]? = some x → Flw b H' a → Kept a H H' → Q x H'
section
variable {P : Program} {w : World} {K : PySem.W.Frag} {mg : Str → Option Value} {base : Heap}
end
/-! ### words not told yet -/
def lastOf (s : Str) : Option Nat := (tlx s).getLast?
def nine : List Nat := ("abcdefghi" : Str).cps.toList
theorem nine_nodup : nine.Nodup := by decide +kernel
theorem nine_len : nine.length = 9 := by decide +kernel
theorem nine_az : ∀ c ∈ nine, az c = true := by decide +kernel
theorem in_words {w : Str} : ∀ {ws : List Str}, inV (.str w) (ws.map V.str) = decide (w ∈ ws)
  | [] => rfl
  | x :: ws => by
    have ih := in_words (w := w) (ws := ws)
    unfold inV at ih ⊢
    rw [List.map_cons, List.any_cons, ih]
    show ((x == w) || _) = _
    by_cases e : x = w
    · subst e
      simp
    · have e2 : ¬ w = x := fun z => e z.symm
      have e1 : (x == w) = false := beq_eq_false_iff_ne.mpr e
      rw [e1, Bool.false_or]
      simp [e2]
theorem flat_words : ∀ ws : List Str, (ws.map V.str).all flatV = true
  | [] => rfl
  | x :: ws => by
    rw [List.map_cons, List.all_cons, flat_words ws]
    rfl
/-- the word after j letters: new, or each one tried stands among the words -/
def Tried (ws : List Str) (j : Nat) (x : Str) : Prop := x ∉ ws ∨ j = 0 ∨ ∃ l : List Str, (l ++ [x]).map lastOf = (nine.take j).map some ∧ ∀ y ∈ l, y ∈ ws
theorem tried_next {ws : List Str} {j : Nat} {x y : Str} {c : Nat} (h : Tried ws j x) (hin : x ∈ ws) (hc : nine[j]? = some c) (hy : lastOf y = some c) : Tried ws (j + 1) y := by
  rcases h with h | h | ⟨l, h1, h2⟩
  · exact absurd hin h
  · subst h
    refine .inr (.inr ⟨[], ?_, fun y h => absurd h List.not_mem_nil⟩)
    rw [take_one hc, List.map_append]
    show [lastOf y] = [some c]
    rw [hy]
  · refine .inr (.inr ⟨l ++ [x], ?_, fun z hz => ?_⟩)
    · have e2 : ((l ++ [x]) ++ [y]).map lastOf = (l ++ [x]).map lastOf ++ [lastOf y] := List.map_append
      rw [take_one hc, e2, h1, hy, List.map_append]
      rfl
    · rcases List.mem_append.mp hz with hz | hz
      · exact h2 z hz
      · rw [List.mem_singleton.mp hz]
        exact hin
theorem tried_done {ws : List Str} {x : Str} (h : Tried ws 9 x) (hl : ws.length < 8) : x ∉ ws := by
  rcases h with h | h | ⟨l, h1, h2⟩
  · exact h
  · cases h
  · exfalso
    have e9 : nine.take 9 = nine := List.take_of_length_le (by rw [nine_len]; exact Nat.le_refl _)
    rw [e9] at h1
    have hn : ((l ++ [x]).map lastOf).Nodup := by
      rw [h1]
      exact List.pairwise_map.mpr (List.Pairwise.imp (fun h z => h (Option.some.inj z)) nine_nodup)
    have hl8 : l.length = 8 := by
      have := congrArg List.length h1
      rw [List.length_map, List.length_map, nine_len, List.length_append, List.length_singleton] at this
      omega
    have hd : l.Nodup := by
      have h3 : (l ++ [x]).Nodup := List.Pairwise.imp (fun h z => h (by rw [z])) (List.pairwise_map.mp hn)
      exact (List.nodup_append.mp h3).1
    have := List.Nodup.length_le_of_subset hd (fun y hy => h2 y hy)
    omega
theorem tried_put {x : Str} {c : Nat} (hw : word x = true) (hc : az c = true) : word (cutS x none (some (7 : Int)) ++ ⟨#[c]⟩) = true ∧ lastOf (cutS x none (some (7 : Int)) ++ ⟨#[c]⟩) = some c := by
  obtain ⟨w1, w8, wa⟩ := word_iff.mp hw
  have e : tlx (cutS x none (some (7 : Int)) ++ ⟨#[c]⟩) = (tlx x).take 7 ++ [c] := by
    rw [tlx_app, tlx_one]
    exact congrArg (· ++ [c]) (tlx_to x 7)
  refine ⟨word_of e ?_ ?_ ?_, ?_⟩
  · simp only [List.length_append, List.length_singleton]
    omega
  · simp only [List.length_append, List.length_singleton, List.length_take]
    omega
  · rw [List.all_append, all_take wa]
    simp [hc]
  · unfold lastOf
    rw [e]
    simp
end Q
set_option Elab.async false
set_option linter.all false
set_option maxRecDepth 100000
set_option maxHeartbeats 4000000
/-! ### _law_words -/
namespace Q
open PySem L2 XD
def Wds (ws : List Str) : Prop := ws.Nodup ∧ ∀ x ∈ ws, word x = true
def spWords (K : PySem.W.Frag) : Sp := fun vs H Q _ => ∃ (a b p : Addr) (m : Nat) (ws : List Str), vs = [.ref a, .int m, .ref p] ∧ Flw b H a ∧ m ≤ 7 ∧ SqL K H p (ws.map V.str) ∧ p ≠ a ∧ ws.length ≤ 1000 ∧ (∀ x ∈ ws, word x = true) ∧
  ∀ (D : Addr) (us : List Str) (H' : Hp), H D = none → H' D = some (.lst (us.map V.str)) → us.length = m → Wds us → Flw b H' a → Kept a H H' → Q (.ref D) H'
theorem Kept.new {a D : Addr} {H H' : Hp} {o : HO} (k : Kept a H H') (hD : H D = none) : Kept a H (L2.upd H' D o) := fun x u n e => by
  rw [upd_ne (ne_of_none e hD)]
  exact k x u n e
section
variable {P : Program} {w : World} {K : PySem.W.Frag} {mg : Str → Option Value} {base : Heap}
end
end Q
set_option Elab.async false
set_option linter.all false
set_option maxRecDepth 100000
set_option maxHeartbeats 4000000
/-! ### _law_table, _law_ban -/
namespace Q
open PySem L2 XD
theorem sqZ_flw {H H' : Hp} {a b q : Addr} {xs : List V} (F : Flw b H a) (k : Kept a H H') (h : SqZ H q xs) : SqZ H' q xs := by
  obtain ⟨ys, e⟩ := F.lst
  obtain ⟨o, h, d⟩ := h
  refine ⟨o, k _ _ (fun z => ?_) h, d⟩
  rw [z, e] at h
  cases h
theorem TabR.flw {K : PySem.W.Frag} {H H' : Hp} {a b : Addr} (F : Flw b H a) (s : Kept a H H') : ∀ {ps : List Addr} {kvs : List (Key × V)} {t : List (Str × List Str)}, TabR K H ps kvs t → TabR K H' ps kvs t
  | _, _, _, .nil => .nil
  | _, _, _, .cons a b o c => .cons (seqT_flw F s a) (seqT_flw F s b) o (TabR.flw F s c)
theorem prd_flw {K : PySem.W.Frag} {H H' : Hp} {a b : Addr} (F : Flw b H a) (s : Kept a H H') : ∀ {qs : List Addr} {r : List (Str × Str)}, Paired (fun q (e : Str × Str) => SqT K H q [.str e.1, .str e.2]) qs r → Paired (fun q (e : Str × Str) => SqT K H' q [.str e.1, .str e.2]) qs r
  | _, _, .nil => .nil
  | _, _, .cons a b => .cons (seqT_flw F s a) (prd_flw F s b)
theorem RuleAt.flw {K : PySem.W.Frag} {H H' : Hp} {a b p : Addr} {r : List (Str × Str)} (F : Flw b H a) (s : Kept a H H') (h : RuleAt K H p r) : RuleAt K H' p r := by
  obtain ⟨qs, h1, h2⟩ := h
  exact ⟨qs, sqZ_flw F s h1, prd_flw F s h2⟩
/-- a good table whose fields have so many values -/
structure Tb (t : List (Str × List Str)) (ms : List Nat) : Prop where
  sz : t.map (fun e => e.2.length) = ms
  nm : Wds (t.map (·.1))
  vs : ∀ e ∈ t, Wds e.2
def spTable (K : PySem.W.Frag) : Sp := fun vs H Q _ => ∃ (a b p : Addr) (ms : List Nat), vs = [.ref a, .ref p] ∧ Flw b H a ∧ H p = some (.lst (ms.map fun (m : Nat) => V.int m)) ∧ p ≠ a ∧ ms.length ≤ 7 ∧ (∀ m ∈ ms, m ≤ 7) ∧
  ∀ (D : Addr) (ps : List Addr) (kvs : List (Key × V)) (t : List (Str × List Str)) (H' : Hp), H D = none → H' D = some (.lst (ps.map V.ref)) → TabR K H' ps kvs t → Tb t ms → Flw b H' a → Kept a H H' → Q (.ref D) H'
section
variable {P : Program} {w : World} {K : PySem.W.Frag} {mg : Str → Option Value} {base : Heap}
end
end Q
set_option Elab.async false
set_option linter.all false
set_option maxRecDepth 100000
set_option maxHeartbeats 4000000
/-! ### _law_ban -/
namespace Q
open PySem L2 XD
/-- a rule over the table -/
structure Ban (t : List (Str × List Str)) (m : Nat) (r : List (Str × Str)) : Prop where
  lo : 1 ≤ r.length
  hi : r.length ≤ m
  nd : (r.map (·.1)).Nodup
  of : ∀ e ∈ r, ∃ ws, (e.1, ws) ∈ t ∧ e.2 ∈ ws
theorem TabR.flen {K : PySem.W.Frag} {H : Hp} {ps : List Addr} {kvs : List (Key × V)} {t : List (Str × List Str)} (h : TabR K H ps kvs t) : ps.length = t.length := h.len.1
theorem TabR.get {K : PySem.W.Frag} {H : Hp} {ps : List Addr} {kvs : List (Key × V)} {t : List (Str × List Str)} {i : Nat} {e : Str × List Str} (h : TabR K H ps kvs t) (he : t[i]? = some e) :
    ∃ q v, (ps.map V.ref)[i]? = some (.ref q) ∧ SqT K H q [.str e.1, .ref v] ∧ SqT K H v (e.2.map V.str) := by
  have hi : i < t.length := (List.getElem?_eq_some_iff.mp he).1
  have hi2 : i < (ps.map V.ref).length := by rw [List.length_map, h.flen]; exact hi
  obtain ⟨q, v, n, ws, h1, h2, h3, h4⟩ := h.at (List.getElem?_eq_getElem hi2)
  rw [he] at h2
  cases h2
  exact ⟨q, v, by rw [← h1]; exact List.getElem?_eq_getElem hi2, h3, h4⟩
theorem nodup_take {U L : List Nat} {k y : Nat} (h : (U ++ L).Nodup) (hy : L[k]? = some y) : ((U ++ [y]) ++ L.eraseIdx k).Nodup := by
  obtain ⟨hk, e⟩ := List.getElem?_eq_some_iff.mp hy
  have e1 : L = L.take k ++ y :: L.drop (k + 1) := by
    rw [← e, ← List.drop_eq_getElem_cons hk, List.take_append_drop]
  rw [List.eraseIdx_eq_take_drop_succ]
  have p : (U ++ L).Perm ((U ++ [y]) ++ (L.take k ++ L.drop (k + 1))) := by
    conv => lhs; rw [e1]
    rw [List.append_assoc]
    exact (List.Perm.append_left U List.perm_middle)
  exact p.nodup_iff.mp h
theorem map_erase {α β : Type} (f : α → β) : ∀ (l : List α) (k : Nat), (l.map f).eraseIdx k = (l.eraseIdx k).map f
  | [], _ => rfl
  | _ :: _, 0 => rfl
  | x :: l, k + 1 => by
    show f x :: (l.map f).eraseIdx k = f x :: (l.eraseIdx k).map f
    rw [map_erase f l k]
def spBan (K : PySem.W.Frag) : Sp := fun vs H Q _ => ∃ (a b p : Addr) (ps : List Addr) (kvs : List (Key × V)) (t : List (Str × List Str)) (m : Nat), vs = [.ref a, .ref p, .int m] ∧ Flw b H a ∧ (SqL K H p (ps.map V.ref) ∨ SqT K H p (ps.map V.ref)) ∧ p ≠ a ∧ TabR K H ps kvs t ∧
  1 ≤ t.length ∧ t.length ≤ 7 ∧ (t.map (·.1)).Nodup ∧ (∀ e ∈ t, 1 ≤ e.2.length ∧ e.2.length ≤ 7) ∧ 1 ≤ m ∧ m ≤ 7 ∧
  ∀ (z : Addr) (r : List (Str × Str)) (H' : Hp), RuleAt K H' z r → Ban t m r → Flw b H' a → Kept a H H' → Q (.ref z) H'
section
variable {P : Program} {w : World} {K : PySem.W.Frag} {mg : Str → Option Value} {base : Heap}
end
end Q
set_option Elab.async false
set_option linter.all false
set_option maxRecDepth 100000
set_option maxHeartbeats 4000000
/-! A tuple turned by [::-1], kept as it is made. -/
namespace XR
open PySem PySem.Spec PyProof.Rows HT L2 XD
section
variable {prog : Program} {w : World} {A : Around} {E : Value → Shared → Prop} {s : Shared}
theorem back_places (n : Nat) : Builtin.Slice.slicePlaces ((n : Int) - 1) (-1) (-1) = n := by
  unfold Builtin.Slice.slicePlaces
  have h1 : ¬ ((-1 : Int) > 0) := by decide
  simp only [h1, if_false]
  by_cases h : (n : Int) - 1 > -1
  · have e : ((n : Int) - 1 - -1 - 1) / (- -1) = (n : Int) - 1 := by
      rw [show (- -1 : Int) = 1 by decide, Int.ediv_one]
      omega
    simp only [h, if_true, e]
    omega
  · have e : n = 0 := by omega
    subst e
    simp
theorem back_adjust (n : Nat) : Builtin.Slice.sliceAdjust none none (-1) (n : Int) = ((n : Int) - 1, -1) := by
  unfold Builtin.Slice.sliceAdjust
  have h1 : ((-1 : Int) < 0) := by decide
  simp only [h1, if_true]
theorem back_pick (xs : Array Value) : ((List.range xs.size).filterMap fun (k : Nat) => xs[((xs.size : Int) - 1 + (k : Int) * (-1)).toNat]?).toArray = xs.toList.reverse.toArray := by
  have e : (fun (k : Nat) => xs[((xs.size : Int) - 1 + (k : Int) * (-1)).toNat]?) = fun k => xs[xs.size - 1 - k]? := by
    funext k
    by_cases h : k < xs.size
    · have : ((xs.size : Int) - 1 + (k : Int) * (-1)).toNat = xs.size - 1 - k := by omega
      rw [this]
    · have : ((xs.size : Int) - 1 + (k : Int) * (-1)).toNat = xs.size - 1 - k := by omega
      rw [this]
  rw [e]
  have e2 : (fun (k : Nat) => xs[xs.size - 1 - k]?) = (fun x => xs[x]?) ∘ (fun k => xs.size - 1 - k) := rfl
  rw [e2, ← List.filterMap_map, PySem.W.krv_range, List.filterMap_reverse, PySem.W.krv_all]
theorem sliceApplied_back {sl : Addr} {vk : Value} {n : Nat} {Q : Int × Int × Nat → Shared → Prop} (hs : s.heap.IsSliceOf sl .none .none vk) (pk : IsPart vk (some (-1)))
    (h : Q ((n : Int) - 1, -1, n) s) : wpAny (model prog w) A (Builtin.Slice.sliceApplied (.ref sl) (pure (n : Int))) Q E s := by
  obtain ⟨os, hos, hcs, hds⟩ := id hs
  unfold Builtin.Slice.sliceApplied Builtin.Slice.sliceFields
  refine wpAny_bind (wpAny_bind (wpAny_field hos hds (x := .none) rfl (wpAny_bind (wpAny_field hos hds (x := .none) rfl (wpAny_bind (wpAny_field hos hds (x := vk) rfl (wpAny_pure ?_)))))))
  refine wpAny_bind (slicePart_ pk ?_)
  show wpAny _ _ (if ((-1 : Int) == 0) = true then _ else _) _ _ s
  rw [if_neg (by decide)]
  refine wpAny_bind (slicePart_ .none (wpAny_bind (slicePart_ .none (wpAny_bind (wpAny_pure ?_)))))
  show wpAny _ _ (match Builtin.Slice.sliceAdjust none none (-1) (n : Int) with | (lo, hi) => pure (lo, (-1 : Int), Builtin.Slice.slicePlaces lo hi (-1))) _ _ s
  rw [back_adjust n]
  show wpAny _ _ (pure ((n : Int) - 1, (-1 : Int), Builtin.Slice.slicePlaces ((n : Int) - 1) (-1) (-1))) _ _ s
  rw [back_places]
  exact wpAny_pure h
theorem getItem_tuple_back {t sl : Addr} {items : Array Value} {vk : Value} {Q : Value → Shared → Prop} (ht : IsTup s.heap t items) (hs : s.heap.IsSliceOf sl .none .none vk) (pk : IsPart vk (some (-1)))
    (h : Q (.ref s.heap.objs.size) { s with heap := s.heap.push { cls := .type "tuple", data := .seq items.toList.reverse.toArray } })
    (hsz : items.size ≤ sizeLine) : wpAny (model prog w) A (getItem (.ref t) (.ref sl)) Q E s := by
  have htake : sizeOk (.seq items.toList.reverse.toArray) := by
    show items.toList.reverse.toArray.size ≤ sizeLine
    rw [List.size_toArray, List.length_reverse, Array.length_toList]
    exact hsz
  obtain ⟨os, hos, hcs, hds⟩ := id hs
  have hTs : s.TypeIs (.ref sl) "slice" := ⟨os, hos, hcs⟩
  unfold getItem
  try with_reducible refine wpAny_holding ?_
  first | refine wpAny_bind (wpAny_pure ?_) | skip
  refine wpAny_bind (wpAny_sequenceKey ht.typeIs (by decide) ?_)
  refine wpAny_bind (wpAny_callSpecial?_slot (name := Str.ofString "__getitem__") ht.typeIs PyProof.Rows.slot_tuple_getitem
    (wpAny_call_entry PyProof.Rows.slot_tuple_getitem ht.typeIs entry_tuple_getitem ?_ (args_tuple_getitem _ _)))
  show wpAny _ _ (Builtin.Tuple.tupleItemsOf (.ref t) >>= _) _ _ s
  refine wpAny_bind (tupleItemsOf_ ht ?_)
  refine wpAny_bind (wpAny_typeOf hTs ?_)
  rw [if_pos (by decide)]
  refine wpAny_bind (sliceApplied_back hs pk ?_)
  have hno : ¬ ((((items.size : Int) - 1 : Int) == 0 && (-1 : Int) == 1 && items.size == items.size) = true) := by
    intro q
    rw [Bool.and_eq_true, Bool.and_eq_true] at q
    exact absurd q.1.2 (by decide)
  show wpAny _ _ (if (((items.size : Int) - 1 : Int) == 0 && (-1 : Int) == 1 && items.size == items.size) = true then _ else _) _ _ s
  rw [if_neg hno, back_pick]
  first
    | exact wpAny_bind (m := Builtin.Tuple.tupleExact _) (wpAny_newObj_type (wpAny_pure ⟨_, rfl, wpAny_pure h⟩) htake)
    | exact wpAny_bind (m := Builtin.Tuple.tupleExact _) (wpAny_newObj_type (wpAny_bind (wpAny_pure (wpAny_pure ⟨_, rfl, wpAny_pure h⟩))) htake)
    | exact wpAny_bind (wpAny_bind (m := Builtin.Tuple.tupleExact _) (wpAny_newObj_type (wpAny_pure (wpAny_pure ⟨_, rfl, wpAny_pure h⟩)) htake))
    | exact wpAny_bind (wpAny_bind (m := Builtin.Tuple.tupleExact _) (wpAny_newObj_type (wpAny_pure ⟨_, rfl, wpAny_pure h⟩) htake))
end
section
variable {X : Cx}
/-- t[::-1] -/
def tRevT (K : PySem.W.Frag) (te : TE) : TE := fun σ H Q => te σ H fun x H1 => ∃ a xs, x = .ref a ∧ SqT K H1 a xs ∧ ∀ p o, H1 p = none → o.dict = none → Q (.ref p) (upd H1 p (.frz o (.tup xs.reverse)))
theorem pe_revT {e : Expr} {te : TE} {k : Nat} {p1 p2 p3 pos : Pos} (he : PE X e te) : PE X (.Subscript e (.Slice none none (some (.UnaryOp .USub (.Constant (.int 1) k p1) p2)) p3) pos) (tRevT X.K te) := by
  refine ⟨fun pins s σ H Q I h => ?_⟩
  refine Subscript_ (thn (he.run pins s σ H _ I h) fun v s1 ⟨x, H1, I1, r1, q1⟩ => ?_)
  obtain ⟨a, xs, ex, hx, q⟩ := q1
  subst ex
  cases r1
  have hst : PO X (some (.UnaryOp .USub (.Constant (.int 1) k p1) p2)) (tPart (tUn (rU fun i => .int (-i)) (tC (.int 1)))) := po_some (pe_un un_neg pe_int)
  refine wpAny_Slice (thn (po_none.run pins s1 σ H1 (fun o H2 => o = none ∧ H2 = H1) I1 ⟨rfl, rfl⟩) fun vl s2 ⟨l, H2, I2, pl, el, e2⟩ => ?_)
  subst el e2
  refine thn (po_none.run pins s2 σ H2 (fun o H3 => o = none ∧ H3 = H2) I2 ⟨rfl, rfl⟩) fun vu s3 ⟨u, H3, I3, pu, eu, e3⟩ => ?_
  subst eu e3
  refine thn (hst.run pins s3 σ H3 (fun o H4 => o = some (-1) ∧ H4 = H3) I3 ⟨1, rfl, -1, rfl, rfl, rfl⟩) fun vs s4 ⟨o, H4, I4, ps, eo, e4⟩ => ?_
  subst eo e4
  cases pl
  cases pu
  have I5 : Inv X pins σ H4 { s4 with heap := s4.heap.push { cls := .type "slice", data := .fields #[.none, .none, vs] } } := I4.kept (t' := s4.toks) fun b ob q => Heap.get?_push_of_some _ q
  obtain ⟨its, r, ht, hz⟩ := I5.tuple hx
  have hlen := r.length
  show wpAny (model X.prog X.w) X.A (subscriptTail e (.Slice none none (some (.UnaryOp .USub (.Constant (.int 1) k p1) p2)) p3) (.ref a) (.ref s4.heap.objs.size)) (EP X pins σ Q) X.xe { s4 with heap := s4.heap.push { cls := .type "slice", data := .fields #[.none, .none, vs] } }
  refine tail_any (ops := [.ref a, .ref s4.heap.objs.size]) ht.typeIs (PyProof.Rows.slot_tuple_getitem.lookup) ?_ (by with_unfolding_all rfl)
  refine getItem_tuple_back ht (Heap.IsSliceOf.new _ .none .none vs) ps ?_ (by rw [List.size_toArray]; omega)
  refine ⟨.ref _, _, I5.laid (t' := s4.toks) (o := .frz { cls := .type "tuple", data := .seq its.reverse.toArray } (.tup xs.reverse)) (fun b ob q => Heap.get?_push_of_some _ q) (Nat.le_refl _) ?_, rfl, q _ _ (I5.hok.fresh (Nat.le_refl _)) rfl⟩
  exact ⟨Heap.get?_push_size _ rfl, by rw [List.length_reverse]; exact hz, _, r.reverse, IsTup.new _ _⟩
theorem pe_revTK {e : Expr} {te : TE} {k : Nat} {p1 p2 p3 pos : Pos} (K : PySem.W.Frag) (h : X.K = K) (he : PE X e te) : PE X (.Subscript e (.Slice none none (some (.UnaryOp .USub (.Constant (.int 1) k p1) p2)) p3) pos) (tRevT K te) := by
  subst h
  exact pe_revT he
end
end XR
set_option Elab.async false
set_option linter.all false
set_option maxRecDepth 100000
set_option maxHeartbeats 4000000
/-! ### what good data come to -/
namespace Q
open PySem L2 XD
theorem prd_mem {α β : Type} {R : α → β → Prop} : ∀ {xs : List α} {ys : List β}, Paired R xs ys → ∀ x ∈ xs, ∃ y ∈ ys, R x y
  | _, _, .nil, x, h => absurd h List.not_mem_nil
  | _, _, .cons a b, x, h => by
    rcases List.mem_cons.mp h with rfl | h
    · exact ⟨_, List.mem_cons_self, a⟩
    · obtain ⟨y, h1, h2⟩ := prd_mem b x h
      exact ⟨y, List.mem_cons_of_mem _ h1, h2⟩
theorem prd_map {α β γ : Type} {R : α → β → Prop} {f : α → γ} {g : β → γ} (h : ∀ x y, R x y → f x = g y) : ∀ {xs : List α} {ys : List β}, Paired R xs ys → xs.map f = ys.map g
  | _, _, .nil => rfl
  | _, _, .cons a b => by rw [List.map_cons, List.map_cons, h _ _ a, prd_map h b]
/-- data that tell the table -/
def FTab (t : List (Str × List Str)) (d : PyData) : Prop := ∃ fs, rowOf d = some fs ∧ Paired (fun f (e : Str × List Str) => ∃ b, pairOf f = some (.str e.1, b) ∧ rowOf b = some (e.2.map PyData.str)) fs t
def FRule (r : List (Str × Str)) (d : PyData) : Prop := ∃ gs, rowOf d = some gs ∧ Paired (fun g (e : Str × Str) => pairOf g = some (.str e.1, .str e.2)) gs r
def FRules (rs : List (List (Str × Str))) (d : PyData) : Prop := ∃ fs, rowOf d = some fs ∧ Paired (fun f r => FRule r f) fs rs
structure TabOk (t : List (Str × List Str)) : Prop where
  lo : 1 ≤ t.length
  hi : t.length ≤ 6
  nm : Wds (t.map (·.1))
  vs : ∀ e ∈ t, Wds e.2 ∧ 1 ≤ e.2.length ∧ e.2.length ≤ 5
theorem texts_str (ws : List Str) : textsOf (ws.map PyData.str) = ws := by
  unfold textsOf
  rw [List.map_map]
  exact List.map_id _
theorem all_strs {ws : List Str} (h : ∀ x ∈ ws, word x = true) : (ws.map PyData.str).all isWord = true :=
  List.all_eq_true.mpr fun d hd => by
    obtain ⟨x, hx, rfl⟩ := List.mem_map.mp hd
    exact h x hx
theorem unlike_strs {ws : List Str} (h : Wds ws) : unlike (ws.map PyData.str) = true := by
  unfold unlike
  rw [all_strs h.2, texts_str, decide_eq_true h.1]
  rfl
theorem values_strs {b : PyData} {ws : List Str} (e : rowOf b = some (ws.map PyData.str)) (h : Wds ws) (h1 : 1 ≤ ws.length) (h5 : ws.length ≤ 5) : areValues b = true := by
  unfold areValues
  rw [e]
  show (decide (1 ≤ (ws.map PyData.str).length) && (decide ((ws.map PyData.str).length ≤ 5) && unlike (ws.map PyData.str))) = true
  rw [List.length_map, decide_eq_true h1, decide_eq_true h5, unlike_strs h]
  rfl
theorem short_word {x : Str} (h : word x = true) : Short (.str x) := by
  show x.length ≤ 1000000
  have := word_len h
  omega
theorem tab_fields {t : List (Str × List Str)} {d : PyData} (h : FTab t d) (T : TabOk t) : areFields d = true ∧ tabOf d = t ∧ FShort d := by
  obtain ⟨fs, e, hp⟩ := h
  have hl : fs.length = t.length := prd_len hp
  have e1 : fs.map firstOf = (t.map (·.1)).map PyData.str := by
    rw [List.map_map]
    refine prd_map (fun f e h => ?_) hp
    obtain ⟨b, h1, _⟩ := h
    unfold firstOf
    rw [h1]
    rfl
  have e2 : fs.map entryOf = t := by
    conv => rhs; rw [← List.map_id t]
    refine prd_map (fun f e h => ?_) hp
    obtain ⟨b, h1, h2⟩ := h
    unfold entryOf
    rw [h1]
    show (strOf (.str e.1), match rowOf b with | some ws => textsOf ws | none => []) = e
    rw [h2]
    show (e.1, textsOf (e.2.map PyData.str)) = e
    rw [texts_str]
  have e3 : fs.all fieldOk = true := List.all_eq_true.mpr fun f hf => by
    obtain ⟨e, he, b, h1, h2⟩ := prd_mem hp f hf
    obtain ⟨h3, h4, h5⟩ := T.vs e he
    unfold fieldOk
    rw [h1]
    exact values_strs h2 h3 h4 h5
  refine ⟨?_, ?_, fun fs' ef f hf a b ep => ?_⟩
  · unfold areFields
    rw [e]
    show (decide (1 ≤ fs.length) && (decide (fs.length ≤ 6) && (fs.all fieldOk && unlike (fs.map firstOf)))) = true
    have l1 := T.lo
    have l6 := T.hi
    rw [e1, e3, unlike_strs T.nm, decide_eq_true (by omega : 1 ≤ fs.length), decide_eq_true (by omega : fs.length ≤ 6)]
    rfl
  · unfold tabOf
    rw [e]
    exact e2
  · rw [e] at ef
    cases ef
    obtain ⟨e, he, b', h1, h2⟩ := prd_mem hp f hf
    rw [ep] at h1
    cases h1
    refine ⟨short_word (T.nm.2 _ (List.mem_map.mpr ⟨e, he, rfl⟩)), fun ws ew w hw => ?_⟩
    rw [h2] at ew
    cases ew
    obtain ⟨x, hx, rfl⟩ := List.mem_map.mp hw
    exact short_word ((T.vs e he).1.2 x hx)
theorem look_of {n : Str} {ws : List Str} : ∀ {t : List (Str × List Str)}, (t.map (·.1)).Nodup → (n, ws) ∈ t → look n t = some ws
  | (m, us) :: t, hn, h => by
    rw [List.map_cons, List.nodup_cons] at hn
    unfold look
    by_cases e : m = n
    · rw [if_pos e]
      subst e
      rcases List.mem_cons.mp h with h | h
      · cases h
        rfl
      · exact absurd (List.mem_map.mpr ⟨_, h, rfl⟩) hn.1
    · rw [if_neg e]
      rcases List.mem_cons.mp h with h | h
      · cases h
        exact absurd rfl e
      · exact look_of hn.2 h
theorem stands_of {ws : List Str} {x : Str} (h : x ∈ ws) : stands ws (.str x) = true := by
  unfold stands
  refine List.any_eq_true.mpr ⟨.str x, List.mem_map.mpr ⟨x, h, rfl⟩, ?_⟩
  rw [PyData.eqv]
  simp
theorem go_of {t : List (Str × List Str)} (hn : (t.map (·.1)).Nodup) : ∀ {gs : List PyData} {r : List (Str × Str)} {seen : List Str}, Paired (fun g (e : Str × Str) => pairOf g = some (.str e.1, .str e.2)) gs r →
    (r.map (·.1)).Nodup → (∀ e ∈ r, e.1 ∉ seen) → (∀ e ∈ r, ∃ ws, (e.1, ws) ∈ t ∧ e.2 ∈ ws) → goFacts t seen gs = true
  | _, _, _, .nil, _, _, _ => rfl
  | _, e :: r, seen, .cons a b, h1, h2, h3 => by
    obtain ⟨ws, h4, h5⟩ := h3 e List.mem_cons_self
    rw [List.map_cons, List.nodup_cons] at h1
    have hc : seen.contains e.1 = false := by
      cases q : seen.contains e.1 with
      | false => rfl
      | true => exact absurd (by simpa using q) (h2 e List.mem_cons_self)
    rw [go_old a (look_of hn h4), hc, stands_of h5]
    refine go_of hn b h1.2 (fun f hf z => ?_) (fun f hf => h3 f (List.mem_cons_of_mem _ hf))
    rcases List.mem_cons.mp z with z | z
    · exact h1.1 (List.mem_map.mpr ⟨f, hf, z⟩)
    · exact h2 f (List.mem_cons_of_mem _ hf) z
theorem str_shaped {x : Str} (h : PyData.strOk x = true) : SeqAt.shaped (.str x) = true := by
  unfold SeqAt.shaped
  rw [Bool.and_eq_true]
  refine ⟨?_, ?_⟩
  · simpa [PyData.canLay0] using h
  · simp [PyData.depth]
theorem ban_facts {t : List (Str × List Str)} {r : List (Str × Str)} {m : Nat} {d : PyData} (hn : (t.map (·.1)).Nodup) (B : Ban t m r) (h : FRule r d) : areFacts t d = true ∧ ∃ gs, rowOf d = some gs ∧ gs.length = r.length ∧ factsOf d = r := by
  obtain ⟨gs, e, hp⟩ := h
  have hl : gs.length = r.length := prd_len hp
  have hle : r.length ≤ t.length := by
    have h1 : r.map (·.1) ⊆ t.map (·.1) := fun x hx => by
      obtain ⟨e, he, rfl⟩ := List.mem_map.mp hx
      obtain ⟨ws, h2, _⟩ := B.of e he
      exact List.mem_map.mpr ⟨_, h2, rfl⟩
    have := List.Nodup.length_le_of_subset B.nd h1
    rwa [List.length_map, List.length_map] at this
  refine ⟨?_, gs, e, hl, ?_⟩
  · unfold areFacts
    rw [e]
    show (decide (gs.length ≤ t.length) && goFacts t [] gs) = true
    rw [decide_eq_true (by omega : gs.length ≤ t.length), go_of hn hp B.nd (fun _ _ z => by cases z) B.of]
    rfl
  · unfold factsOf
    rw [e]
    show gs.map factOf = r
    conv => rhs; rw [← List.map_id r]
    refine prd_map (fun g e h => ?_) hp
    unfold factOf
    rw [h]
    rfl
theorem ban_ok {t : List (Str × List Str)} {r : List (Str × Str)} {d : PyData} (hn : (t.map (·.1)).Nodup) (B : Ban t 4 r) (h : FRule r d) : ruleOk t d = true := by
  obtain ⟨h1, gs, e, hl, _⟩ := ban_facts hn B h
  rw [ruleOk_yes e h1, decide_eq_true (by have := B.lo; omega : 1 ≤ gs.length), decide_eq_true (by have := B.hi; omega : gs.length ≤ 4)]
  rfl
theorem rule_fok {t : List (Str × List Str)} {m : Nat} {r : List (Str × Str)} {d : PyData} (T : TabOk t) (B : Ban t m r) (h : FRule r d) : FOk d := by
  obtain ⟨gs, e, hp⟩ := h
  intro fs ef f hf a b ep
  rw [e] at ef
  cases ef
  obtain ⟨e, he, h1⟩ := prd_mem hp f hf
  rw [ep] at h1
  cases h1
  obtain ⟨ws, h2, h3⟩ := B.of e he
  exact str_shaped (word_ok ((T.vs _ h2).1.2 _ h3))
theorem rules_rules {t : List (Str × List Str)} {rs : List (List (Str × Str))} {d : PyData} (h : FRules rs d) (T : TabOk t) (hb : ∀ r ∈ rs, Ban t 4 r) (hl : rs.length ≤ 20) : areRules t d = true ∧ rulesOf d = rs ∧ ROk d := by
  obtain ⟨fs, e, hp⟩ := h
  have hlen : fs.length = rs.length := prd_len hp
  refine ⟨?_, ?_, fun fs' ef f hf => ?_⟩
  · unfold areRules
    rw [e]
    show (decide (fs.length ≤ 20) && fs.all (ruleOk t)) = true
    rw [decide_eq_true (by omega : fs.length ≤ 20), Bool.true_and]
    refine List.all_eq_true.mpr fun f hf => ?_
    obtain ⟨r, hr, h1⟩ := prd_mem hp f hf
    exact ban_ok T.nm.1 (hb r hr) h1
  · unfold rulesOf
    rw [e]
    show fs.map factsOf = rs
    have : ∀ {fs : List PyData} {rs : List (List (Str × Str))}, Paired (fun f r => FRule r f) fs rs → (∀ r ∈ rs, Ban t 4 r) → fs.map factsOf = rs := by
      intro fs rs hp
      induction hp with
      | nil => intro _; rfl
      | cons a b ih =>
        intro hb
        rw [List.map_cons, ih (fun r hr => hb r (List.mem_cons_of_mem _ hr))]
        obtain ⟨_, _, _, _, h3⟩ := ban_facts T.nm.1 (hb _ List.mem_cons_self) a
        rw [h3]
    exact this hp hb
  · rw [e] at ef
    cases ef
    obtain ⟨r, hr, h1⟩ := prd_mem hp f hf
    exact rule_fok T (hb r hr) h1
theorem made_good {t : List (Str × List Str)} {rs : List (List (Str × Str))} {dF dR : PyData} (hF : FTab t dF) (hR : FRules rs dR) (T : TabOk t) (hb : ∀ r ∈ rs, Ban t 4 r) (hl : rs.length ≤ 20) :
    made dF dR = if 1000 < waysFrom 1 t then .many else .form t (once (rs.map (bySeq t))) := by
  obtain ⟨h1, h2, _⟩ := tab_fields hF T
  obtain ⟨h3, h4, _⟩ := rules_rules hR T hb hl
  unfold made
  rw [h2, if_pos h1, if_pos h3, h4]
  have : rs.map (sorted t) = rs.map (bySeq t) := List.map_congr_left fun r hr => sorted_bySeq (hb r hr).nd t
  rw [this]
/-- what a wrong table, a wrong rule comes to -/
theorem made_bad0 {dF dR : PyData} (h : areFields dF = false) : made dF dR = .bad 0 := by
  unfold made
  rw [if_neg (by rw [h]; exact fun z => by cases z)]
theorem made_bad1 {t : List (Str × List Str)} {dF dR : PyData} (hF : FTab t dF) (T : TabOk t) (h : areRules t dR = false) : made dF dR = .bad 1 := by
  obtain ⟨h1, h2, _⟩ := tab_fields hF T
  unfold made
  rw [if_pos h1, h2, if_neg (by rw [h]; exact fun z => by cases z)]
end Q
set_option Elab.async false
set_option linter.all false
set_option maxRecDepth 100000
set_option maxHeartbeats 4000000
/-! ### a form is made of good data -/
namespace Q
open PySem L2 XD
theorem passF {P : Program} {w : World} {X : Cx} : Passes (L2N.CX P w) X E0 := fun _ _ _ _ _ _ _ x => by
  obtain ⟨_, _, _, _, _, _, _, _, _, _, _, _, z⟩ := x
  exact z.elim
def kwG {α : Type} : List α → List α → List α
  | [x], [r, t] => [x, t, r]
  | _, _ => []
theorem kbn_init {K : PySem.W.Frag} {f : Addr} {fd : FuncData} (F : Fun K "__init__" "Form.__init__" sInit f fd) : KBn K fd ["self", "fields", "rules"] 1 ["rules", "fields"] kwG kwG := by
  obtain ⟨oc, od, kV, doc, pm, an, cdv, ct, osl, rfl, lk, hcd⟩ := F.ex
  refine ⟨fun s us ws X l1 l2 => ?_, fun {vs us zs ws} r1 r2 => ?_⟩
  · match us, ws, l1, l2 with
    | [x], [r, t], _, _ => exact BindsTo.of_eq rfl
  · cases r1 with
    | nil => exact .nil
    | cons a b =>
      cases b with
      | cons _ _ => exact .nil
      | nil =>
        cases r2 with
        | nil => exact .nil
        | cons c d =>
          cases d with
          | nil => exact .nil
          | cons e f =>
            cases f with
            | nil => exact .cons a (.cons e (.cons c .nil))
            | cons _ _ => exact .nil
/-- what a table and bans are handed in as -/
structure Hand (K : PySem.W.Frag) (H : Hp) (t : List (Str × List Str)) (rs : List (List (Str × Str))) (vF vR : V) (dF dR : PyData) : Prop where
  dpF : Dp K H vF dF
  dpR : Dp K H vR dR
  ft : FTab t dF
  fr : FRules rs dR
  rz : RZ K H vR dR
structure Good (t : List (Str × List Str)) (rs : List (List (Str × Str))) : Prop where
  tb : TabOk t
  bs : ∀ r ∈ rs, Ban t 4 r
  ln : rs.length ≤ 20
  ws : waysFrom 1 t ≤ 1000
theorem Hand.same {K : PySem.W.Frag} {H H' : Hp} {t : List (Str × List Str)} {rs : List (List (Str × Str))} {vF vR : V} {dF dR : PyData} (s : Same H H') (h : Hand K H t rs vF vR dF dR) : Hand K H' t rs vF vR dF dR :=
  ⟨dp_same s h.dpF, dp_same s h.dpR, h.ft, h.fr, h.rz.same s⟩
theorem init_good {K : PySem.W.Frag} {H : Hp} {C CV CM : Addr} {t : List (Str × List Str)} {rs : List (List (Str × Str))} {vF vR : V} {dF dR : PyData} {Q0 : VK} {E : XK} (G : Good t rs) (h : Hand K H t rs vF vR dF dR)
    {x dx : Addr} (hx : H x = none) (hdx : H dx = none) (hne : dx ≠ x) (k : ∀ pf pr H', Same H H' → FormAt C H' x pf pr → TabAt K H' pf t → RulesAt K H' pr (once (rs.map (bySeq t))) → Q0 .non H') :
    spInit K C CV CM [.ref x, vF, vR] (L2.upd (L2.upd H dx (.own x)) x (.ins C dx [])) Q0 E := by
  have s0 : Same H (L2.upd (L2.upd H dx (.own x)) x (.ins C dx [])) := fun b o e => by
    rw [upd_ne (ne_of_none e hx), upd_ne (ne_of_none e hdx)]
    exact e
  obtain ⟨h1, h2, h3⟩ := tab_fields h.ft G.tb
  obtain ⟨h4, h5, h6⟩ := rules_rules h.fr G.tb G.bs G.ln
  have em : made dF dR = .form t (once (rs.map (bySeq t))) := by
    rw [made_good h.ft h.fr G.tb G.bs G.ln, if_neg (by have := G.ws; omega)]
  refine ⟨x, dx, vF, vR, dF, dR, rfl, upd_same, dp_same s0 h.dpF, dp_same s0 h.dpR, h3, h6, fun _ _ _ => h.rz.same s0, ?_⟩
  rw [em]
  intro pf pr H' hk f1 f2 f3
  exact k pf pr H' (fun b o e => hk b o (ne_of_none e hx) (s0 _ _ e)) f1 f2 f3
/-- as tuples in a list or a tuple -/
structure TabIn (K : PySem.W.Frag) (H : Hp) (p : Addr) (ps : List Addr) (kvs : List (Key × V)) (t : List (Str × List Str)) : Prop where
  at_ : SqL K H p (ps.map V.ref) ∨ SqT K H p (ps.map V.ref)
  rw_ : TabR K H ps kvs t
structure BansIn (K : PySem.W.Frag) (H : Hp) (q : Addr) (qs : List Addr) (rs : List (List (Str × Str))) : Prop where
  at_ : SqL K H q (qs.map V.ref) ∨ SqT K H q (qs.map V.ref)
  rw_ : Paired (RuleAt K H) qs rs
theorem TabIn.same {K : PySem.W.Frag} {H H' : Hp} {p : Addr} {ps : List Addr} {kvs : List (Key × V)} {t : List (Str × List Str)} (s : Same H H') (h : TabIn K H p ps kvs t) : TabIn K H' p ps kvs t := ⟨sq_same s h.at_, h.rw_.same s⟩
theorem BansIn.same {K : PySem.W.Frag} {H H' : Hp} {q : Addr} {qs : List Addr} {rs : List (List (Str × Str))} (s : Same H H') (h : BansIn K H q qs rs) : BansIn K H' q qs rs := ⟨sq_same s h.at_, rules_same s h.rw_⟩
theorem tab_pair : ∀ t : List (Str × List Str), Paired (fun f (e : Str × List Str) => ∃ b, pairOf f = some (.str e.1, b) ∧ rowOf b = some (e.2.map PyData.str)) (t.map entryD) t
  | [] => .nil
  | e :: t => .cons ⟨_, rfl, rfl⟩ (tab_pair t)
theorem rule_pair : ∀ r : List (Str × Str), Paired (fun g (e : Str × Str) => pairOf g = some (.str e.1, .str e.2)) (r.map fun e => .tuple [.str e.1, .str e.2]) r
  | [] => .nil
  | e :: r => .cons rfl (rule_pair r)
theorem rules_pair : ∀ rs : List (List (Str × Str)), Paired (fun f r => FRule r f) (rs.map ruleD) rs
  | [] => .nil
  | r :: rs => .cons ⟨_, rfl, rule_pair r⟩ (rules_pair rs)
/-- what the table, the bans are as data -/
def isTab (t : List (Str × List Str)) (d : PyData) : Prop := d = .list (t.map entryD) ∨ d = .tuple (t.map entryD)
def isBans (rs : List (List (Str × Str))) (d : PyData) : Prop := d = .list (rs.map ruleD) ∨ d = .tuple (rs.map ruleD)
theorem TabIn.dp {K : PySem.W.Frag} {H : Hp} {p : Addr} {ps : List Addr} {kvs : List (Key × V)} {t : List (Str × List Str)} (h : TabIn K H p ps kvs t) : ∃ d, isTab t d ∧ Dp K H (.ref p) d := by
  rcases h.at_ with z | z
  · exact ⟨_, .inl rfl, .lst z (tabR_dps h.rw_)⟩
  · exact ⟨_, .inr rfl, .tup z (tabR_dps h.rw_)⟩
theorem BansIn.dp {K : PySem.W.Frag} {H : Hp} {q : Addr} {qs : List Addr} {rs : List (List (Str × Str))} (h : BansIn K H q qs rs) : ∃ d, isBans rs d ∧ Dp K H (.ref q) d := by
  rcases h.at_ with z | z
  · exact ⟨_, .inl rfl, .lst z (rules_dps h.rw_)⟩
  · exact ⟨_, .inr rfl, .tup z (rules_dps h.rw_)⟩
theorem isTab.ft {t : List (Str × List Str)} {d : PyData} (h : isTab t d) : FTab t d := by
  rcases h with rfl | rfl
  · exact ⟨_, rfl, tab_pair t⟩
  · exact ⟨_, rfl, tab_pair t⟩
theorem isBans.fr {rs : List (List (Str × Str))} {d : PyData} (h : isBans rs d) : FRules rs d := by
  rcases h with rfl | rfl
  · exact ⟨_, rfl, rules_pair rs⟩
  · exact ⟨_, rfl, rules_pair rs⟩
theorem isBans.row {rs : List (List (Str × Str))} {d : PyData} (h : isBans rs d) : rowOf d = some (rs.map ruleD) := by
  rcases h with rfl | rfl <;> rfl
theorem isTab.row {t : List (Str × List Str)} {d : PyData} (h : isTab t d) : rowOf d = some (t.map entryD) := by
  rcases h with rfl | rfl <;> rfl
theorem BansIn.rz {K : PySem.W.Frag} {H : Hp} {q : Addr} {qs : List Addr} {rs : List (List (Str × Str))} {d : PyData} (h : BansIn K H q qs rs) (hd : isBans rs d) : RZ K H (.ref q) d := by
  refine ⟨q, _, _, rfl, hd.row, h.at_, by rw [List.length_map, List.length_map, prd_len h.rw_], fun i y rd h1 h2 => ?_⟩
  rw [List.getElem?_map] at h1 h2
  obtain ⟨z, hz, rfl⟩ := Option.map_eq_some_iff.mp h1
  obtain ⟨r, hr, rfl⟩ := Option.map_eq_some_iff.mp h2
  obtain ⟨r', hr', ms, m1, m2⟩ := prd_at h.rw_ hz
  rw [hr] at hr'
  cases hr'
  exact ⟨z, _, _, rfl, .inr m1, rfl, prd_dps m2⟩
theorem hand_of {K : PySem.W.Frag} {H : Hp} {p q : Addr} {ps qs : List Addr} {kvs : List (Key × V)} {t : List (Str × List Str)} {rs : List (List (Str × Str))} (hp : TabIn K H p ps kvs t) (hq : BansIn K H q qs rs) : ∃ dF dR, isTab t dF ∧ isBans rs dR ∧ Hand K H t rs (.ref p) (.ref q) dF dR := by
  obtain ⟨dF, h1, h2⟩ := hp.dp
  obtain ⟨dR, h3, h4⟩ := hq.dp
  exact ⟨dF, dR, h1, h3, h2, h4, h1.ft, h3.fr, hq.rz h3⟩
end Q
set_option Elab.async false
set_option linter.all false
set_option maxRecDepth 100000
set_option maxHeartbeats 4000000
/-! ### data beside what changes -/
namespace Q
open PySem L2 XD
theorem cutV_to (xs : List V) (k : Nat) : cutV xs none (some (k : Int)) = xs.take k := by
  unfold cutV
  show ((xs.drop 0).take (HT.sIx xs.length xs.length (some (k : Int)) - 0)) = xs.take k
  rw [HT.sIx_nat, List.drop_zero, Nat.sub_zero, ← List.take_eq_take_min]
theorem cutV_from (xs : List V) (k : Nat) : cutV xs (some (k : Int)) none = xs.drop k := by
  unfold cutV
  show (xs.drop (HT.sIx xs.length 0 (some (k : Int)))).take (xs.length - HT.sIx xs.length 0 (some (k : Int))) = xs.drop k
  rw [HT.sIx_nat]
  by_cases h : k ≤ xs.length
  · rw [Nat.min_eq_left h, List.take_of_length_le (by rw [List.length_drop]; exact Nat.le_refl _)]
  · rw [Nat.min_eq_right (by omega), List.drop_length, List.drop_eq_nil_of_le (by omega), List.take_nil]
theorem cutV_last (xs : List V) : cutV xs none (some (-1)) = xs.dropLast := by
  unfold cutV
  show (xs.drop 0).take ((if (-1 : Int) < 0 then (-1 + (xs.length : Int)).toNat else min (-1 : Int).toNat xs.length) - 0) = xs.dropLast
  rw [if_pos (by decide), List.drop_zero, Nat.sub_zero, List.dropLast_eq_take]
  congr 1
  omega
/-- the heap without some addresses -/
def rmL (S : List Addr) (H : Hp) : Hp := fun b => if b ∈ S then none else H b
def Alive (S : List Addr) (H : Hp) : Prop := ∀ b ∈ S, H b ≠ none
theorem rm_at {S : List Addr} {H : Hp} {b : Addr} (h : b ∉ S) : rmL S H b = H b := if_neg h
theorem rm_of {S : List Addr} {H : Hp} {b : Addr} {o : HO} (h : rmL S H b = some o) : b ∉ S ∧ H b = some o := by
  unfold rmL at h
  by_cases e : b ∈ S
  · rw [if_pos e] at h
    cases h
  · rw [if_neg e] at h
    exact ⟨e, h⟩
theorem rm_le {S : List Addr} {H : Hp} : Same (rmL S H) H := fun b o e => (rm_of e).2
theorem rm_same {S : List Addr} {H H' : Hp} (s : Same H H') : Same (rmL S H) (rmL S H') := fun b o e => by
  rw [rm_at (rm_of e).1]
  exact s b o (rm_of e).2
theorem rm_kept {S : List Addr} {a : Addr} {H H' : Hp} (ha : a ∈ S) (s : Kept a H H') : Same (rmL S H) (rmL S H') := fun b o e => by
  rw [rm_at (rm_of e).1]
  exact s b o (fun z => (rm_of e).1 (z ▸ ha)) (rm_of e).2
theorem rm_sub {S S' : List Addr} {H : Hp} (h : ∀ b ∈ S, b ∈ S') : Same (rmL S' H) (rmL S H) := fun b o e => by
  rw [rm_at (fun z => (rm_of e).1 (h b z))]
  exact (rm_of e).2
theorem rm_put {S : List Addr} {D : Addr} {H : Hp} {o : HO} (hD : D ∈ S) : rmL S (upd H D o) = rmL S H := by
  funext b
  unfold rmL
  by_cases e : b ∈ S
  · rw [if_pos e, if_pos e]
  · have nb : b ≠ D := fun z => e (by rw [z]; exact hD)
    rw [if_neg e, if_neg e, upd_ne nb]
theorem rm_new {S : List Addr} {p : Addr} {H : Hp} {o : HO} (h : Alive S H) (hp : H p = none) : rmL S (upd H p o) p = some o := by
  rw [rm_at (fun z => h p z hp), upd_same]
theorem Alive.same {S : List Addr} {H H' : Hp} (h : Alive S H) (s : Same H H') : Alive S H' := fun b hb z => by
  cases e : H b with
  | none => exact h b hb e
  | some o =>
    rw [s b o e] at z
    cases z
theorem Alive.put {S : List Addr} {D : Addr} {H : Hp} {o : HO} (h : Alive S H) : Alive S (upd H D o) := fun b hb z => by
  by_cases e : b = D
  · rw [e, upd_same] at z
    cases z
  · rw [upd_ne e] at z
    exact h b hb z
/-- from a heap in which S stood not yet -/
theorem same_rm {S : List Addr} {H H' : Hp} (s : Same H H') (h : ∀ b ∈ S, H b = none) : Same H (rmL S H') := fun b o e => by
  rw [rm_at (fun z => by rw [h b z] at e; cases e)]
  exact s b o e
/-- v is a tuple of such data -/
def TD (K : PySem.W.Frag) (R : Hp) (v : V) (ds : List PyData) : Prop := ∃ (p : Addr) (xs : List V), v = .ref p ∧ SqT K R p xs ∧ DpAll K R xs ds
theorem TD.dp {K : PySem.W.Frag} {R : Hp} {v : V} {ds : List PyData} (h : TD K R v ds) : Dp K R v (.tuple ds) := by
  obtain ⟨p, xs, rfl, h1, h2⟩ := h
  exact .tup h1 h2
theorem TD.same {K : PySem.W.Frag} {R R' : Hp} {v : V} {ds : List PyData} (s : Same R R') (h : TD K R v ds) : TD K R' v ds := by
  obtain ⟨p, xs, e, h1, h2⟩ := h
  exact ⟨p, xs, e, seqT_same s h1, dps_same s h2⟩
theorem TD.of {K : PySem.W.Frag} {R : Hp} {v : V} {ds : List PyData} (h : Dp K R v (.tuple ds)) : TD K R v ds := by
  cases h with
  | tup a b => exact ⟨_, _, rfl, a, b⟩
theorem dps_app {K : PySem.W.Frag} {H : Hp} : ∀ {xs ys : List V} {ds es : List PyData}, DpAll K H xs ds → DpAll K H ys es → DpAll K H (xs ++ ys) (ds ++ es)
  | _, _, _, _, .nil, h => h
  | _, _, _, _, .cons a b, h => .cons a (dps_app b h)
theorem dps_take {K : PySem.W.Frag} {H : Hp} : ∀ {xs : List V} {ds : List PyData} (k : Nat), DpAll K H xs ds → DpAll K H (xs.take k) (ds.take k)
  | _, _, 0, _ => .nil
  | _, _, k + 1, .nil => .nil
  | _, _, k + 1, .cons a b => .cons a (dps_take k b)
theorem dps_drop {K : PySem.W.Frag} {H : Hp} : ∀ {xs : List V} {ds : List PyData} (k : Nat), DpAll K H xs ds → DpAll K H (xs.drop k) (ds.drop k)
  | _, _, 0, h => h
  | _, _, k + 1, .nil => .nil
  | _, _, k + 1, .cons a b => dps_drop k b
/-- t[:k], t[k:] -/
theorem to_td {K : PySem.W.Frag} {S : List Addr} {H : Hp} {v : V} {ds : List PyData} {k : Nat} {Q : VK} (A : Alive S H) (h : TD K (rmL S H) v ds) (kk : ∀ u H', Same H H' → TD K (rmL S H') u (ds.take k) → Q u H') : rSlA K v none (some (k : Int)) H Q := by
  obtain ⟨p, xs, rfl, h1, h2⟩ := h
  have hl := dps_len h2
  refine ⟨p, xs, rfl, seqT_same rm_le h1, fun hw => ?_, fun _ q hq => ?_⟩
  · refine kk _ H (Same.refl H) ⟨p, xs, rfl, h1, ?_⟩
    have : ds.take k = ds := List.take_of_length_le (by
      have h3 := hw.2
      rw [HT.sIx_nat] at h3
      omega)
    rw [this]
    exact h2
  · have s := new_same hq (.tup (cutV xs none (some (k : Int))))
    refine kk _ _ s ⟨q, xs.take k, rfl, .inl (.inl ?_), dps_same (rm_same s) (dps_take k h2)⟩
    rw [rm_new A hq, cutV_to]
theorem from_td {K : PySem.W.Frag} {S : List Addr} {H : Hp} {v : V} {ds : List PyData} {k : Nat} {Q : VK} (A : Alive S H) (h : TD K (rmL S H) v ds) (kk : ∀ u H', Same H H' → TD K (rmL S H') u (ds.drop k) → Q u H') : rSlA K v (some (k : Int)) none H Q := by
  obtain ⟨p, xs, rfl, h1, h2⟩ := h
  have hl := dps_len h2
  refine ⟨p, xs, rfl, seqT_same rm_le h1, fun hw => ?_, fun _ q hq => ?_⟩
  · refine kk _ H (Same.refl H) ⟨p, xs, rfl, h1, ?_⟩
    have h3 := hw.1
    rw [HT.sIx_nat] at h3
    by_cases z : k = 0
    · rw [z]
      exact h2
    · have : xs.length = 0 := by omega
      have e1 : xs = [] := List.eq_nil_of_length_eq_zero this
      have e2 : ds = [] := List.eq_nil_of_length_eq_zero (by omega)
      rw [e1, e2, List.drop_nil]
      exact .nil
  · have s := new_same hq (.tup (cutV xs (some (k : Int)) none))
    refine kk _ _ s ⟨q, xs.drop k, rfl, .inl (.inl ?_), dps_same (rm_same s) (dps_drop k h2)⟩
    rw [rm_new A hq, cutV_from]
/-- t + u -/
theorem cat_td {K : PySem.W.Frag} {S : List Addr} {H : Hp} {v u : V} {ds es : List PyData} {Q : VK} (A : Alive S H) (h : TD K (rmL S H) v ds) (h' : TD K (rmL S H) u es) (hl : ds.length + es.length ≤ 1000) (kk : ∀ u H', Same H H' → TD K (rmL S H') u (ds ++ es) → Q u H') : rCatA K v u H Q := by
  obtain ⟨p, xs, rfl, h1, h2⟩ := h
  obtain ⟨q, ys, rfl, h3, h4⟩ := h'
  have l1 := dps_len h2
  have l2 := dps_len h4
  refine ⟨p, q, xs, ys, rfl, rfl, seqT_same rm_le h1, seqT_same rm_le h3, le_line (by omega), fun e => ?_, fun e1 e2 => ?_, fun e1 e2 z hz => ?_⟩
  · refine kk _ H (Same.refl H) ⟨q, ys, rfl, h3, ?_⟩
    have : ds = [] := List.eq_nil_of_length_eq_zero (by rw [← l1, e] <;> rfl)
    rw [this]
    exact h4
  · refine kk _ H (Same.refl H) ⟨p, xs, rfl, h1, ?_⟩
    have : es = [] := List.eq_nil_of_length_eq_zero (by rw [← l2, e2] <;> rfl)
    rw [this, List.append_nil]
    exact h2
  · have s := new_same hz (.tup (xs ++ ys))
    exact kk _ _ s ⟨z, _, rfl, .inl (.inl (rm_new A hz)), dps_same (rm_same s) (dps_app h2 h4)⟩
/-- a written tuple -/
theorem tup_td {K : PySem.W.Frag} {S : List Addr} {H : Hp} {p : Addr} {o : Obj} {xs : List V} {ds : List PyData} (A : Alive S H) (hp : H p = none) (h : DpAll K (rmL S H) xs ds) : TD K (rmL S (upd H p (.frz o (.tup xs)))) (.ref p) ds :=
  ⟨p, xs, rfl, .inl (.inr ⟨o, rm_new A hp⟩), dps_same (rm_same (new_same hp _)) h⟩
theorem lst_dp {K : PySem.W.Frag} {S : List Addr} {H : Hp} {p : Addr} {xs : List V} {ds : List PyData} (A : Alive S H) (hp : H p = none) (h : DpAll K (rmL S H) xs ds) : Dp K (rmL S (upd H p (.lst xs))) (.ref p) (.list ds) :=
  .lst (SqL.of (rm_new A hp)) (dps_same (rm_same (new_same hp _)) h)
/-- a list of data with a property, beside S -/
structure PL (K : PySem.W.Frag) (S : List Addr) (P : PyData → Prop) (n : Nat) (D : Addr) (H : Hp) : Prop where
  ex : ∃ vs, H D = some (.lst vs) ∧ vs.length ≤ n ∧ ∀ v ∈ vs, ∃ d, Dp K (rmL S H) v d ∧ P d
theorem PL.same {K : PySem.W.Frag} {S : List Addr} {P : PyData → Prop} {n : Nat} {D : Addr} {H H' : Hp} (s : Same H H') (h : PL K S P n D H) : PL K S P n D H' := by
  obtain ⟨vs, h1, h2, h3⟩ := h.ex
  exact ⟨vs, s _ _ h1, h2, fun v hv => by obtain ⟨d, a, b⟩ := h3 v hv; exact ⟨d, dp_same (rm_same s) a, b⟩⟩
theorem PL.kept {K : PySem.W.Frag} {S : List Addr} {P : PyData → Prop} {n : Nat} {D a : Addr} {H H' : Hp} (ha : a ∈ S) (hD : D ≠ a) (s : Kept a H H') (h : PL K S P n D H) : PL K S P n D H' := by
  obtain ⟨vs, h1, h2, h3⟩ := h.ex
  exact ⟨vs, s _ _ hD h1, h2, fun v hv => by obtain ⟨d, x, b⟩ := h3 v hv; exact ⟨d, dp_same (rm_kept ha s) x, b⟩⟩
theorem PL.sub {K : PySem.W.Frag} {S S' : List Addr} {P : PyData → Prop} {n : Nat} {D : Addr} {H : Hp} (hs : ∀ b ∈ S, b ∈ S') (h : PL K S' P n D H) : PL K S P n D H := by
  obtain ⟨vs, h1, h2, h3⟩ := h.ex
  exact ⟨vs, h1, h2, fun v hv => by obtain ⟨d, a, b⟩ := h3 v hv; exact ⟨d, dp_same (rm_sub hs) a, b⟩⟩
theorem PL.imp {K : PySem.W.Frag} {S : List Addr} {P P' : PyData → Prop} {n m : Nat} {D : Addr} {H : Hp} (h : PL K S P n D H) (hp : ∀ d, P d → P' d) (hn : n ≤ m) : PL K S P' m D H := by
  obtain ⟨vs, h1, h2, h3⟩ := h.ex
  exact ⟨vs, h1, Nat.le_trans h2 hn, fun v hv => by obtain ⟨d, a, b⟩ := h3 v hv; exact ⟨d, a, hp d b⟩⟩
/-- a written list -/
theorem PL.new {K : PySem.W.Frag} {S : List Addr} {P : PyData → Prop} {D : Addr} {H : Hp} {vs : List V} {ds : List PyData} (hD : H D = none) (h : DpAll K (rmL S H) vs ds) (hp : ∀ d ∈ ds, P d) : PL K S P vs.length D (upd H D (.lst vs)) := by
  refine ⟨vs, upd_same, Nat.le_refl _, fun v hv => ?_⟩
  obtain ⟨i, hi, rfl⟩ := List.mem_iff_getElem.mp hv
  obtain ⟨d, h1, h2⟩ := dps_get h (List.getElem?_eq_getElem hi)
  exact ⟨d, dp_same (rm_same (new_same hD _)) h2, hp d (List.mem_of_getElem? h1)⟩
/-- the sum of two lists -/
theorem PL.cat {K : PySem.W.Frag} {S : List Addr} {P : PyData → Prop} {n m : Nat} {D E : Addr} {H : Hp} {Q : VK} (h : PL K S P n D H) (g : PL K S P m E H) (hl : n + m ≤ 1000) (k : ∀ z H', Same H H' → H z = none → PL K S P (n + m) z H' → Q (.ref z) H') : rCat (.ref D) (.ref E) H Q := by
  obtain ⟨vs, h1, h2, h3⟩ := h.ex
  obtain ⟨us, g1, g2, g3⟩ := g.ex
  refine ⟨D, E, vs, us, rfl, rfl, h1, g1, le_line (by omega), fun z hz => k z _ (new_same hz _) hz ⟨vs ++ us, upd_same, by rw [List.length_append]; omega, fun v hv => ?_⟩⟩
  have s := new_same hz (.lst (vs ++ us))
  rcases List.mem_append.mp hv with hv | hv
  · obtain ⟨d, a, b⟩ := h3 v hv
    exact ⟨d, dp_same (rm_same s) a, b⟩
  · obtain ⟨d, a, b⟩ := g3 v hv
    exact ⟨d, dp_same (rm_same s) a, b⟩
/-- .. which holds something -/
def NE (D : Addr) (H : Hp) : Prop := ∃ us : List V, H D = some (.lst us) ∧ 0 < us.length
theorem PL.catN {K : PySem.W.Frag} {S : List Addr} {P : PyData → Prop} {n m : Nat} {D E : Addr} {H : Hp} {us : List V} {Q : VK} (h : PL K S P n D H) (g : PL K S P m E H) (ge : H E = some (.lst us)) (gn : 0 < us.length) (hl : n + m ≤ 1000)
    (k : ∀ z H', Same H H' → H z = none → PL K S P (n + m) z H' → NE z H' → Q (.ref z) H') : rCat (.ref D) (.ref E) H Q := by
  obtain ⟨vs, h1, h2, h3⟩ := h.ex
  obtain ⟨us', g1, g2, g3⟩ := g.ex
  rw [ge] at g1
  cases g1
  refine ⟨D, E, vs, us, rfl, rfl, h1, ge, le_line (by omega), fun z hz => k z _ (new_same hz _) hz ⟨vs ++ us, upd_same, by rw [List.length_append]; omega, fun v hv => ?_⟩ ⟨_, upd_same, by rw [List.length_append]; omega⟩⟩
  have s := new_same hz (.lst (vs ++ us))
  rcases List.mem_append.mp hv with hv | hv
  · obtain ⟨d, a, b⟩ := h3 v hv
    exact ⟨d, dp_same (rm_same s) a, b⟩
  · obtain ⟨d, a, b⟩ := g3 v hv
    exact ⟨d, dp_same (rm_same s) a, b⟩
/-- one more, at the end of a list that is itself in S -/
theorem PL.put {K : PySem.W.Frag} {S : List Addr} {P : PyData → Prop} {n : Nat} {D : Addr} {H : Hp} {vs : List V} {v : V} {d : PyData} (hD : D ∈ S) (h : PL K S P n D H) (e : H D = some (.lst vs)) (hv : Dp K (rmL S H) v d) (hp : P d) : PL K S P (n + 1) D (upd H D (.lst (vs ++ [v]))) := by
  obtain ⟨us, h1, h2, h3⟩ := h.ex
  rw [e] at h1
  cases h1
  refine ⟨vs ++ [v], upd_same, by rw [List.length_append, List.length_singleton]; omega, fun u hu => ?_⟩
  rw [rm_put hD]
  rcases List.mem_append.mp hu with hu | hu
  · exact h3 u hu
  · rw [List.mem_singleton.mp hu]
    exact ⟨d, hv, hp⟩
/-! words turned to what is none -/
theorem az_iff {c : Nat} (h : az c = true) : 97 ≤ c ∧ c ≤ 122 := by
  unfold az at h
  rw [Bool.and_eq_true] at h
  have h1 : ¬ ([c] : List Nat) < ("a" : Str).cps.toList := by simpa using h.1
  have h2 : ¬ (("z" : Str).cps.toList < [c]) := by simpa using h.2
  refine ⟨Nat.le_of_not_lt fun z => h1 ?_, Nat.le_of_not_lt fun z => h2 ?_⟩
  · show ([c] : List Nat) < [97]
    exact List.cons_lt_cons_iff.mpr (.inl z)
  · show ([122] : List Nat) < [c]
    exact List.cons_lt_cons_iff.mpr (.inl z)
theorem not_word_of {s : Str} {c : Nat} (h : c ∈ tlx s) (hc : az c = false) : word s = false := by
  cases e : word s with
  | false => rfl
  | true =>
    have := List.all_eq_true.mp (word_iff.mp e).2.2 c h
    rw [hc] at this
    cases this
theorem not_word_long {s : Str} (h : 8 < s.length) : word s = false := by
  cases e : word s with
  | false => rfl
  | true =>
    have := word_len e
    omega
theorem upper_not {s : Str} (h : word s = true) : word (Txt.upper s) = false ∧ (Txt.upper s).length ≤ 24 := by
  obtain ⟨h1, h8, ha⟩ := word_iff.mp h
  refine ⟨?_, ?_⟩
  · obtain ⟨c, r, er⟩ : ∃ c r, tlx s = c :: r := by
      cases e : tlx s with
      | nil =>
        rw [e] at h1
        cases h1
      | cons c r => exact ⟨c, r, rfl⟩
    have hc : az c = true := List.all_eq_true.mp ha c (by rw [er]; exact List.mem_cons_self)
    obtain ⟨c1, c2⟩ := az_iff hc
    have es : s = (⟨#[c]⟩ : Str) ++ ⟨r.toArray⟩ := tlx_inj (by rw [tlx_app, er]; rfl)
    rw [es, PySem.W.KOpn.upper_app, PySem.W.KOpn.upper_one (by omega)]
    refine not_word_of (c := if 97 ≤ c ∧ c ≤ 122 then c - 32 else c) ?_ ?_
    · rw [tlx_app, tlx_one]
      exact List.mem_append_left _ (List.mem_singleton.mpr rfl)
    · rw [if_pos ⟨c1, c2⟩]
      cases e : az (c - 32) with
      | false => rfl
      | true =>
        have := az_iff e
        omega
  · have := PyProof.Rows.len_upper s
    have := word_len h
    omega
end Q
set_option Elab.async false
set_option linter.all false
set_option maxRecDepth 100000
set_option maxHeartbeats 4000000
/-! ### _law_tape, _law_load, _law_draw of the tape laws -/
namespace Q
open PySem L2
theorem Tape.same {H H' : Hp} {a b : Addr} (F : Tape b H a) (k : Same H H') : Tape b H' a := by
  obtain ⟨ns, p, v, g, m, s, F⟩ := F
  exact ⟨ns, p, v, g, m, s, k _ _ F.at_, k _ _ F.ls, F.pos⟩
/-! ### promises -/
def spTape (K : PySem.W.Frag) : Sp := fun vs H Q _ => ∃ (a : Addr) (ns : List Int), vs = [.ref a] ∧ SqL K H a (ns.map V.int) ∧
  ∀ (f b : Addr) (H' : Hp), Same H H' → Tape b H' f → H f = none → H b = none → Q (.ref f) H'
def spLoadT : Sp := fun vs H Q _ => ∃ (a b : Addr) (ns : List Int) (p v g m s : Int), vs = [.ref a] ∧ Tx H a b ns p v g m s ∧ p < ns.length ∧ ∀ H', Tape b H' a → Kept a H H' → Q .non H'
def spDrawT : Sp := fun vs H Q _ => ∃ (a b : Addr) (n : Int), vs = [.ref a, .int n] ∧ Tape b H a ∧ n.natAbs < 2 ^ 200 ∧
  ∀ (r : Int) (H' : Hp), 0 ≤ r → r < (if n > 1 then n else 1) → Tape b H' a → Kept a H H' → Q (.int r) H'
structure BtT (mg : Str → Option Value) : Prop where
  int : mg "int" = none
  list : mg "list" = none
  len : mg "len" = none
  abs : mg "abs" = none
  range : mg "range" = none
section
variable {P : Program} {w : World} {K : PySem.W.Frag} {mg : Str → Option Value} {base : Heap}
theorem scTape : FnScope ["script", "salt", "number"] ["script"] (defScope sTape) := ⟨rfl, rfl, rfl, by decide +kernel, rfl, by decide +kernel, by decide +kernel⟩
theorem ok_tape {f : Addr} {fd : FuncData} (F : Fun K "_law_tape" "_law_tape" sTape f fd) (T : BtT mg) : FnOk P w K mg base CX0 1 f fd ["script"] (spTape K) := by
  refine F.ok scTape (fun vs H Q E h => ?_) (fun cdv A outer s H vs Q E hr h => ?_)
  · obtain ⟨a, ns, rfl, _⟩ := h
    rfl
  obtain ⟨a, ns, rfl, hS, k⟩ := h
  refine ⟨_, pss_cons (ps_set (i := 1) scTape.nd rfl (.inl rfl) (pe_op op_add pe_int (pe_callB call_len_seq rfl T.len PySem.boot_len (pa_cons (pv 0) pa_nil))))
    (pss_cons (ps_for PassesOwn.never rfl (pi_list (pv 0)) (pg_name (i := 2) scTape.nd rfl (.inl rfl))
      (pss_one (ps_set (i := 1) scTape.nd rfl (.inl rfl) (pe_op op_mod (pe_callTy call_int1 rfl T.int (by decide +kernel) (pa_cons (pe_op op_add (pe_op op_add (pe_op op_mul (pv 1) pe_int) (pe_callB call_abs rfl T.abs (by decide +kernel) (pa_cons (pv 2) pa_nil))) pe_int) pa_nil)) pe_int))))
    (pss_one (ps_ret (pe_disp (pps_cons pe_str (pe_callTy call_list_of rfl T.list (by decide +kernel) (pa_cons (pv 0) pa_nil)) (pps_cons pe_str pe_int (pps_cons pe_str pe_int (pps_cons pe_str pe_int (pps_cons pe_str pe_int (pps_cons pe_str (pv 1) pps_nil)))))) rfl rfl (by simp) (by decide))))), ?_⟩
  refine ⟨_, rfl, a, _, rfl, .inl hS, _, _, rfl, rfl, ?_⟩
  refine ⟨_, rfl, a, rfl, ⟨_, hS⟩, for_list (K := K) (a := a) (xs := ns.map V.int) (fun i σ H' => ∃ (m : Int) (v : Option V), σ = [some (.ref a), some (.int m), v] ∧ Same H H')
    ⟨_, none, rfl, Same.refl H⟩ (fun i σ H' _ ⟨_, _, _, s5⟩ => s5.seq hS) ?_ ?_⟩
  · rintro i y σ H' hi ⟨m, v, rfl, s5⟩
    obtain ⟨z, hz, rfl⟩ : ∃ z, ns[i]? = some z ∧ y = V.int z := by
      rw [List.getElem?_map] at hi
      obtain ⟨z, hz, e⟩ := Option.map_eq_some_iff.mp hi
      exact ⟨z, hz, e.symm⟩
    refine ⟨_, rfl, _, _, rfl, rfl, .inr ⟨by decide, by decide⟩, _, rfl, _, rfl, _, _, rfl, rfl, _, _, rfl, rfl, .inl ⟨_, rfl, _, _, rfl, rfl, (by show (0 : Int) < 2147483647; decide), ?_⟩⟩
    exact ⟨_, _, rfl, s5⟩
  · rintro σ H' ⟨m, v, rfl, s5⟩
    refine fun p hp => ?_
    have s6 : Same H (upd H' p (.dK [])) := s5.trans (new_same hp _)
    refine ⟨_, rfl, a, _, rfl, .inl (s6.seq hS), fun b hb => ⟨_, rfl, ?_⟩⟩
    have nb : b ≠ p := fun e => by
      rw [e, upd_same] at hb
      cases hb
    have hb' : H' b = none := by
      rwa [upd_ne nb] at hb
    refine ⟨by rw [upd_ne nb.symm, upd_same], tp b 0 0 0 0 m, rfl, (by show 6 ≤ 15; decide), ?_⟩
    rw [tmerge]
    refine k p b _ (fun x o e => ?_) ⟨ns, 0, 0, 0, 0, m, upd_same, by rw [upd_ne nb, upd_same], Int.le_refl 0⟩ (s5.free hp) (s5.free hb')
    rw [upd_ne (ne_of_none (s5 _ _ e) hp), upd_ne (ne_of_none (s5 _ _ e) hb'), upd_ne (ne_of_none (s5 _ _ e) hp)]
    exact s5 _ _ e
theorem scLoadT : FnScope ["tape", "number"] ["tape"] (defScope sLoad) := ⟨rfl, rfl, rfl, by decide +kernel, rfl, by decide +kernel, by decide +kernel⟩
theorem ok_loadT {f : Addr} {fd : FuncData} (F : Fun K "_law_load" "_law_load" sLoad f fd) (T : BtT mg) : FnOk P w K mg base CX0 1 f fd ["tape"] spLoadT := by
  refine F.ok scLoadT (fun vs H Q E h => ?_) (fun cdv A outer s H vs Q E hr h => ?_)
  · obtain ⟨a, b, ns, p, v, g, m, s, rfl, _⟩ := h
    rfl
  obtain ⟨a, b, ns, p, v, g, m, st, rfl, Z, hp, k⟩ := h
  have hu1 : (A.deeper (PyProof.Rows.envOfC "_law_load" (defScope sLoad) s.heap.objs.size f cdv)).units + 1 < cLine := by
    have := hr.un
    omega
  refine ⟨_, pss_cons (ps_set (i := 1) scLoadT.nd rfl (.inl rfl) (pe_ix ix_list (pe_dget hu1 (pv 0) pe_str (fun _ _ => rfl)) (pe_dget hu1 (pv 0) pe_str (fun _ _ => rfl)) (fun _ _ => rfl)))
    (pss_cons (ps_dput hu1 (pv 0) pe_str (pe_op op_add (pe_dget hu1 (pv 0) pe_str (fun _ _ => rfl)) pe_int) rfl)
    (pss_one (ps_if (pt_cmpR op_eq (pe_op op_mod (pe_callTy call_int1 rfl T.int (by decide +kernel) (pa_cons (pv 1) pa_nil)) pe_int) pe_int (nomark _))
      (pss_cons (ps_dput hu1 (pv 0) pe_str (pe_op op_fdiv (pe_callB call_abs rfl T.abs (by decide +kernel) (pa_cons (pv 1) pa_nil)) pe_int) rfl) (pss_one (ps_dput hu1 (pv 0) pe_str pe_int rfl)))
      (pss_cons (ps_dput hu1 (pv 0) pe_str (pe_op op_mod (pe_callTy call_int1 rfl T.int (by decide +kernel) (pa_cons (pe_op op_add (pe_op op_add (pe_op op_mul (pe_dget hu1 (pv 0) pe_str (fun _ _ => rfl)) pe_int) (pe_op op_fdiv (pe_callB call_abs rfl T.abs (by decide +kernel) (pa_cons (pv 1) pa_nil)) pe_int)) pe_int) pa_nil)) pe_int) rfl)
        (pss_one (ps_dput hu1 (pv 0) pe_str pe_int rfl)))))), ?_⟩
  have h0 := Z.pos
  have lt : p.toNat < ns.length := by omega
  have ep : p = ((p.toNat : Nat) : Int) := by omega
  have at1 : atI (ns.map V.int) p = some (.int ns[p.toNat]) := by
    exact at_of ep (by rw [List.getElem?_map, List.getElem?_eq_getElem lt] <;> rfl)
  generalize ns[p.toNat] = z at at1
  have Z1 := Z.put (p' := p + 1) (v' := v) (g' := g) (m' := m) (s' := st) (by omega)
  refine ⟨_, rfl, a, _, rfl, Z.g0, _, rfl, a, _, rfl, Z.g1, b, _, _, _, rfl, rfl, SqL.of Z.ls, at1, ?_⟩
  have Z2 := Z1.put (p' := p + 1) (v' := (if z < 0 then -z else z) / 2) (g' := g) (m' := m) (s' := st) (by omega)
  have Z3 := Z2.put (p' := p + 1) (v' := (if z < 0 then -z else z) / 2) (g' := 60) (m' := m) (s' := st) (by omega)
  have Z4 := Z1.put (p' := p + 1) (v' := v) (g' := g) (m' := m) (s' := (st * 16807 + (if z < 0 then -z else z) / 2 + 1) % 2147483647) (by omega)
  have Z5 := Z4.put (p' := p + 1) (v' := v) (g' := g) (m' := 9) (s' := (st * 16807 + (if z < 0 then -z else z) / 2 + 1) % 2147483647) (by omega)
  refine ⟨_, rfl, a, _, rfl, Z.g1, _, _, rfl, rfl, _, rfl, a, _, rfl, Z.u1, ?_⟩
  refine ⟨_, rfl, .inl ⟨_, rfl, _, _, rfl, rfl, (by show (0 : Int) < 2; decide), rfl, _, rfl, ?_⟩⟩
  refine ite2 (fun _ => ?_) (fun _ => ?_)
  · refine ⟨_, rfl, _, rfl, _, _, rfl, rfl, ⟨by decide, by decide⟩, _, rfl, a, _, rfl, Z1.u2, ?_⟩
    refine ⟨_, rfl, a, _, rfl, Z2.u3, ?_⟩
    exact k _ ⟨_, _, _, _, _, _, Z3⟩ (Kept.upd.trans (Kept.upd.trans Kept.upd))
  · refine ⟨_, rfl, a, _, rfl, Z1.g5, _, _, rfl, rfl, .inr ⟨by decide, by decide⟩, _, rfl, _, rfl, _, _, rfl, rfl, ⟨by decide, by decide⟩, _, _, rfl, rfl, _, _, rfl, rfl, .inl ⟨_, rfl, _, _, rfl, rfl, (by show (0 : Int) < 2147483647; decide), ?_⟩⟩
    refine ⟨_, rfl, a, _, rfl, Z1.u5, ?_⟩
    refine ⟨_, rfl, a, _, rfl, Z4.u4, ?_⟩
    exact k _ ⟨_, _, _, _, _, _, Z5⟩ (Kept.upd.trans (Kept.upd.trans Kept.upd))
theorem scDrawT : FnScope ["tape", "many", "turn", "digit"] ["tape", "many"] (defScope sDraw) := ⟨rfl, rfl, rfl, by decide +kernel, rfl, by decide +kernel, by decide +kernel⟩
theorem ok_drawT {f fL : Addr} {fd fdL : FuncData} (F : Fun K "_law_draw" "_law_draw" sDraw f fd) (T : BtT mg) (FL : Fun K "_law_load" "_law_load" sLoad fL fdL) (bL : Binds K fdL ["tape"] []) (mL : mg "_law_load" = some (.ref fL)) :
    FnOk P w K mg base CX0 2 f fd ["tape", "many"] spDrawT := by
  have GL : FnOk P w K mg base CX0 1 fL fdL ["tape"] spLoadT := ok_loadT FL T
  refine F.ok scDrawT (fun vs H Q E h => ?_) (fun cdv A outer s H vs Q E hr h => ?_)
  · obtain ⟨a, b, n, rfl, _⟩ := h
    rfl
  obtain ⟨a, b, n, rfl, Fl, hn, k⟩ := h
  have hu1 : (A.deeper (PyProof.Rows.envOfC "_law_draw" (defScope sDraw) s.heap.objs.size f cdv)).units + 1 < cLine := by
    have := hr.un
    omega
  refine ⟨_, pss_cons (ps_if (pt_cmpR op_lt (pv 1) pe_int (nomark _)) (pss_one (ps_ret pe_int)) pss_nil)
    (pss_cons (ps_for PassesOwn.never rfl (pi_range1 rfl T.range (pa_cons pe_int pa_nil)) (pg_name (i := 2) scDrawT.nd rfl (.inl rfl))
      (pss_cons (ps_if (PW.pt (pw_and (pt_cmpR op_gt (pe_dget hu1 (pv 0) pe_str (fun _ _ => rfl)) pe_int (nomark _)) (pw_and1 (pt_cmpR op_gt (pe_dget hu1 (pv 0) pe_str (fun _ _ => rfl)) pe_int (nomark _)))))
        (pss_cons (ps_set (i := 3) scDrawT.nd rfl (.inl rfl) (pe_op op_mod (pe_callTy call_int1 rfl T.int (by decide +kernel) (pa_cons (pe_dget hu1 (pv 0) pe_str (fun _ _ => rfl)) pa_nil)) (pv 1)))
        (pss_cons (ps_dput hu1 (pv 0) pe_str (pe_op op_sub (pe_dget hu1 (pv 0) pe_str (fun _ _ => rfl)) pe_int) rfl)
        (pss_cons (ps_dput hu1 (pv 0) pe_str (pe_op op_fdivW (pe_dget hu1 (pv 0) pe_str (fun _ _ => rfl)) (pv 1)) rfl)
        (pss_one (ps_ret (pv 3)))))) pss_nil)
      (pss_cons (ps_if (PW.pt (pw_or (pt_cmpR op_gt (pe_dget hu1 (pv 0) pe_str (fun _ _ => rfl)) pe_int (nomark _)) (pw_or1 (pt_cmpR op_ge (pe_dget hu1 (pv 0) pe_str (fun _ _ => rfl)) (pe_callB call_len_seq rfl T.len PySem.boot_len (pa_cons (pe_dget hu1 (pv 0) pe_str (fun _ _ => rfl)) pa_nil)) (nomark _)))))
        (pss_one ps_break) pss_nil)
      (pss_one (ps_expr (pe_call GL hr rfl mL FL.kp bL .nil pass0 (pa_cons (pv 0) pa_nil)))))))
    (pss_cons (ps_if (pt_cmpR op_gt (pe_dget hu1 (pv 0) pe_str (fun _ _ => rfl)) pe_int (nomark _))
      (pss_one (ps_dput hu1 (pv 0) pe_str (pe_op op_sub (pe_dget hu1 (pv 0) pe_str (fun _ _ => rfl)) pe_int) rfl)) pss_nil)
    (pss_cons (ps_dput hu1 (pv 0) pe_str (pe_op op_mod (pe_callTy call_int1 rfl T.int (by decide +kernel) (pa_cons (pe_op op_add (pe_op op_mul (pe_dget hu1 (pv 0) pe_str (fun _ _ => rfl)) pe_int) pe_int) pa_nil)) pe_int) rfl)
    (pss_one (ps_ret (pe_op op_mod (pe_op op_mod (pe_callTy call_int1 rfl T.int (by decide +kernel) (pa_cons (pe_op op_add (pe_op op_mul (pe_op op_fdiv (pe_dget hu1 (pv 0) pe_str (fun _ _ => rfl)) pe_int) pe_int) pe_int) pa_nil)) pe_int) (pv 1))))))), ?_⟩
  refine ⟨_, rfl, _, _, rfl, rfl, _, rfl, iteB (fun e => ?_) (fun e => ?_)⟩
  · have : n < 2 := of_decide_eq_true e
    exact k 0 H (Int.le_refl 0) (by split <;> omega) Fl Kept.refl
  · have h2 : ¬ n < 2 := of_decide_eq_false e
    unfold tNext
    dsimp only
    refine seq_cut (fun σ H1 => ∃ f2 f3, σ = [some (.ref a), some (.int n), f2, f3] ∧ Tape b H1 a ∧ Kept a H H1) ?_ (fun join => ?_)
    · rintro σ H1 ⟨f2, f3, rfl, F1, k1⟩
      obtain ⟨ns, p, v, g, m, st, Z⟩ := id F1
      have h0 := Z.pos
      refine seq_cut (fun σ H1 => ∃ f2 f3, σ = [some (.ref a), some (.int n), f2, f3] ∧ Tape b H1 a ∧ Kept a H H1) ?_ (fun join => ?_)
      · clear Z F1 k1 h0
        rintro σ H1 ⟨f2, f3, rfl, F1, k1⟩
        obtain ⟨ns, p, v, g, m, st, Z⟩ := id F1
        have h0 := Z.pos
        have Z1 := Z.put (p' := p) (v' := v) (g' := g) (m' := m) (s' := (st * 48271 + 7) % 2147483647) h0
        refine ⟨_, rfl, a, _, rfl, Z.g5, _, _, rfl, rfl, .inr ⟨by decide, by decide⟩, _, _, rfl, rfl, .inl ⟨_, rfl, _, _, rfl, rfl, (by show (0 : Int) < 2147483647; decide), _, rfl, a, _, rfl, Z.u5, ?_⟩⟩
        refine ⟨_, rfl, a, _, rfl, Z1.g5, _, _, rfl, rfl, ⟨by decide, by decide⟩, _, _, rfl, rfl, .inr ⟨by decide, by decide⟩, _, _, rfl, rfl, .inl ⟨_, rfl, _, _, rfl, rfl, (by show (0 : Int) < 1000003; decide), _, rfl, _, _, rfl, rfl, (by show (0 : Int) < n; omega), ?_⟩⟩
        refine k _ _ (Int.emod_nonneg _ (by omega)) ?_ ⟨_, _, _, _, _, _, Z1⟩ (k1.trans Kept.upd)
        rw [if_pos (by omega)]
        exact Int.emod_lt_of_pos _ (by omega)
      · refine ⟨_, rfl, a, _, rfl, Z.g4, _, _, rfl, rfl, _, rfl, iteB (fun e => ?_) (fun e => join _ _ ⟨f2, f3, rfl, F1, k1⟩)⟩
        have Z1 := Z.put (p' := p) (v' := v) (g' := g) (m' := m - 1) (s' := st) h0
        refine ⟨_, rfl, a, _, rfl, Z.g4, _, _, rfl, rfl, _, rfl, a, _, rfl, Z.u4, ?_⟩
        exact join _ _ ⟨f2, f3, rfl, ⟨_, _, _, _, _, _, Z1⟩, k1.trans Kept.upd⟩
    · refine ⟨_, rfl, by decide, by decide, for_range (lo := 0) (n := 64) (fun i σ H1 => ∃ f2 f3, σ = [some (.ref a), some (.int n), f2, f3] ∧ Tape b H1 a ∧ Kept a H H1) ⟨none, none, rfl, Fl, Kept.refl⟩ ?_ (fun σ H1 h => join σ H1 h)⟩
      rintro i σ H1 hi ⟨f2, f3, rfl, F1, k1⟩
      obtain ⟨ns, p, v, g, m, st, Z⟩ := id F1
      have h0 := Z.pos
      dsimp only
      refine seq_cut (fun σ H1 => ∃ f2 f3, σ = [some (.ref a), some (.int n), f2, f3] ∧ Tape b H1 a ∧ Kept a H H1) ?_ (fun join2 => ?_)
      · clear Z F1 k1 h0
        rintro σ H1 ⟨f2, f3, rfl, F1, k1⟩
        obtain ⟨ns, p, v, g, m, st, Z⟩ := id F1
        have h0 := Z.pos
        refine ⟨_, rfl, a, _, rfl, Z.g4, _, _, rfl, rfl, _, rfl, iteB (fun e => join _ _ ⟨f2, f3, rfl, F1, k1⟩) (fun e => ?_)⟩
        refine ⟨_, rfl, a, _, rfl, Z.g1, _, rfl, a, _, rfl, Z.g0, b, _, rfl, .inl (SqL.of Z.ls), _, _, rfl, rfl, _, rfl, iteB (fun e => join _ _ ⟨f2, f3, rfl, F1, k1⟩) (fun e => ?_)⟩
        have e1 := of_decide_eq_false e
        rw [List.length_map] at e1
        refine ⟨_, rfl, a, b, ns, p, v, g, m, st, rfl, Z, by omega, fun H2 F2 k2 => ?_⟩
        exact ⟨f2, f3, rfl, F2, k1.trans k2⟩
      · refine ⟨_, rfl, a, _, rfl, Z.g3, _, _, rfl, rfl, _, rfl, iteB (fun e => ?_) (fun e => join2 _ _ ⟨_, f3, rfl, F1, k1⟩)⟩
        refine ⟨_, rfl, a, _, rfl, Z.g2, _, _, rfl, rfl, _, rfl, iteB (fun e => ?_) (fun e => join2 _ _ ⟨_, f3, rfl, F1, k1⟩)⟩
        have Z1 := Z.put (p' := p) (v' := v) (g' := g - 1) (m' := m) (s' := st) h0
        have Z2 := Z1.put (p' := p) (v' := v / n) (g' := g - 1) (m' := m) (s' := st) h0
        refine ⟨_, rfl, a, _, rfl, Z.g2, .inl ⟨_, rfl, _, rfl, _, _, rfl, rfl, (by show (0 : Int) < n; omega), ?_⟩⟩
        refine ⟨_, rfl, a, _, rfl, Z.g3, _, _, rfl, rfl, _, rfl, a, _, rfl, Z.u3, ?_⟩
        refine ⟨_, rfl, a, _, rfl, Z1.g2, _, rfl, _, _, rfl, rfl, wide_div (by omega) hn (by decide) (by decide), _, rfl, a, _, rfl, Z1.u2, ?_⟩
        refine ⟨_, rfl, k _ _ (Int.emod_nonneg _ (by omega)) ?_ ⟨_, _, _, _, _, _, Z2⟩ (k1.trans (Kept.upd.trans Kept.upd))⟩
        rw [if_pos (by omega)]
        exact Int.emod_lt_of_pos _ (by omega)
end
end Q
set_option Elab.async false
set_option linter.all false
set_option maxRecDepth 100000
set_option maxHeartbeats 4000000
/-! ### fillings, what they are -/
namespace Q
open PySem L2 XD
abbrev Pr := Str × Str
abbrev Tbl := List (Str × List Str)
def endsIn (p : Pr) (r : List Pr) : Bool := decide (r.getLast? = some p)
def barsOf (rs : List (List Pr)) (p : Pr) : List (List Pr) := (rs.filter (endsIn p)).map List.dropLast
def within (l row : List Pr) : Bool := l.all fun p => decide (p ∈ row)
def oneStands (ls : List (List Pr)) (row : List Pr) : Bool := ls.any fun l => within l row
def letV (f : List Pr) (n v : Str) : Bool := decide ((pick n f).getD v = v)
def prsOf (f : List Pr) (e : Str × List Str) : List Pr := (e.2.filter (letV f e.1)).map fun v => (e.1, v)
def longer (rs : List (List Pr)) (f : List Pr) (rows : List (List Pr)) (e : Str × List Str) : List (List Pr) := rows.flatMap fun row => ((prsOf f e).filter fun p => !oneStands (barsOf rs p) row).map fun p => row ++ [p]
def fills (rs : List (List Pr)) (f : List Pr) (t : Tbl) : List (List Pr) := t.foldl (longer rs f) [[]]
/-- all choices -/
def wider (rows : List (List Pr)) (e : Str × List Str) : List (List Pr) := rows.flatMap fun row => e.2.map fun v => row ++ [(e.1, v)]
def chs (t : Tbl) : List (List Pr) := t.foldl wider [[]]
def okRow (rs : List (List Pr)) (f row : List Pr) : Bool := (row.all fun p => letV f p.1 p.2) && rs.all fun r => !within r row
/-- a rule in the sequence of the fields -/
def RSeq (t : Tbl) (r : List Pr) : Prop := r ≠ [] ∧ (r.map (·.1)).Sublist (t.map (·.1))
theorem within_iff {l row : List Pr} : within l row = true ↔ ∀ p ∈ l, p ∈ row := by
  unfold within
  rw [List.all_eq_true]
  exact ⟨fun h p hp => of_decide_eq_true (h p hp), fun h p hp => decide_eq_true (h p hp)⟩
theorem ends_split {t1 : Tbl} {e : Str × List Str} {t2 : Tbl} (nd : ((t1 ++ e :: t2).map (·.1)).Nodup) {r row : List Pr} {p : Pr} (hr : RSeq (t1 ++ e :: t2) r) (hn : row.map (·.1) = t1.map (·.1)) (hp : p.1 = e.1) (hw : ∀ q ∈ r, q ∈ row ++ [p]) :
    (∀ q ∈ r, q ∈ row) ∨ (r.getLast? = some p ∧ ∀ q ∈ r.dropLast, q ∈ row) := by
  obtain ⟨h0, hs⟩ := hr
  rw [List.map_append, List.map_cons] at hs nd
  obtain ⟨a, b, eab, ha, hb⟩ := List.sublist_append_iff.mp hs
  have nd1 := List.nodup_append.mp nd
  have nd2 := List.nodup_cons.mp nd1.2.1
  have names : ∀ q ∈ r, q.1 ∈ t1.map (·.1) ∨ q.1 = e.1 := fun q hq => by
    rcases List.mem_append.mp (hw q hq) with h | h
    · left
      rw [← hn]
      exact List.mem_map.mpr ⟨q, h, rfl⟩
    · right
      rw [List.mem_singleton.mp h]
      exact hp
  have inrow : ∀ q ∈ r, q.1 ∈ t1.map (·.1) → q ∈ row := fun q hq h => by
    rcases List.mem_append.mp (hw q hq) with h2 | h2
    · exact h2
    · rw [List.mem_singleton.mp h2, hp] at h
      exact absurd rfl (nd1.2.2 _ h _ List.mem_cons_self)
  have hbn : ∀ x ∈ b, x = e.1 := fun x hx => by
    have : x ∈ r.map (·.1) := by rw [eab]; exact List.mem_append_right _ hx
    obtain ⟨q, hq, rfl⟩ := List.mem_map.mp this
    rcases names q hq with h | h
    · exact absurd rfl (nd1.2.2 _ h _ (hb.subset hx))
    · exact h
  have hb1 : b = [] ∨ b = [e.1] := by
    have ndb : b.Nodup := hb.nodup nd1.2.1
    match b, hbn, ndb with
    | [], _, _ => exact .inl rfl
    | [x], h, _ => exact .inr (by rw [h x List.mem_cons_self])
    | x :: y :: l, h, n =>
      have e1 := h x List.mem_cons_self
      have e2 := h y (List.mem_cons_of_mem _ List.mem_cons_self)
      rw [e1, e2] at n
      exact absurd List.mem_cons_self (List.nodup_cons.mp n).1
  rcases hb1 with rfl | rfl
  · left
    intro q hq
    refine inrow q hq (ha.subset ?_)
    rw [← List.append_nil a, ← eab]
    exact List.mem_map.mpr ⟨q, hq, rfl⟩
  · right
    obtain ⟨r1, r2, er, e1, e2⟩ := List.map_eq_append_iff.mp eab
    obtain ⟨q, rfl, e3⟩ : ∃ q, r2 = [q] ∧ q.1 = e.1 := by
      cases r2 with
      | nil => cases e2
      | cons q l =>
        rw [List.map_cons] at e2
        have e4 := List.cons.inj e2
        have e5 : l = [] := List.map_eq_nil_iff.mp e4.2
        rw [e5]
        exact ⟨q, rfl, e4.1⟩
    have hq : q ∈ row ++ [p] := hw q (by rw [er]; exact List.mem_append_right _ (List.mem_singleton.mpr rfl))
    have eq : q = p := by
      rcases List.mem_append.mp hq with h | h
      · have : q.1 ∈ t1.map (·.1) := by rw [← hn]; exact List.mem_map.mpr ⟨q, h, rfl⟩
        rw [e3] at this
        exact absurd rfl (nd1.2.2 _ this _ List.mem_cons_self)
      · exact List.mem_singleton.mp h
    subst eq
    refine ⟨by rw [er, List.getLast?_append]; rfl, fun x hx => ?_⟩
    rw [er, List.dropLast_concat] at hx
    refine inrow x (by rw [er]; exact List.mem_append_left _ hx) (ha.subset ?_)
    rw [← e1]
    exact List.mem_map.mpr ⟨x, hx, rfl⟩
theorem last_back {r : List Pr} {p : Pr} (h : r.getLast? = some p) : r = r.dropLast ++ [p] := by
  have hne : r ≠ [] := fun z => by rw [z] at h; cases h
  have := List.dropLast_concat_getLast hne
  rw [List.getLast?_eq_some_getLast hne] at h
  rw [← Option.some.inj h]
  exact this.symm
theorem okRow_snoc {t1 : Tbl} {e : Str × List Str} {t2 : Tbl} (nd : ((t1 ++ e :: t2).map (·.1)).Nodup) {rs : List (List Pr)} {f row : List Pr} {p : Pr} (hr : ∀ r ∈ rs, RSeq (t1 ++ e :: t2) r) (hn : row.map (·.1) = t1.map (·.1)) (hp : p.1 = e.1) :
    okRow rs f (row ++ [p]) = (okRow rs f row && (letV f p.1 p.2 && !oneStands (barsOf rs p) row)) := by
  rw [Bool.eq_iff_iff]
  unfold okRow
  simp only [Bool.and_eq_true, List.all_eq_true, List.all_append, List.all_cons, List.all_nil, Bool.and_true, Bool.not_eq_true']
  have no : ∀ {l m : List Pr}, within l m = false ↔ ¬ ∀ x ∈ l, x ∈ m := fun {l m} => by
    rw [← within_iff, Bool.not_eq_true]
  constructor
  · rintro ⟨⟨h1, h2⟩, h3⟩
    refine ⟨⟨h1, fun r hm => no.mpr fun z => (no.mp (h3 r hm)) fun x hx => List.mem_append_left _ (z x hx)⟩, h2, ?_⟩
    unfold oneStands barsOf
    rw [List.any_eq_false]
    intro l hl
    obtain ⟨r, hm, rfl⟩ := List.mem_map.mp hl
    obtain ⟨hm, he⟩ := List.mem_filter.mp hm
    have he := of_decide_eq_true he
    rw [Bool.not_eq_true, no]
    intro z
    refine (no.mp (h3 r hm)) fun x hx => ?_
    rw [last_back he] at hx
    rcases List.mem_append.mp hx with hx | hx
    · exact List.mem_append_left _ (z x hx)
    · exact List.mem_append_right _ hx
  · rintro ⟨⟨h1, h3⟩, h2, h4⟩
    refine ⟨⟨h1, h2⟩, fun r hm => no.mpr fun z => ?_⟩
    rcases ends_split nd (hr r hm) hn hp z with h | ⟨h, g⟩
    · exact no.mp (h3 r hm) h
    · unfold oneStands barsOf at h4
      rw [List.any_eq_false] at h4
      have := h4 r.dropLast (List.mem_map.mpr ⟨r, List.mem_filter.mpr ⟨hm, decide_eq_true h⟩, rfl⟩)
      rw [Bool.not_eq_true, no] at this
      exact this g
theorem chs_names : ∀ (t1 : Tbl) (rows : List (List Pr)) (ns : List Str), (∀ row ∈ rows, row.map (·.1) = ns) → ∀ row ∈ t1.foldl wider rows, row.map (·.1) = ns ++ t1.map (·.1)
  | [], rows, ns, h => fun row hr => by rw [List.map_nil, List.append_nil]; exact h row hr
  | e :: t1, rows, ns, h => fun row hr => by
    have := chs_names t1 (wider rows e) (ns ++ [e.1]) (fun x hx => by
      obtain ⟨y, hy, hx⟩ := List.mem_flatMap.mp hx
      obtain ⟨v, _, rfl⟩ := List.mem_map.mp hx
      rw [List.map_append, h y hy] <;> rfl) row hr
    rw [this, List.append_assoc] <;> rfl
theorem fm_filter {α β : Type} {p : α → Bool} {g : α → List β} : ∀ l : List α, (l.filter p).flatMap g = l.flatMap fun x => if p x = true then g x else []
  | [] => rfl
  | x :: l => by
    by_cases h : p x = true
    · rw [List.filter_cons_of_pos h, List.flatMap_cons, List.flatMap_cons, fm_filter l, if_pos h]
    · rw [List.filter_cons_of_neg h, List.flatMap_cons, fm_filter l, if_neg h, List.nil_append]
theorem fm_congr {α β : Type} {g g' : α → List β} : ∀ {l : List α}, (∀ x ∈ l, g x = g' x) → l.flatMap g = l.flatMap g'
  | [], _ => rfl
  | x :: l, h => by rw [List.flatMap_cons, List.flatMap_cons, h x List.mem_cons_self, fm_congr fun y hy => h y (List.mem_cons_of_mem _ hy)]
theorem fills_go {rs : List (List Pr)} {f : List Pr} : ∀ (t2 t1 : Tbl), ((t1 ++ t2).map (·.1)).Nodup → (∀ r ∈ rs, RSeq (t1 ++ t2) r) → t2.foldl (longer rs f) ((chs t1).filter (okRow rs f)) = (chs (t1 ++ t2)).filter (okRow rs f)
  | [], t1, _, _ => by rw [List.append_nil] <;> rfl
  | e :: t2, t1, nd, hr => by
    have e1 : t1 ++ e :: t2 = (t1 ++ [e]) ++ t2 := by rw [List.append_assoc] <;> rfl
    have e2 : chs (t1 ++ [e]) = wider (chs t1) e := by unfold chs; rw [List.foldl_append] <;> rfl
    have key : longer rs f ((chs t1).filter (okRow rs f)) e = (chs (t1 ++ [e])).filter (okRow rs f) := by
      rw [e2]
      unfold longer wider
      rw [fm_filter, List.filter_flatMap]
      refine fm_congr fun row hrow => ?_
      have hn : row.map (·.1) = t1.map (·.1) := by
        have := chs_names t1 [[]] [] (fun x hx => by rw [List.mem_singleton.mp hx] <;> rfl) row hrow
        rw [List.nil_append] at this
        exact this
      have sn : ∀ v, okRow rs f (row ++ [(e.1, v)]) = (okRow rs f row && (letV f e.1 v && !oneStands (barsOf rs (e.1, v)) row)) := fun v => okRow_snoc (p := (e.1, v)) nd hr hn rfl
      rw [List.filter_map]
      have c : (okRow rs f ∘ fun v => row ++ [(e.1, v)]) = fun v => okRow rs f row && (letV f e.1 v && !oneStands (barsOf rs (e.1, v)) row) := funext sn
      rw [c]
      by_cases h : okRow rs f row = true
      · rw [if_pos h, h]
        unfold prsOf
        rw [List.filter_map, List.map_map, List.filter_filter]
        congr 1
        refine List.filter_congr fun v _ => ?_
        rw [Bool.true_and, Bool.and_comm] <;> rfl
      · rw [if_neg h]
        have : okRow rs f row = false := by rw [← Bool.not_eq_true]; exact h
        rw [this]
        simp
    rw [List.foldl_cons, key, fills_go t2 (t1 ++ [e]) (by rw [← e1]; exact nd) (by rw [← e1]; exact hr), ← e1]
theorem fills_eq {rs : List (List Pr)} {f : List Pr} {t : Tbl} (nd : (t.map (·.1)).Nodup) (hr : ∀ r ∈ rs, RSeq t r) : fills rs f t = (chs t).filter (okRow rs f) := by
  have := fills_go (rs := rs) (f := f) t [] nd hr
  have z : (chs []).filter (okRow rs f) = [[]] := by
    have h0 : okRow rs f [] = true := by
      unfold okRow
      rw [List.all_nil, Bool.true_and, List.all_eq_true]
      intro r hm
      have hne := (hr r hm).1
      cases r with
      | nil => exact absurd rfl hne
      | cons q r =>
        have : within (q :: r) [] = false := by
          rw [← Bool.not_eq_true, within_iff]
          intro z
          exact absurd (z q List.mem_cons_self) List.not_mem_nil
        rw [this] <;> rfl
    show List.filter (okRow rs f) [[]] = [[]]
    rw [List.filter_cons_of_pos h0] <;> rfl
  rw [z] at this
  exact this
end Q
set_option Elab.async false
set_option linter.all false
set_option maxRecDepth 100000
set_option maxHeartbeats 4000000
/-! ### comprehensions that make lists of data; what wrong fields are -/
namespace Q
open PySem L2 XD
theorem same_in {S : List Addr} {D : Addr} {H H' : Hp} (hD : H D = none) (s : Same H H') : Same (rmL S H) (rmL (D :: S) H') := fun b o e => by
  obtain ⟨h1, h2⟩ := rm_of e
  rw [rm_at (fun z => by
    rcases List.mem_cons.mp z with z | z
    · rw [z, hD] at h2
      cases h2
    · exact h1 z)]
  exact s b o h2
theorem lc_pl {K : PySem.W.Frag} {S : List Addr} {P P' : PyData → Prop} {n i : Nat} {p : Addr} {t0 te : TE} {vs : List Nat} {σ : L2.St} {H : Hp} {Q : VK} (A : Alive S H) (ht : ∀ Q' : VK, Q' (.ref p) H → t0 σ H Q') (hp : PL K S P n p H) (hn : n ≤ 900)
    (hw : ∀ x, wipe ((wipe σ vs).set i (some x)) vs = wipe σ vs)
    (hs : ∀ (D : Addr) (x : V) (d : PyData) (H' : Hp) (Qc : VK), Alive (D :: S) H' → Same H H' → Same (rmL S H) (rmL (D :: S) H') → Dp K (rmL (D :: S) H') x d → P d → (∀ y H4 e, Same H' H4 → Dp K (rmL (D :: S) H4) y e → P' e → Qc y H4) → te ((wipe σ vs).set i (some x)) H' Qc)
    (hd : ∀ D H', H D = none → Same H H' → PL K (D :: S) P' n D H' → Q (.ref D) H') : tLc (iRow K t0) (gName i) tYes te vs σ H Q := by
  obtain ⟨us, e1, e2, e3⟩ := hp.ex
  refine lc_row (ys := us) (fun D j H' => ∃ zs, H' D = some (.lst zs) ∧ zs.length = j ∧ (∀ v ∈ zs, ∃ d, Dp K (rmL (D :: S) H') v d ∧ P' d) ∧ Same H H') ht (.inl (SqL.of e1)) (fun D hD => ⟨[], upd_same, rfl, fun v h => absurd h List.not_mem_nil, new_same hD _⟩) (fun D j H' hD hP => by obtain ⟨_, _, _, _, z⟩ := hP; exact z) (fun D j x H' hD hj hP hx => ?_) (fun D H' hD hP => ?_)
  · obtain ⟨zs, g1, g2, g3, g4⟩ := hP
    obtain ⟨d, hd1, hd2⟩ := e3 x (List.mem_of_getElem? hx)
    have AD : Alive (D :: S) H' := fun b hb => by
      rcases List.mem_cons.mp hb with rfl | hb
      · rw [g1]
        exact fun z => by cases z
      · exact A.same g4 b hb
    refine ⟨hw x, ?_⟩
    unfold tYes
    refine iteT ?_
    refine hs D x d H' _ AD g4 (same_in hD g4) (dp_same (same_in hD g4) hd1) hd2 fun y H4 e s4 h4 p4 => ⟨zs, s4 _ _ g1, small1000 (by omega), zs ++ [y], upd_same, by rw [List.length_append, g2] <;> rfl, fun v hv => ?_, fun b o z => ?_⟩
    · rw [rm_put List.mem_cons_self]
      rcases List.mem_append.mp hv with hv | hv
      · obtain ⟨d', a, b⟩ := g3 v hv
        exact ⟨d', dp_same (rm_same s4) a, b⟩
      · rw [List.mem_singleton.mp hv]
        exact ⟨e, h4, p4⟩
    · rw [upd_ne (ne_of_none z hD)]
      exact s4 _ _ (g4 _ _ z)
  · obtain ⟨zs, g1, g2, g3, g4⟩ := hP
    exact hd D H' hD g4 ⟨zs, g1, by omega, g3⟩
/-- the same over range(m), item by item -/
theorem lc_rng {K : PySem.W.Frag} {S : List Addr} {m i : Nat} {ta : TA} {te : TE} {vs : List Nat} {σ : L2.St} {H : Hp} {Q : VK} (es : List PyData) (A : Alive S H) (ht : ∀ Q' : List V → Hp → Prop, Q' [.int m] H → ta σ H Q') (hm : m ≤ 900) (he : es.length = m)
    (hw : ∀ x, wipe ((wipe σ vs).set i (some x)) vs = wipe σ vs)
    (hs : ∀ (D : Addr) (j : Nat) (e : PyData) (H' : Hp) (Qc : VK), es[j]? = some e → Alive (D :: S) H' → Same H H' → Same (rmL S H) (rmL (D :: S) H') → (∀ y H4, Same H' H4 → Dp K (rmL (D :: S) H4) y e → Qc y H4) → te ((wipe σ vs).set i (some (.int (j : Nat)))) H' Qc)
    (hd : ∀ D us H', H D = none → Same H H' → H' D = some (.lst us) → DpAll K (rmL (D :: S) H') us es → Q (.ref D) H') : tLc (iRng1 ta) (gName i) tYes te vs σ H Q := by
  refine ht _ ⟨_, rfl, ?_, ?_, fun D hD => ?_⟩
  · have : -(2 ^ 62 : Int) ≤ 0 := by decide
    omega
  · have : (1000 : Int) < 2 ^ 62 := by decide
    omega
  have em : ((m : Int)).toNat = m := by omega
  rw [em]
  refine lc_range (lo := 0) (n := m) (fun j H' => ∃ us, H' D = some (.lst us) ∧ DpAll K (rmL (D :: S) H') us (es.take j) ∧ Same H H') ⟨[], upd_same, .nil, new_same hD _⟩ (fun j H' hj hP => ?_) (fun H' hP => ?_)
  · obtain ⟨us, g1, g2, g4⟩ := hP
    have ee : es[j]? = some es[j] := List.getElem?_eq_getElem (by omega)
    have AD : Alive (D :: S) H' := fun b hb => by
      rcases List.mem_cons.mp hb with rfl | hb
      · rw [g1]
        exact fun z => by cases z
      · exact A.same g4 b hb
    have ex : (0 : Int) + (j : Int) = ((j : Nat) : Int) := by omega
    rw [ex]
    refine ⟨hw _, ?_⟩
    unfold tYes
    refine iteT ?_
    refine hs D j _ H' _ ee AD g4 (same_in hD g4) fun y H4 s4 h4 => ⟨us, s4 _ _ g1, small1000 ?_, us ++ [y], upd_same, ?_, fun b o z => ?_⟩
    · rw [dps_len g2, List.length_take]
      omega
    · rw [rm_put List.mem_cons_self, take_one ee]
      exact dps_snoc (dps_same (rm_same s4) g2) h4
    · rw [upd_ne (ne_of_none z hD)]
      exact s4 _ _ (g4 _ _ z)
  · obtain ⟨us, g1, g2, g4⟩ := hP
    rw [List.take_of_length_le (by omega)] at g2
    exact hd D us H' hD g4 g1 g2
theorem seqT_rm {K : PySem.W.Frag} {H : Hp} {a q : Addr} {xs ys : List V} (e : H a = some (.lst ys)) (h : SqT K H q xs) : SqT K (rmL [a] H) q xs := by
  have n1 : ∀ {o : HO}, H q = some o → (∀ l, o ≠ .lst l) → q ∉ [a] := fun e1 e2 z => by
    rw [List.mem_singleton.mp z, e] at e1
    exact e2 _ (Option.some.inj e1).symm
  rcases h with (h | ⟨o, h⟩) | h
  · exact .inl (.inl (by rw [rm_at (n1 h (by intro l z; cases z))]; exact h))
  · exact .inl (.inr ⟨o, by rw [rm_at (n1 h (by intro l z; cases z))]; exact h⟩)
  · exact .inr h
theorem tabR_rm {K : PySem.W.Frag} {H : Hp} {a : Addr} {ys : List V} (e : H a = some (.lst ys)) : ∀ {ps : List Addr} {kvs : List (Key × V)} {t : List (Str × List Str)}, TabR K H ps kvs t → TabR K (rmL [a] H) ps kvs t
  | _, _, _, .nil => .nil
  | _, _, _, .cons a b o c => .cons (seqT_rm e a) (seqT_rm e b) o (tabR_rm e c)
theorem Flw.alive {H : Hp} {a b : Addr} (F : Flw b H a) : Alive [a] H := fun x hx z => by
  rw [List.mem_singleton.mp hx] at z
  obtain ⟨xs, e⟩ := F.lst
  rw [e] at z
  cases z
theorem PL.enter {K : PySem.W.Frag} {S : List Addr} {P : PyData → Prop} {n : Nat} {D E : Addr} {H H' : Hp} (hD : H D = none) (s : Same H H') (h : PL K S P n E H) : PL K (D :: S) P n E H' := by
  obtain ⟨vs, h1, h2, h3⟩ := h.ex
  exact ⟨vs, s _ _ h1, h2, fun v hv => by obtain ⟨d, a, b⟩ := h3 v hv; exact ⟨d, dp_same (same_in hD s) a, b⟩⟩
theorem PL.leave {K : PySem.W.Frag} {S : List Addr} {P : PyData → Prop} {n : Nat} {D E : Addr} {H : Hp} (h : PL K (D :: S) P n E H) : PL K S P n E H := h.sub fun b hb => List.mem_cons_of_mem _ hb
theorem sl_listK {X : Cx} (K : PySem.W.Frag) (h : X.K = K) : SlR X (rSlL K) := by
  subst h
  exact sl_list
theorem sl_tupAK {X : Cx} (K : PySem.W.Frag) (h : X.K = K) : SlR X (rSlA K) := by
  subst h
  exact sl_tupA
theorem op_catAK {X : Cx} (K : PySem.W.Frag) (h : X.K = K) : OpR X (binaryOp .Add) (rCatA K) := by
  subst h
  exact op_catA
theorem op_notIn_seqK {X : Cx} (K : PySem.W.Frag) (h : X.K = K) : OpR X (compareOp .NotIn) (rIn K true) := by
  subst h
  exact op_notIn_seq
/-! what is wrong -/
def NW (d : PyData) : Prop := isWord d = false ∧ Short d
def FS (f : PyData) : Prop := ∀ a b, pairOf f = some (a, b) → Short a ∧ MShort b
def BF (f : PyData) : Prop := (fieldOk f = false ∨ isWord (firstOf f) = false) ∧ FS f
def BadT (d : PyData) : Prop := areFields d = false ∧ FShort d
theorem entry_fs {e : Str × List Str} (h1 : word e.1 = true) (h2 : ∀ x ∈ e.2, word x = true) : FS (entryD e) := fun a b h => by
  cases h
  refine ⟨short_word h1, fun ws ew x hx => ?_⟩
  cases ew
  obtain ⟨y, hy, rfl⟩ := List.mem_map.mp hx
  exact short_word (h2 y hy)
theorem bad_in {d f : PyData} {fs : List PyData} (e : rowOf d = some fs) (hf : f ∈ fs) (h : fieldOk f = false ∨ isWord (firstOf f) = false) : areFields d = false := by
  unfold areFields
  rw [e]
  show (decide (1 ≤ fs.length) && (decide (fs.length ≤ 6) && (fs.all fieldOk && unlike (fs.map firstOf)))) = false
  have : (fs.all fieldOk && unlike (fs.map firstOf)) = false := by
    rcases h with h | h
    · have : fs.all fieldOk = false := List.all_eq_false.mpr ⟨f, hf, by rw [h]; exact fun z => by cases z⟩
      rw [this, Bool.false_and]
    · have : unlike (fs.map firstOf) = false := by
        unfold unlike
        have : (fs.map firstOf).all isWord = false := List.all_eq_false.mpr ⟨firstOf f, List.mem_map.mpr ⟨f, hf, rfl⟩, by rw [h]; exact fun z => by cases z⟩
        rw [this, Bool.false_and]
      rw [this, Bool.and_false]
  rw [this, Bool.and_false, Bool.and_false]
theorem bad_norow {d : PyData} (e : rowOf d = none) : BadT d := by
  refine ⟨?_, fun fs h => by rw [e] at h; cases h⟩
  unfold areFields
  rw [e]
theorem bad_short {d : PyData} {fs : List PyData} (e : rowOf d = some fs) (h : ∀ f ∈ fs, FS f) : FShort d := fun gs eg f hf a b ep => by
  rw [e] at eg
  cases eg
  exact h f hf a b ep
/-- a field that is no pair -/
theorem bf_nopair {f : PyData} (h : pairOf f = none) : BF f := by
  refine ⟨.inl ?_, fun a b ep => by rw [h] at ep; cases ep⟩
  unfold fieldOk
  rw [h]
/-- a field whose name is none -/
theorem bf_name {x b : PyData} (h : NW x) (hb : MShort b) : BF (.tuple [x, b]) := by
  refine ⟨.inr ?_, fun a c ep => ?_⟩
  · exact h.1
  · cases ep
    exact ⟨h.2, hb⟩
/-- .. whose values are none -/
theorem bf_vals {n : Str} {b : PyData} (hn : word n = true) (h : areValues b = false) (hb : MShort b) : BF (.tuple [.str n, b]) := by
  refine ⟨.inl ?_, fun a c ep => ?_⟩
  · show areValues b = false
    exact h
  · cases ep
    exact ⟨short_word hn, hb⟩
theorem vals_in {b d : PyData} {ws : List PyData} (e : rowOf b = some ws) (hd : d ∈ ws) (h : isWord d = false) : areValues b = false := by
  unfold areValues
  rw [e]
  show (decide (1 ≤ ws.length) && (decide (ws.length ≤ 5) && unlike ws)) = false
  have : unlike ws = false := by
    unfold unlike
    have : ws.all isWord = false := List.all_eq_false.mpr ⟨d, hd, by rw [h]; exact fun z => by cases z⟩
    rw [this, Bool.false_and]
  rw [this, Bool.and_false, Bool.and_false]
theorem vals_norow {b : PyData} (e : rowOf b = none) : areValues b = false ∧ MShort b := by
  refine ⟨?_, fun ws h => by rw [e] at h; cases h⟩
  unfold areValues
  rw [e]
theorem mshort_of {b : PyData} {ws : List PyData} (e : rowOf b = some ws) (h : ∀ d ∈ ws, Short d) : MShort b := fun us eu d hd => by
  rw [e] at eu
  cases eu
  exact h d hd
end Q
set_option Elab.async false
set_option linter.all false
set_option maxRecDepth 100000
set_option maxHeartbeats 4000000
/-! A dict comprehension whose keys are tuples of ints and texts. -/
namespace XK
open PySem PySem.Spec PyProof.Rows L2
/-- one entry more, its key a tuple -/
theorem put_tup {X : Cx} {pins : List (Addr × Obj)} {σ : L2.St} {H : Hp} {s : Shared} {E : Value → Shared → Prop} {D b : Addr} {es : List (List Key × V)} {k : List Key} {v : V} {u r : Value} {Q : Unit → Shared → Prop}
    (hu : X.A.units < cLine) (I : Inv X pins σ H s) (hD : H D = some (.dT es)) (hb : H b = some (.tup (k.map kV))) (hz : es.length < sizeLine) (ru : RelV (.ref b) u) (rv : RelV v r)
    (next : ∀ s1, Inv X pins σ (upd H D (.dT (putK es k v))) s1 → Q () s1) : wpAny (model X.prog X.w) X.A (dictSet D u r) Q E s := by
  cases (show u = Value.ref b from ru)
  obtain ⟨z, nsys, xs, rel, dd⟩ := dt_of I.hok hD
  have small : xs.length ≤ sizeLine := by
    rw [← Paired.length rel]
    exact z
  have grown : (putK es k v).length ≤ sizeLine := Nat.le_trans (length_putK es k v) hz
  refine wpAny_dictSet_heap (hsz := small) hu (key_of I.hok hb) dd fun h1 d1 but => next _ ?_
  obtain ⟨q, l1, l2, e1, e2, e3, e4, _, e5⟩ := d1
  refine d_write I (by rw [hD]; exact True.intro) but ⟨q, e1⟩ ⟨grown, nsys, _, (rel.put k hb rv).keeps fun c ys ec => ?_, q, l1, l2, e1, e2, e3, e4, e5⟩
  have other : c ≠ D := ne_of ec hD (fun z => nomatch z)
  rw [upd_ne other]
  exact ec
section
variable {X : Cx}
/-- how {k: v for target in iter if ..} reads -/
def tDcT (wi : TI) (g : TG) (tt : TT) (tk tv : TE) (own : List Nat) : TE := fun σ H Q =>
  wi σ H fun J H1 => ∀ D, H1 D = none →
    ∃ W : Nat → Nat → Hp → Prop, (∃ m, W 0 m (upd H1 D (.dT []))) ∧ ∀ i m H, W i m H →
      (J.stop i H ∧ Q (.ref D) H) ∨
      (J.go i H ∧ ∃ Nx : Hp → Prop, (∀ H', Nx H' → ∃ m', m' < m ∧ W (i + 1) m' H') ∧
        ∀ x H', J.yld i H x H' → g x (wipe σ own) H' fun σ2 H2 => wipe σ2 own = wipe σ own ∧
          tt σ2 H2 fun b H3 => if b = true then
              tk σ2 H3 fun y H4 => tv σ2 H4 fun z H5 => ∃ es k p, y = .ref p ∧ H5 p = some (.tup (k.map kV)) ∧ H5 D = some (.dT es) ∧ es.length < sizeLine ∧ Nx (upd H5 D (.dT (putK es k z)))
            else Nx H3)
theorem dcT_run {pins : List (Addr × Obj)} {s : Shared} {σ : L2.St} {H : Hp} {Q : VK} {ke ve tg iter : Expr} {ifs : List Expr} {scope : Scope} {own : List (Str × Nat)} {pos pos2 : Pos} {wi : TI} {g : TG} {tt : TT} {tk tv : TE}
    {use : Option (Value → Sem Unit)} {Qf : Value → Shared → Prop} (hu : X.A.units < cLine) (calm : X.calm = true) (hN : X.N.Nodup) (I : Inv X pins σ H s) (hi : PI X tg iter wi) (ok : BlkOk X.N X.env.scope scope own)
    (hg : ∀ (s : Shared) (H : Hp) (C : Addr) (cl : List (Str × Addr)) (fp : List Addr), PG (X.blk s H scope (compEnvC scope cl C X.env) fp) tg g)
    (ht : ∀ (s : Shared) (H : Hp) (C : Addr) (cl : List (Str × Addr)) (fp : List Addr), PTs (X.blk s H scope (compEnvC scope cl C X.env) fp) ifs tt)
    (hk : ∀ (s : Shared) (H : Hp) (C : Addr) (cl : List (Str × Addr)) (fp : List Addr), PE (X.blk s H scope (compEnvC scope cl C X.env) fp) ke tk)
    (hv : ∀ (s : Shared) (H : Hp) (C : Addr) (cl : List (Str × Addr)) (fp : List Addr), PE (X.blk s H scope (compEnvC scope cl C X.env) fp) ve tv)
    (hs : ∀ x, foldedSetIterable iter X.env x = pure x) (h : tDcT wi g tt tk tv (own.map (·.2)) σ H Q)
    (fin : ∀ D C s2 m H2, Inv X pins σ H2 s2 → Q (.ref D) H2 → s2.heap.Ns C m → FpOk X pins H2 C → compPost (model X.prog X.w) X.A X.xe use Qf (.ref D) C (.ok .next) s2) :
    wpAny (model X.prog X.w) X.A (comprehension (.DictComp ke ve [⟨tg, iter, ifs, 0⟩] scope pos) scope X.env pos2 newDict false (eval iter X.env) use) Qf X.xe s := by
  have frees : ∀ y ∈ scope.names, y.2 = .free → ∃ c, X.env.cells.lookup y.1 = some c := fun y hy e =>
    (ok.free y hy e).elim (fun k => I.ok.has _ (.inl k)) (fun k => I.ok.has _ (.inr k))
  refine wpAny_comprehension_free (use := use) rfl hs (closure_ok frees) ok.kind (fun y hy e => by rw [ok.uniq y hy, e])
    (thn (hi.run pins s σ H _ I h) fun xv s1 hx => thn hx fun itv s2 h2 => ?_)
  obtain ⟨it, fp, tn, J, H2, rfl, I2, T, st2, f2, q⟩ := h2
  refine wpAny_newObj_type (newEnv_comp ?_)
  generalize hD : s2.heap.objs.size = D
  have nD : H2 D = none := I2.hok.fresh (Nat.le_of_eq hD)
  obtain ⟨W, ⟨m0, w0⟩, turn⟩ := q D nD
  generalize hs3 : ({ s2 with heap := s2.heap.push { cls := .type "dict", data := .dict #[] } } : Shared) = s3
  have h3 : s3.heap = s2.heap.push { cls := .type "dict", data := .dict #[] } := by
    rw [← hs3]
  have I3 : Inv X pins σ (upd H2 D (.dT [])) s3 := by
    rw [← hs3]
    refine I2.laid (t' := s2.toks) (fun b o e => Heap.get?_push_of_some _ e) (Nat.le_of_eq hD) ?_
    rw [← hD]
    exact dt_empty s2.heap I2.big
  have lt2 : ∀ b ∈ fp, b < s2.heap.objs.size := fun b hb =>
    (T.obj _ _ st2 b hb).elim fun o e => Heap.lt_size e.1
  have f3 : ∀ b ∈ fp, FpOk X pins (upd H2 D (.dT [])) b ∧ b < s3.heap.objs.size := by
    intro b hb
    have lt := lt2 b hb
    refine ⟨⟨?_, (f2 b hb).2⟩, by rw [h3, Heap.size_push]; exact Nat.lt_succ_of_lt lt⟩
    rw [upd_ne (by rw [← hD]; exact Nat.ne_of_lt lt)]
    exact (f2 b hb).1
  have st3 : tn 0 s3.heap := T.keep _ _ _ st2 fun b _ o e => by
    rw [h3]
    exact Heap.get?_push_of_some _ e
  have I4 := block_start I3 ok hN f3
  have pg := hg s3 (upd H2 D (.dT [])) s3.heap.objs.size (cellsFrom (s3.heap.objs.size + 1) scope.names (cloFrom X.env.cells scope.names [])) fp
  have pt := ht s3 (upd H2 D (.dT [])) s3.heap.objs.size (cellsFrom (s3.heap.objs.size + 1) scope.names (cloFrom X.env.cells scope.names [])) fp
  have pk := hk s3 (upd H2 D (.dT [])) s3.heap.objs.size (cellsFrom (s3.heap.objs.size + 1) scope.names (cloFrom X.env.cells scope.names [])) fp
  have pv := hv s3 (upd H2 D (.dT [])) s3.heap.objs.size (cellsFrom (s3.heap.objs.size + 1) scope.names (cloFrom X.env.cells scope.names [])) fp
  show codeAny _ _ (.compStart (.DictComp ke ve [⟨tg, iter, ifs, 0⟩] scope pos) 0 (.ref it) (.ref D) (compEnvC scope (cellsFrom (s3.heap.objs.size + 1) scope.names (cloFrom X.env.cells scope.names [])) s3.heap.objs.size X.env))
    (compPost (model X.prog X.w) X.A X.xe use Qf (.ref D) s3.heap.objs.size) { s3 with heap := pushCells (s3.heap.push { cls := .type "dict", data := .dict #[] }) scope.names }
  have nfp : ∀ b ∈ fp, (upd H2 D (.dT [])) b = none := fun b hb => (f3 b hb).1.1
  generalize hce : compEnvC scope (cellsFrom (s3.heap.objs.size + 1) scope.names (cloFrom X.env.cells scope.names [])) s3.heap.objs.size X.env = ce at I4 pg pt pk pv ⊢
  have cL : ce.locals = s3.heap.objs.size := by
    subst hce
    rfl
  generalize hH3 : upd H2 D (.dT []) = H3 at I3 I4 pg pt pk pv w0 nfp f3
  generalize hs4 : ({ s3 with heap := pushCells (s3.heap.push { cls := .type "dict", data := .dict #[] }) scope.names } : Shared) = s4 at I4 ⊢
  have st4 : tn 0 s4.heap := T.keep _ _ _ st3 fun b _ o e => by
    rw [← hs4]
    exact pushCells_keeps _ _ _ _ (Heap.get?_push_of_some _ e)
  have stat : ∀ {σ' : L2.St} {H' : Hp} {s' : Shared}, Inv (X.blk s3 H3 scope ce fp) [] σ' H' s' → (∀ b ∈ fp, H' b = none) → ∀ b ∈ fp, FpOk (X.blk s3 H3 scope ce fp) [] H' b := by
    intro σ' H' s' Z hn b hb
    exact ⟨hn b hb, (Z.ok.exf b hb).1, Z.ok.exfs b hb, .inl hb, fun x c e => (Z.ok.exf b hb).2 x c e, fun p hp => absurd (show p ∈ ([] : List (Addr × Obj)) ++ [] from hp) (by simp)⟩
  have loop : codeAny (model X.prog X.w) X.A (.compLoop (.DictComp ke ve [⟨tg, iter, ifs, 0⟩] scope pos) 0 (.ref it) (.ref D) ce) (compPost (model X.prog X.w) X.A X.xe use Qf (.ref D) s3.heap.objs.size) s4 := by
    refine compLoop_anyD (fun n s' => ∃ i H', Inv (X.blk s3 H3 scope ce fp) [] (wipe σ (own.map (·.2))) H' s' ∧ tn i s'.heap ∧ (∀ b ∈ fp, H' b = none) ∧ W i n H') ?_ m0 ⟨0, H3, I4, st4, nfp, w0⟩
    rintro n s5 ⟨i, H5, J5, st5, n5, w5⟩
    rcases turn i n H5 w5 with ⟨stop, qq⟩ | ⟨go, Nx, hNx, step⟩
    · refine thnF (T.done (X.blk s3 H3 scope ce fp) rfl rfl rfl calm i [] s5 _ H5 (fun _ _ => False) J5 (stat J5 n5) st5 stop) fun r s6 ⟨hr, J6⟩ => ?_
      subst hr
      have J7 : Inv X pins σ H5 s6 := I3.call' (ch := fp) J6.os J6.base J6.hok J6.bare fun b hb =>
        ⟨(f3 b hb).1.2.2.2.1, (f3 b hb).1.2.1, (f3 b hb).1.2.2.2.2.1, (f3 b hb).1.2.2.2.2.2⟩
      have nC : H5 s3.heap.objs.size = none := by
        have z : H5 ce.locals = none := J6.free
        rwa [cL] at z
      obtain ⟨m, hn, _⟩ := J6.loc
      have hn2 : s6.heap.Ns ce.locals m := hn
      rw [cL] at hn2
      exact fin D s3.heap.objs.size s6 m H5 J7 qq hn2 (I3.fpOk (Nat.le_refl _) nC)
    · refine thnF (T.item (X.blk s3 H3 scope ce fp) rfl rfl rfl calm i [] s5 _ H5 (fun _ _ => False) J5 (stat J5 n5) st5 go) fun r s6 ⟨u, hr, h6⟩ => ?_
      subst hr
      refine thnF h6 fun _ s7 ⟨x, H7, J7, r7, y7, st7, n7⟩ => ?_
      have K7 := J7.pinned (stat J7 n7) (T.obj _ _ st7)
      refine thnF (pg.run _ s7 _ H7 x u _ K7 r7 (step x H7 y7)) fun _ s8 ⟨σ8, H8, J8, hw8, q8⟩ => ?_
      refine thnF (pt.run _ s8 σ8 H8 _ J8 q8) fun b s9 ⟨H9, J9, q9⟩ => ?_
      have back : ∀ {s' : Shared} {H' : Hp}, Inv (X.blk s3 H3 scope ce fp) ([] ++ pinsAt fp s7.heap) σ8 H' s' → Nx H' →
          ∃ m, m < n ∧ ∃ i H', Inv (X.blk s3 H3 scope ce fp) [] (wipe σ (own.map (·.2))) H' s' ∧ tn i s'.heap ∧ (∀ b ∈ fp, H' b = none) ∧ W i m H' := by
        intro s' H' Z nx
        obtain ⟨m', hm, w'⟩ := hNx H' nx
        have stands : ∀ b ∈ fp, ∀ o, s7.heap.get? b = some o → s'.heap.get? b = some o ∧ H' b = none := fun b hb o e =>
          let z := Z.pin (b, o) (List.mem_append_right _ (List.mem_append_right _ (mem_pinsAt hb e)))
          ⟨z.1, z.2.1⟩
        have hl : (wipe σ (own.map (·.2))).length = σ8.length := by
          rw [← hw8, wipe_length]
        refine ⟨m', hm, i + 1, H', (Z.unpinned (pins := [])).weak hl (fun j v e => ?_), T.keep _ _ _ st7 fun b hb o e => (stands b hb o e).1, fun b hb => ?_, w'⟩
        · rw [← hw8] at e
          exact (wipe_some e).1
        · obtain ⟨o, e, _⟩ := T.obj _ _ st7 b hb
          exact (stands b hb o e).2
      cases b with
      | false =>
        simp only [Bool.false_eq_true, if_false] at q9 ⊢
        exact back J9 q9
      | true =>
        simp only [if_true] at q9 ⊢
        refine thnF (pk.run _ s9 σ8 H9 _ J9 q9) fun z s10 ⟨yk, H10, J10, r10, q10⟩ => ?_
        refine thnF (pv.run _ s10 σ8 H10 _ J10 q10) fun z2 s11 ⟨yv, H11, J11, r11, es, k, p, ey, hp11, hD11, hz11, nx⟩ => ?_
        subst ey
        exact put_tup (X := X.blk s3 H3 scope ce fp) hu J11 hD11 hp11 hz11 r10 r11 fun s12 J12 => back J12 nx
  exact codeAny_compStart_dict loop (T.self X.A 0 _ _ _ st4 loop)
theorem pe_dcT {ke ve tg iter : Expr} {ifs : List Expr} {scope : Scope} {own : List (Str × Nat)} {pos : Pos} {wi : TI} {g : TG} {tt : TT} {tk tv : TE} (hu : X.A.units < cLine) (calm : X.calm = true) (hN : X.N.Nodup) (hi : PI X tg iter wi) (ok : BlkOk X.N X.env.scope scope own)
    (hg : ∀ (s : Shared) (H : Hp) (C : Addr) (cl : List (Str × Addr)) (fp : List Addr), PG (X.blk s H scope (compEnvC scope cl C X.env) fp) tg g)
    (ht : ∀ (s : Shared) (H : Hp) (C : Addr) (cl : List (Str × Addr)) (fp : List Addr), PTs (X.blk s H scope (compEnvC scope cl C X.env) fp) ifs tt)
    (hk : ∀ (s : Shared) (H : Hp) (C : Addr) (cl : List (Str × Addr)) (fp : List Addr), PE (X.blk s H scope (compEnvC scope cl C X.env) fp) ke tk)
    (hv : ∀ (s : Shared) (H : Hp) (C : Addr) (cl : List (Str × Addr)) (fp : List Addr), PE (X.blk s H scope (compEnvC scope cl C X.env) fp) ve tv)
    (hs : ∀ x, foldedSetIterable iter X.env x = pure x := by intro _; rfl) : PE X (.DictComp ke ve [⟨tg, iter, ifs, 0⟩] scope pos) (tDcT wi g tt tk tv (own.map (·.2))) := by
  constructor
  intro pins s σ H Q I h
  rw [arm_eval_DictComp]
  refine dcT_run hu calm hN I hi ok hg ht hk hv hs h fun D C s2 m H2 I2 q hn f => ⟨m, hn, fun h3 sb => ?_⟩
  obtain ⟨f0, f1, f2, f3, f4, f5⟩ := f
  exact ⟨.ref D, H2, I2.turned (t' := s2.toks) (fun b o hb e => (sb.2 b hb).trans e) f0 f1 f3 f4 f5, rfl, q⟩
end
end XK
set_option Elab.async false
set_option linter.all false
set_option maxRecDepth 100000
set_option maxHeartbeats 4000000
/-! ### comprehensions by what their items are -/
namespace Q
open PySem L2 XD
/-- x in a tuple of data -/
def rInT (K : PySem.W.Frag) (neg : Bool) : R2 := fun x y H Q => ∃ (p : Addr) (ys : List V) (ds : List PyData) (d : PyData), y = .ref p ∧ SqT K H p ys ∧ DpAll K H ys ds ∧ PyData.canLayAll0 ds = true ∧ Dp K H x d ∧ SeqAt.shaped d = true ∧
  Q (.bl (if neg = true then !ds.any (fun z => PyData.eqv z d) else ds.any fun z => PyData.eqv z d)) H
theorem op_inT {X : Cx} (hu : X.A.units + 65 < cLine) : OpR X (compareOp .In) (rInT X.K false) := by
  intro pins s σ H x y v u Q I rx ry h
  obtain ⟨p, ys, ds, d, rfl, hq, ha, lay, hd, sd, q⟩ := h
  cases ry
  obtain ⟨bs, r1⟩ := Dp.reads I d x v hd rx
  obtain ⟨its, rv, pl, hz⟩ := I.tuple hq
  obtain ⟨as, r2⟩ := Dp.readsAll I ds _ its ha rv
  have r3 : ReadsAll s.heap its.toArray.toList ds as := by simpa using r2
  refine SeqAt.in_tupleAt _ pl (SeqAt.items_eqAt r3 r1 lay (SeqAt.canLay_of_shaped sd) (PyProof.Rows.room_in_shaped sd hu)) ⟨.bl _, H, I, rfl, ?_⟩
  rw [SeqAt.any_by_data r3 lay]
  exact q
theorem op_notInT {X : Cx} (hu : X.A.units + 65 < cLine) : OpR X (compareOp .NotIn) (rInT X.K true) := by
  intro pins s σ H x y v u Q I rx ry h
  obtain ⟨p, ys, ds, d, rfl, hq, ha, lay, hd, sd, q⟩ := h
  cases ry
  obtain ⟨bs, r1⟩ := Dp.reads I d x v hd rx
  obtain ⟨its, rv, pl, hz⟩ := I.tuple hq
  obtain ⟨as, r2⟩ := Dp.readsAll I ds _ its ha rv
  have r3 : ReadsAll s.heap its.toArray.toList ds as := by simpa using r2
  refine SeqAt.notIn_tupleAt _ pl (SeqAt.items_eqAt r3 r1 lay (SeqAt.canLay_of_shaped sd) (PyProof.Rows.room_in_shaped sd hu)) ⟨.bl _, H, I, rfl, ?_⟩
  rw [SeqAt.any_by_data r3 lay]
  exact q
theorem op_eqDK {X : Cx} (K : PySem.W.Frag) (h : X.K = K) (hu : X.A.units + 64 < cLine) : OpR X (compareOp .Eq) (rEqD K) := by
  subst h
  exact op_eqD hu
theorem op_inTK {X : Cx} (K : PySem.W.Frag) (h : X.K = K) (hu : X.A.units + 65 < cLine) : OpR X (compareOp .In) (rInT K false) := by
  subst h
  exact op_inT hu
theorem op_notInTK {X : Cx} (K : PySem.W.Frag) (h : X.K = K) (hu : X.A.units + 65 < cLine) : OpR X (compareOp .NotIn) (rInT K true) := by
  subst h
  exact op_notInT hu
theorem alive_of {D : Addr} {H : Hp} {xs : List V} (e : H D = some (.lst xs)) : Alive [D] H := fun b hb => by
  rw [List.mem_singleton.mp hb, e]
  exact fun z => by cases z
theorem same_rm1 {D : Addr} {H H' : Hp} (hD : H D = none) (s : Same H H') : Same H (rmL [D] H') := same_rm s fun b hb => by rw [List.mem_singleton.mp hb]; exact hD
theorem range_filter {n : Nat} {sel : Nat → Bool} : (List.range (n + 1)).filter sel = (List.range n).filter sel ++ if sel n = true then [n] else [] := by
  rw [List.range_succ, List.filter_append]
  congr 1
  by_cases h : sel n = true
  · rw [if_pos h, List.filter_cons_of_pos h] <;> rfl
  · rw [if_neg h, List.filter_cons_of_neg h] <;> rfl
theorem prd_imp {α β : Type} {R R' : α → β → Prop} (h : ∀ x y, R x y → R' x y) : ∀ {xs : List α} {ys : List β}, Paired R xs ys → Paired R' xs ys
  | _, _, .nil => .nil
  | _, _, .cons a b => .cons (h _ _ a) (prd_imp h b)
/-- the comprehension over a list or a tuple: P tells an item by its turn, in the heap without the new list -/
theorem lc_g {K : PySem.W.Frag} {p : Addr} {ys : List V} {t0 : TE} {g : TG} {tt : TT} {te : TE} {vs : List Nat} {σ : L2.St} {H : Hp} {Q : VK} (P : Nat → V → Hp → Prop) (sel : Nat → Bool)
    (mono : ∀ i v R R', Same R R' → P i v R → P i v R') (ht : ∀ Q' : VK, Q' (.ref p) H → t0 σ H Q') (hq : SqL K H p ys ∨ SqT K H p ys) (hl : ys.length ≤ 1000)
    (turn : ∀ (D : Addr) (i : Nat) (x : V) (H' : Hp) (yes : VK) (no : Hp → Prop), Alive [D] H' → Same H H' → Same H (rmL [D] H') → ys[i]? = some x →
      (sel i = true → ∀ y H4, Same H' H4 → P i y (rmL [D] H4) → yes y H4) → (sel i = false → ∀ H4, Same H' H4 → no H4) →
      g x (wipe σ vs) H' fun σ2 H2 => wipe σ2 vs = wipe σ vs ∧ tt σ2 H2 fun b H3 => if b = true then te σ2 H3 yes else no H3)
    (hd : ∀ D H' zs, H D = none → Same H H' → H' D = some (.lst zs) → Paired (fun z i => P i z (rmL [D] H')) zs ((List.range ys.length).filter sel) → Q (.ref D) H') : tLc (iRow K t0) g tt te vs σ H Q := by
  refine lc_row (ys := ys) (fun D i H' => ∃ zs, H' D = some (.lst zs) ∧ Paired (fun z i => P i z (rmL [D] H')) zs ((List.range i).filter sel) ∧ Same H H') ht hq (fun D hD => ⟨[], upd_same, .nil, new_same hD _⟩) (fun D i H' _ hP => by obtain ⟨_, _, _, z⟩ := hP; exact z) (fun D i x H' hD hi hP hx => ?_) (fun D H' hD hP => ?_)
  · obtain ⟨zs, g1, g2, g3⟩ := hP
    refine turn D i x H' _ _ (alive_of g1) g3 (same_rm1 hD g3) hx (fun hs y H4 s4 hy => ⟨zs, s4 _ _ g1, small1000 ?_, zs ++ [y], upd_same, ?_, fun b o z => ?_⟩) (fun hs H4 s4 => ⟨zs, s4 _ _ g1, ?_, g3.trans s4⟩)
    · rw [prd_len g2]
      refine Nat.le_trans (List.length_filter_le _ _) ?_
      rw [List.length_range]
      omega
    · rw [rm_put (List.mem_singleton.mpr rfl), range_filter, if_pos hs]
      exact prd_snoc (prd_imp (fun z i h => mono i z _ _ (rm_same s4) h) g2) hy
    · rw [upd_ne (ne_of_none z hD)]
      exact s4 _ _ (g3 _ _ z)
    · rw [range_filter, if_neg (by rw [hs]; exact Bool.false_ne_true), List.append_nil]
      exact prd_imp (fun z i h => mono i z _ _ (rm_same s4) h) g2
  · obtain ⟨zs, g1, g2, g3⟩ := hP
    exact hd D H' zs hD g3 g1 g2
def pairsTo (n m : Nat) (sel : Nat → Nat → Bool) (i : Nat) : List (Nat × Nat) := ((List.range m).filter (sel i)).map fun j => (i, j)
def gridTo (n m : Nat) (sel : Nat → Nat → Bool) : List (Nat × Nat) := (List.range n).flatMap (pairsTo n m sel)
theorem grid_next {n m : Nat} {sel : Nat → Nat → Bool} : gridTo (n + 1) m sel = gridTo n m sel ++ pairsTo n m sel n := by
  unfold gridTo
  rw [List.range_succ, List.flatMap_append, List.flatMap_cons, List.flatMap_nil, List.append_nil]
  rfl
/-- one for in another one -/
theorem lc_g2 {K : PySem.W.Frag} {p q : Addr} {ys us : List V} {t0 t1 : TE} {g g1 : TG} {tt1 : TT} {te : TE} {vs vs1 : List Nat} {σ : L2.St} {H : Hp} {Q : VK} (P : Nat × Nat → V → Hp → Prop) (sel : Nat → Nat → Bool)
    (mono : ∀ i v R R', Same R R' → P i v R → P i v R') (ht : ∀ Q' : VK, Q' (.ref p) H → t0 σ H Q') (hq : SqL K H p ys ∨ SqT K H p ys) (hu : SqL K H q us ∨ SqT K H q us) (hl : (gridTo ys.length us.length sel).length ≤ 1000)
    (turn : ∀ (D : Addr) (i : Nat) (x : V) (H' : Hp), Alive [D] H' → Same H H' → Same H (rmL [D] H') → ys[i]? = some x → ∀ rest : L2.St → Hp → Prop,
      (∀ σ2, wipe σ2 vs = wipe σ vs → (∀ R : VK, R (.ref q) H' → t1 σ2 H' R) →
        (∀ (j : Nat) (u : V) (H3 : Hp) (yes : VK) (no : Hp → Prop), Alive [D] H3 → Same H H3 → Same H (rmL [D] H3) → us[j]? = some u →
          (sel i j = true → ∀ y H4, Same H3 H4 → P (i, j) y (rmL [D] H4) → yes y H4) → (sel i j = false → ∀ H4, Same H3 H4 → no H4) →
          g1 u (wipe σ2 vs1) H3 fun σ3 H5 => wipe σ3 vs1 = wipe σ2 vs1 ∧ tt1 σ3 H5 fun b H6 => if b = true then te σ3 H6 yes else no H6) → rest σ2 H') → g x (wipe σ vs) H' rest)
    (hd : ∀ D H' zs, H D = none → Same H H' → H' D = some (.lst zs) → Paired (fun z i => P i z (rmL [D] H')) zs (gridTo ys.length us.length sel) → Q (.ref D) H') : tLc2 (iRow K t0) g tYes (iRow K t1) g1 tt1 te vs vs1 σ H Q := by
  -- the state ahead of turn i, within it ahead of turn j
  let Pv : Addr → Nat → Hp → Prop := fun D i H' => ∃ zs, H' D = some (.lst zs) ∧ Paired (fun z i => P i z (rmL [D] H')) zs (gridTo i us.length sel) ∧ Same H H'
  let Pw : Addr → Nat → Nat → Hp → Prop := fun D i j H' => ∃ zs, H' D = some (.lst zs) ∧ Paired (fun z i => P i z (rmL [D] H')) zs (gridTo i us.length sel ++ ((List.range j).filter (sel i)).map fun j => (i, j)) ∧ Same H H'
  have all : ∀ {J : It} {G : Hp → Prop}, (walk : Walk J ys.length G (YAt ys)) → (∀ H', Same H H' → G H') → ∀ D, H D = none → ∃ W : Nat → Nat → Hp → Prop, (∃ m, W 0 m (upd H D (.lst []))) ∧ ∀ i m H, W i m H →
      (J.stop i H ∧ Q (.ref D) H) ∨ (J.go i H ∧ ∃ Nx : Hp → Prop, (∀ H', Nx H' → ∃ m', m' < m ∧ W (i + 1) m' H') ∧ ∀ x H', J.yld i H x H' → g x (wipe σ vs) H' fun σ2 H2 => wipe σ2 vs = wipe σ vs ∧ tYes σ2 H2 fun b H3 =>
        if b = true then (iRow K t1) σ2 H3 fun J1 H4 => ∃ W1 : Nat → Nat → Hp → Prop, (∃ m, W1 0 m H4) ∧ ∀ j k H, W1 j k H →
          (J1.stop j H ∧ Nx H) ∨ (J1.go j H ∧ ∃ Nx1 : Hp → Prop, (∀ H', Nx1 H' → ∃ k', k' < k ∧ W1 (j + 1) k' H') ∧ ∀ x H', J1.yld j H x H' → g1 x (wipe σ2 vs1) H' fun σ3 H5 => wipe σ3 vs1 = wipe σ2 vs1 ∧ tt1 σ3 H5 fun b H6 =>
            if b = true then te σ3 H6 fun y H7 => ∃ acc, H7 D = some (.lst acc) ∧ acc.length < sizeLine ∧ Nx1 (upd H7 D (.lst (acc ++ [y]))) else Nx1 H6)
        else Nx H3) := by
    intro J G walk hG D hD
    refine ⟨fun i m H' => m = ys.length - i ∧ i ≤ ys.length ∧ Pv D i H', ⟨ys.length, by simp, Nat.zero_le _, [], upd_same, .nil, new_same hD _⟩, ?_⟩
    rintro i m H' ⟨rfl, hi, zs, g2, g3, g4⟩
    by_cases hlt : i < ys.length
    · refine .inr ⟨walk.goes i H' hlt (hG H' g4), Pv D (i + 1), fun H5 p' => ⟨ys.length - (i + 1), by omega, rfl, hlt, p'⟩, fun x H5 y => ?_⟩
      obtain ⟨rfl, hx⟩ := walk.yields i H' x H5 hlt (hG H' g4) y
      refine turn D i x _ (alive_of g2) g4 (same_rm1 hD g4) hx _ fun σ2 hw ht1 step => ⟨hw, ?_⟩
      unfold tYes
      refine iteT ?_
      have inner : ∀ {J1 : It} {G1 : Hp → Prop}, (walk1 : Walk J1 us.length G1 (YAt us)) → (∀ H', Same H H' → G1 H') → ∃ W1 : Nat → Nat → Hp → Prop, (∃ m, W1 0 m H5) ∧ ∀ j k H, W1 j k H →
          (J1.stop j H ∧ Pv D (i + 1) H) ∨ (J1.go j H ∧ ∃ Nx1 : Hp → Prop, (∀ H', Nx1 H' → ∃ k', k' < k ∧ W1 (j + 1) k' H') ∧ ∀ x H', J1.yld j H x H' → g1 x (wipe σ2 vs1) H' fun σ3 H5 => wipe σ3 vs1 = wipe σ2 vs1 ∧ tt1 σ3 H5 fun b H6 =>
            if b = true then te σ3 H6 fun y H7 => ∃ acc, H7 D = some (.lst acc) ∧ acc.length < sizeLine ∧ Nx1 (upd H7 D (.lst (acc ++ [y]))) else Nx1 H6) := by
        intro J1 G1 walk1 hG1
        refine ⟨fun j k H' => k = us.length - j ∧ j ≤ us.length ∧ Pw D i j H', ⟨us.length, by simp, Nat.zero_le _, zs, g2, ?_, g4⟩, ?_⟩
        · show Paired _ zs (gridTo i us.length sel ++ [])
          rw [List.append_nil]
          exact g3
        rintro j k H6 ⟨rfl, hj, zs6, k2, k3, k4⟩
        by_cases hjt : j < us.length
        · refine .inr ⟨walk1.goes j H6 hjt (hG1 H6 k4), Pw D i (j + 1), fun H7 p' => ⟨us.length - (j + 1), by omega, rfl, hjt, p'⟩, fun u H7 y => ?_⟩
          obtain ⟨rfl, hu7⟩ := walk1.yields j H6 u H7 hjt (hG1 H6 k4) y
          have len : zs6.length < 1000 ∨ sel i j = false := by
            by_cases hs : sel i j = true
            · left
              have e : (gridTo i us.length sel ++ ((List.range j).filter (sel i)).map fun j => (i, j)).length < (gridTo ys.length us.length sel).length := by
                have big : ∀ n, i < n → (gridTo (i + 1) us.length sel).length ≤ (gridTo n us.length sel).length := by
                  intro n hn
                  induction n with
                  | zero => omega
                  | succ n ih =>
                    by_cases e : i = n
                    · rw [e]
                      exact Nat.le_refl _
                    · refine Nat.le_trans (ih (by omega)) ?_
                      rw [grid_next, List.length_append]
                      omega
                refine Nat.lt_of_lt_of_le ?_ (big _ hlt)
                rw [grid_next, List.length_append, List.length_append, List.length_map]
                unfold pairsTo
                rw [List.length_map]
                have more : ∀ n, j < n → ((List.range j).filter (sel i)).length < ((List.range n).filter (sel i)).length := by
                  intro n hn
                  induction n with
                  | zero => omega
                  | succ n ih =>
                    rw [range_filter, List.length_append]
                    by_cases e : j = n
                    · rw [← e, if_pos hs, List.length_singleton]
                      omega
                    · have := ih (by omega)
                      omega
                have := more _ hjt
                omega
              rw [prd_len k3]
              omega
            · right
              rw [← Bool.not_eq_true]
              exact hs
          refine step j u _ _ _ (alive_of k2) k4 (same_rm1 hD k4) hu7 (fun hs y H8 s8 hy => ⟨zs6, s8 _ _ k2, small1000 ?_, zs6 ++ [y], upd_same, ?_, fun b o z => ?_⟩) (fun hs H8 s8 => ⟨zs6, s8 _ _ k2, ?_, k4.trans s8⟩)
          · rcases len with h | h
            · omega
            · rw [hs] at h
              cases h
          · rw [rm_put (List.mem_singleton.mpr rfl), range_filter, if_pos hs, List.map_append, ← List.append_assoc]
            exact prd_snoc (prd_imp (fun z i h => mono i z _ _ (rm_same s8) h) k3) hy
          · rw [upd_ne (ne_of_none z hD)]
            exact s8 _ _ (k4 _ _ z)
          · rw [range_filter, if_neg (by rw [hs]; exact Bool.false_ne_true), List.append_nil]
            exact prd_imp (fun z i h => mono i z _ _ (rm_same s8) h) k3
        · have e : j = us.length := by omega
          subst e
          refine .inl ⟨walk1.stops H6 (hG1 H6 k4), zs6, k2, ?_, k4⟩
          rw [grid_next]
          exact k3
      rcases hu with hu | hu
      · exact .inl (ht1 _ ⟨q, rfl, ⟨us, g4.seq hu⟩, inner walk_list (fun H' s => s.seq hu)⟩)
      · exact .inr (ht1 _ ⟨q, rfl, ⟨us, seqT_same g4 hu⟩, inner walk_tup (fun H' s => seqT_same s hu)⟩)
    · have e : i = ys.length := by omega
      subst e
      exact .inl ⟨walk.stops H' (hG H' g4), hd D H' zs hD g4 g2 g3⟩
  rcases hq with hq | hq
  · exact .inl (ht _ ⟨p, rfl, ⟨ys, hq⟩, all walk_list (fun H' s => s.seq hq)⟩)
  · exact .inr (ht _ ⟨p, rfl, ⟨ys, hq⟩, all walk_tup (fun H' s => seqT_same s hq)⟩)
end Q
set_option Elab.async false
set_option linter.all false
set_option maxRecDepth 100000
set_option maxHeartbeats 4000000
/-! ### beside a tape; _law_chosen -/
namespace Q
open PySem L2 XD
theorem Tape.ne {H : Hp} {a b D : Addr} (F : Tape b H a) (h : H D = none) : D ≠ a ∧ D ≠ b := by
  obtain ⟨ns, p, v, g, m, s, Z⟩ := F
  refine ⟨fun z => ?_, fun z => ?_⟩
  · rw [z, Z.at_] at h
    cases h
  · rw [z, Z.ls] at h
    cases h
theorem Tape.off {H : Hp} {a b D : Addr} {o : HO} (F : Tape b H a) (h1 : D ≠ a) (h2 : D ≠ b) : Tape b (upd H D o) a := by
  obtain ⟨ns, p, v, g, m, s, Z⟩ := F
  exact ⟨ns, p, v, g, m, s, by rw [upd_ne h1.symm]; exact Z.at_, by rw [upd_ne h2.symm]; exact Z.ls, Z.pos⟩
theorem Tape.dk {H : Hp} {a b : Addr} (F : Tape b H a) : ∃ kvs : List (Key × V), H a = some (.dK kvs) := by
  obtain ⟨ns, p, v, g, m, s, Z⟩ := F
  exact ⟨_, Z.at_⟩
theorem Tape.alive {H : Hp} {a b : Addr} (F : Tape b H a) : Alive [a] H := fun x hx z => by
  rw [List.mem_singleton.mp hx] at z
  obtain ⟨xs, e⟩ := F.dk
  rw [e] at z
  cases z
/-- what is a list, a tuple is no tape -/
theorem lst_tp {H H' : Hp} {a b p : Addr} {xs : List V} (F : Tape b H a) (k : Kept a H H') (h : H p = some (.lst xs)) : H' p = some (.lst xs) := by
  obtain ⟨ys, e⟩ := F.dk
  refine k _ _ (fun z => ?_) h
  rw [z, e] at h
  cases h
theorem seqT_tp {K : PySem.W.Frag} {H H' : Hp} {a b q : Addr} {xs : List V} (F : Tape b H a) (k : Kept a H H') (h : SqT K H q xs) : SqT K H' q xs := by
  obtain ⟨ys, e⟩ := F.dk
  have n1 : ∀ {o : HO}, H q = some o → (∀ l, o ≠ .dK l) → q ≠ a := fun e1 e2 z => by
    subst z
    rw [e] at e1
    exact e2 _ (Option.some.inj e1).symm
  rcases h with (h | ⟨o, h⟩) | h
  · exact .inl (.inl (k _ _ (n1 h (by intro l z; cases z)) h))
  · exact .inl (.inr ⟨o, k _ _ (n1 h (by intro l z; cases z)) h⟩)
  · exact .inr h
theorem seqL_tp {K : PySem.W.Frag} {H H' : Hp} {a b q : Addr} {xs : List V} (F : Tape b H a) (k : Kept a H H') (h : SqL K H q xs) : SqL K H' q xs := by
  obtain ⟨ys, e⟩ := F.dk
  have n1 : ∀ {o : HO}, H q = some o → (∀ l, o ≠ .dK l) → q ≠ a := fun e1 e2 z => by
    subst z
    rw [e] at e1
    exact e2 _ (Option.some.inj e1).symm
  rcases h with (h | ⟨o, h⟩) | h
  · exact .inl (.inl (k _ _ (n1 h (by intro l z; cases z)) h))
  · exact .inl (.inr ⟨o, k _ _ (n1 h (by intro l z; cases z)) h⟩)
  · exact .inr h
theorem sqZ_tp {H H' : Hp} {a b q : Addr} {xs : List V} (F : Tape b H a) (k : Kept a H H') (h : SqZ H q xs) : SqZ H' q xs := by
  obtain ⟨ys, e⟩ := F.dk
  obtain ⟨o, h, d⟩ := h
  refine ⟨o, k _ _ (fun z => ?_) h, d⟩
  rw [z, e] at h
  cases h
theorem dp_tp {K : PySem.W.Frag} {H H' : Hp} {a b : Addr} (F : Tape b H a) (k : Kept a H H') : ∀ {v : V} {d : PyData}, Dp K H v d → Dp K H' v d
  | _, _, .non => .non
  | _, _, .bl b => .bl b
  | _, _, .int i => .int i
  | _, _, .str s => .str s
  | _, _, .tup h1 h2 => .tup (seqT_tp F k h1) (dps_tp F k h2)
  | _, _, .lst h1 h2 => .lst (seqL_tp F k h1) (dps_tp F k h2)
where
  dps_tp {K : PySem.W.Frag} {H H' : Hp} {a b : Addr} (F : Tape b H a) (k : Kept a H H') : ∀ {vs : List V} {ds : List PyData}, DpAll K H vs ds → DpAll K H' vs ds
  | _, _, .nil => .nil
  | _, _, .cons h1 h2 => .cons (dp_tp F k h1) (dps_tp F k h2)
theorem TabR.tp {K : PySem.W.Frag} {H H' : Hp} {a b : Addr} (F : Tape b H a) (s : Kept a H H') : ∀ {ps : List Addr} {kvs : List (Key × V)} {t : List (Str × List Str)}, TabR K H ps kvs t → TabR K H' ps kvs t
  | _, _, _, .nil => .nil
  | _, _, _, .cons a b o c => .cons (seqT_tp F s a) (seqT_tp F s b) o (TabR.tp F s c)
theorem perm_take {α : Type} {U L X : List α} {k : Nat} {y : α} (h : (U ++ L).Perm X) (hy : L[k]? = some y) : ((U ++ [y]) ++ L.eraseIdx k).Perm X := by
  obtain ⟨hk, e⟩ := List.getElem?_eq_some_iff.mp hy
  have e1 : L = L.take k ++ y :: L.drop (k + 1) := by
    rw [← e, ← List.drop_eq_getElem_cons hk, List.take_append_drop]
  rw [List.eraseIdx_eq_take_drop_succ]
  have p : (U ++ L).Perm ((U ++ [y]) ++ (L.take k ++ L.drop (k + 1))) := by
    conv => lhs; rw [e1]
    rw [List.append_assoc]
    exact (List.Perm.append_left U List.perm_middle)
  exact p.symm.trans h
def spChosen (K : PySem.W.Frag) : Sp := fun vs H Q _ => ∃ (a b t : Addr) (xs : List V) (m : Nat), vs = [.ref a, .ref t, .int m] ∧ Tape b H a ∧ H t = some (.lst xs) ∧ xs.length ≤ 1000 ∧ m ≤ 1000 ∧
  ∀ (D : Addr) (ys zs : List V) (H' : Hp), H D = none → H' D = some (.lst ys) → (ys ++ zs).Perm xs → ys.length = min m xs.length → Tape b H' a → Kept a H H' → Q (.ref D) H'
theorem i62a (n : Nat) : -(2 ^ 62 : Int) ≤ (n : Int) := by
  have : -(2 ^ 62 : Int) ≤ 0 := by decide
  omega
theorem i62b {n : Nat} (h : n ≤ 1000) : (n : Int) < 2 ^ 62 := by
  have : (1001 : Int) < 2 ^ 62 := by decide
  omega
theorem few200 {n : Nat} (h : n ≤ 100000) : ((n : Int)).natAbs < 2 ^ 200 := by
  have : (100001 : Nat) < 2 ^ 200 := by decide
  omega
theorem new_none {H : Hp} {D L : Addr} {o : HO} (h : upd H D o L = none) : H L = none ∧ L ≠ D := by
  have n : L ≠ D := fun z => by
    rw [z, upd_same] at h
    cases h
  rw [upd_ne n] at h
  exact ⟨h, n⟩
section
variable {P : Program} {w : World} {K : PySem.W.Frag} {mg : Str → Option Value} {base : Heap}
theorem scChosen : FnScope ["tape", "things", "many", "left", "found", "k"] ["tape", "things", "many"] (defScope sChosen) := ⟨rfl, rfl, rfl, by decide +kernel, rfl, by decide +kernel, by decide +kernel⟩
theorem ok_chosen {f : Addr} {fd : FuncData} (F : Fun K "_law_chosen" "_law_chosen" sChosen f fd) (T : BtT mg) (T5 : mg "min" = none) (KD : Kn P w K mg base 2 "_law_draw" ["tape", "many"] spDrawT) : FnOk P w K mg base CX0 3 f fd ["tape", "things", "many"] (spChosen K) := by
  obtain ⟨fD, fdD, GD, kD, bD, mD⟩ := KD.ex
  refine F.ok scChosen (fun vs H Q E h => ?_) (fun cdv A outer s H vs Q E hr h => ?_)
  · obtain ⟨a, b, t, xs, m, rfl, _⟩ := h
    rfl
  obtain ⟨a, b, t, xs, m, rfl, ha, ht, hx, hm, k⟩ := h
  refine ⟨_, pss_cons (ps_set (i := 3) scChosen.nd rfl (.inl rfl) (pe_callTy call_list_of rfl T.list (by decide +kernel) (pa_cons (pv 1) pa_nil)))
    (pss_cons (ps_set (i := 4) scChosen.nd rfl (.inl rfl) (pe_lst pa_nil))
    (pss_cons (ps_for PassesOwn.never rfl (pi_range1 rfl T.range (pa_cons (pe_callB (call_min2 rfl) rfl T5 (by decide +kernel) (pa_cons (pv 2) (pa_cons (pe_callB call_len_seq rfl T.len PySem.boot_len (pa_cons (pv 1) pa_nil)) pa_nil))) pa_nil)) (pg_name (i := 5) scChosen.nd rfl (.inl rfl))
      (pss_one (ps_expr (pe_bm PySem.F.plainAttrs_list PySem.F.slot_list_append PySem.F.type_list_append mt_append (pv 4) (pa_cons (pe_bm PySem.F.plainAttrs_list PySem.F.slot_list_pop PySem.F.type_list_pop mt_popAt (pv 3)
        (pa_cons (pe_call GD hr rfl mD kD bD .nil pass0 (pa_cons (pv 0) (pa_cons (pe_callB call_len_seq rfl T.len PySem.boot_len (pa_cons (pv 3) pa_nil)) pa_nil))) pa_nil)) pa_nil)))))
    (pss_one (ps_ret (pv 4))))), ?_⟩
  refine ⟨_, rfl, t, xs, rfl, .inl (SqL.of ht), fun L hL => ?_⟩
  refine ⟨by show 0 ≤ sizeLine; decide, fun D hD => ?_⟩
  obtain ⟨hD0, DL⟩ := new_none hD
  obtain ⟨La, Lb⟩ := ha.ne hL
  obtain ⟨Da, Db⟩ := ha.ne hD0
  have s1 := new_same hL (.lst xs)
  have s2 := new_same hD (.lst [])
  have s12 := s1.trans s2
  refine ⟨_, rfl, _, rfl, t, _, rfl, .inl (SqL.of (s12 _ _ ht)), _, _, rfl, ?_⟩
  obtain ⟨n, en, hn⟩ : ∃ n : Nat, (if (xs.length : Int) < (m : Int) then (xs.length : Int) else (m : Int)) = (n : Int) ∧ n = min m xs.length := ⟨min m xs.length, by split <;> omega, rfl⟩
  rw [en]
  refine ⟨_, rfl, i62a n, i62b (by omega), ?_⟩
  have l1 : upd (upd H L (.lst xs)) D (.lst []) L = some (.lst xs) := s2 _ _ upd_same
  refine for_range (lo := 0) (n := n) (fun i σ H' => ∃ (ys zs : List V) (f5 : Option V), σ = [some (.ref a), some (.ref t), some (.int m), some (.ref L), some (.ref D), f5] ∧ H' L = some (.lst zs) ∧ H' D = some (.lst ys) ∧ (ys ++ zs).Perm xs ∧ ys.length = i ∧ Tape b H' a ∧ Kept a H H')
    ⟨[], xs, none, rfl, l1, upd_same, .refl _, rfl, ha.same s12, Kept.of_same s12⟩ ?_ ?_
  · rintro i σ H2 hi ⟨ys, zs, f5, rfl, g1, g2, g3, g4, g5, g6⟩
    have hlen := g3.length_eq
    rw [List.length_append] at hlen
    refine ⟨_, rfl, .inl ⟨rfl, _, SqL.of g2⟩, _, rfl, .inl ⟨rfl, _, SqL.of g1⟩, _, rfl, _, rfl, L, _, rfl, .inl (SqL.of g1), a, b, _, rfl, g5, few200 (by omega), fun r H3 z0 z1 F3 k3 => ?_⟩
    have hr2 : r < zs.length := by
      split at z1 <;> omega
    have hk : r.toNat < zs.length := by omega
    have ey : zs[r.toNat]? = some zs[r.toNat] := List.getElem?_eq_getElem hk
    generalize zs[r.toNat] = y at ey
    refine ⟨L, _, r, r.toNat, _, rfl, rfl, k3 _ _ La g1, by omega, by omega, PySem.seqIndex_of z0 hr2, ey, ?_⟩
    refine ⟨D, ys, _, rfl, rfl, by rw [upd_ne DL]; exact k3 _ _ Da g2, small1000 (by omega), ?_⟩
    refine ⟨ys ++ [y], zs.eraseIdx r.toNat, _, rfl, by rw [upd_ne DL.symm, upd_same], upd_same, perm_take g3 ey, by rw [List.length_append, g4] <;> rfl, (F3.off La Lb).off Da Db, ((g6.trans k3).new hL).new hD0⟩
  · rintro σ H2 ⟨ys, zs, f5, rfl, g1, g2, g3, g4, g5, g6⟩
    exact ⟨_, rfl, k D ys zs H2 hD0 g2 g3 (by omega) g5 g6⟩
end
end Q
set_option Elab.async false
set_option linter.all false
set_option maxRecDepth 100000
set_option maxHeartbeats 4000000
/-! ### _law_names of the tape laws -/
namespace Q
open PySem L2 XD
/-- an old word with a letter put in (d = 0) or put for another one (d = 1) -/
def cand (x : Str) (n d : Nat) (c : Nat) : Str := cutS x none (some (n : Int)) ++ (⟨#[c]⟩ : Str) ++ cutS x (some ((n : Int) + (d : Int))) none
theorem cand_tlx (x : Str) (n d c : Nat) : tlx (cand x n d c) = (tlx x).take n ++ [c] ++ (tlx x).drop (n + d) := by
  unfold cand
  have e3 : tlx (cutS x (some ((n : Int) + (d : Int))) none) = (tlx x).drop (n + d) := tlx_from x (n + d)
  rw [tlx_app, tlx_app, tlx_to, e3, tlx_one]
theorem cand_inj {x : Str} {n d c c' : Nat} (h : cand x n d c = cand x n d c') : c = c' := by
  have e := congrArg tlx h
  rw [cand_tlx, cand_tlx] at e
  have e2 := List.append_cancel_right e
  have e3 := List.append_cancel_left e2
  exact (List.cons.inj e3).1
theorem cand_word {x : Str} {n d c : Nat} (hw : word x = true) (hc : az c = true) (hn : n < x.length) (hd : d ≤ 1) (h8 : d = 0 → x.length < 8) : word (cand x n d c) = true := by
  obtain ⟨w1, w8, wa⟩ := word_iff.mp hw
  have l0 := tlx_len x
  refine word_of (l := (tlx x).take n ++ [c] ++ (tlx x).drop (n + d)) (cand_tlx x n d c) ?_ ?_ ?_
  · simp only [List.length_append, List.length_singleton]
    omega
  · simp only [List.length_append, List.length_singleton, List.length_take, List.length_drop]
    rcases Nat.eq_zero_or_pos d with z | z
    · have := h8 z
      omega
    · omega
  · rw [List.all_append, List.all_append, all_take wa, all_drop wa]
    simp [hc]
theorem letters_all {x : Str} {n d st : Nat} {us : List Str} (h : ∀ i < 26, cand x n d (97 + (st + i) % 26) ∈ us) : 26 ≤ us.length := by
  have nd : ((List.range 26).map fun i => cand x n d (97 + (st + i) % 26)).Nodup := by
    refine List.pairwise_map.mpr (List.Pairwise.imp_of_mem (fun {i j} hi hj hne z => hne ?_) List.nodup_range)
    have hi := List.mem_range.mp hi
    have hj := List.mem_range.mp hj
    have := cand_inj z
    omega
  have := List.Nodup.length_le_of_subset nd (l₂ := us) (fun y hy => by
    obtain ⟨i, hi, rfl⟩ := List.mem_map.mp hy
    exact h i (List.mem_range.mp hi))
  rwa [List.length_map, List.length_range] at this
def spNames : Sp := fun vs H Q _ => ∃ (a b : Addr) (m : Nat), vs = [.ref a, .int m] ∧ Tape b H a ∧ 1 ≤ m ∧ m ≤ 20 ∧
  ∀ (D : Addr) (us : List Str) (H' : Hp), H D = none → H' D = some (.lst (us.map V.str)) → us.length = m → Wds us → Tape b H' a → Kept a H H' → Q (.ref D) H'
abbrev abc : Str := "abcdefghijklmnopqrstuvwxyz"
theorem word_grow {x : Str} {c : Nat} (h : word x = true) (hl : x.length < 8) (hc : az c = true) : word (x ++ (⟨#[c]⟩ : Str)) = true ∧ (x ++ (⟨#[c]⟩ : Str)).length = x.length + 1 := by
  obtain ⟨w1, w8, wa⟩ := word_iff.mp h
  have l0 := tlx_len x
  have e : tlx (x ++ (⟨#[c]⟩ : Str)) = tlx x ++ [c] := by rw [tlx_app, tlx_one]
  refine ⟨word_of e ?_ ?_ ?_, ?_⟩
  · rw [List.length_append, List.length_singleton]
    omega
  · rw [List.length_append, List.length_singleton]
    omega
  · rw [List.all_append, wa]
    simp [hc]
  · rw [← tlx_len, e, List.length_append, List.length_singleton, l0]
theorem word_letter {c : Nat} (hc : az c = true) : word (⟨#[c]⟩ : Str) = true := by
  refine word_of (l := [c]) (tlx_one c) (Nat.le_refl _) (by show 1 ≤ 8; decide) ?_
  simp [hc]
section
variable {P : Program} {w : World} {K : PySem.W.Frag} {mg : Str → Option Value} {base : Heap}
theorem scNamesT : FnScope ["tape", "many", "letters", "name", "k", "names", "old", "at", "start", "longer", "turn", "letter"] ["tape", "many"] (defScope sNames) := ⟨rfl, rfl, rfl, by decide +kernel, rfl, by decide +kernel, by decide +kernel⟩
theorem ok_names {f : Addr} {fd : FuncData} (F : Fun K "_law_names" "_law_names" sNames f fd) (T : BtT mg) (KD : Kn P w K mg base 2 "_law_draw" ["tape", "many"] spDrawT) : FnOk P w K mg base CX0 3 f fd ["tape", "many"] spNames := by
  obtain ⟨fD, fdD, GD, kD, bD, mD⟩ := KD.ex
  refine F.ok scNamesT (fun vs H Q E h => ?_) (fun cdv A outer s H vs Q E hr h => ?_)
  · obtain ⟨a, b, m, rfl, _⟩ := h
    rfl
  obtain ⟨a, b, m, rfl, ha, h1, h20, k⟩ := h
  refine ⟨_, pss_cons (ps_set (i := 2) scNamesT.nd rfl (.inl rfl) pe_str)
    (pss_cons (ps_set (i := 3) scNamesT.nd rfl (.inl rfl) (pe_ix ix_str (pv 2) (pe_call GD hr rfl mD kD bD .nil pass0 (pa_cons (pv 0) (pa_cons pe_int pa_nil))) (fun _ _ => rfl)))
    (pss_cons (ps_for PassesOwn.never rfl (pi_range1 rfl T.range (pa_cons (pe_call GD hr rfl mD kD bD .nil pass0 (pa_cons (pv 0) (pa_cons pe_int pa_nil))) pa_nil)) (pg_name (i := 4) scNamesT.nd rfl (.inl rfl))
      (pss_one (ps_set (i := 3) scNamesT.nd rfl (.inl rfl) (pe_op op_add_str (pv 3) (pe_ix ix_str (pv 2) (pe_call GD hr rfl mD kD bD .nil pass0 (pa_cons (pv 0) (pa_cons pe_int pa_nil))) (fun _ _ => rfl))))))
    (pss_cons (ps_set (i := 5) scNamesT.nd rfl (.inl rfl) (pe_lst (pa_cons (pv 3) pa_nil)))
    (pss_cons (ps_for PassesOwn.never rfl (pi_range2 rfl T.range (pa_cons pe_int (pa_cons (pv 1) pa_nil))) (pg_name (i := 4) scNamesT.nd rfl (.inl rfl))
      (pss_cons (ps_set (i := 6) scNamesT.nd rfl (.inl rfl) (pe_ix ix_list (pv 5) (pe_call GD hr rfl mD kD bD .nil pass0 (pa_cons (pv 0) (pa_cons (pv 4) pa_nil))) (fun _ _ => rfl)))
      (pss_cons (ps_set (i := 7) scNamesT.nd rfl (.inl rfl) (pe_call GD hr rfl mD kD bD .nil pass0 (pa_cons (pv 0) (pa_cons (pe_callB call_len_str rfl T.len PySem.boot_len (pa_cons (pv 6) pa_nil)) pa_nil))))
      (pss_cons (ps_set (i := 8) scNamesT.nd rfl (.inl rfl) (pe_call GD hr rfl mD kD bD .nil pass0 (pa_cons (pv 0) (pa_cons pe_int pa_nil))))
      (pss_cons (ps_set (i := 9) scNamesT.nd rfl (.inl rfl) (pe_and (pe_cmpR op_lt (pe_callB call_len_str rfl T.len PySem.boot_len (pa_cons (pv 6) pa_nil)) pe_int (nomark _)) (pe_one (pe_cmpR op_eq (pe_call GD hr rfl mD kD bD .nil pass0 (pa_cons (pv 0) (pa_cons pe_int pa_nil))) pe_int (nomark _)))))
      (pss_cons (ps_for PassesOwn.never rfl (pi_range1 rfl T.range (pa_cons pe_int pa_nil)) (pg_name (i := 10) scNamesT.nd rfl (.inl rfl))
        (pss_cons (ps_set (i := 11) scNamesT.nd rfl (.inl rfl) (pe_ix ix_str (pv 2) (pe_op op_mod (pe_callTy call_int1 rfl T.int (by decide +kernel) (pa_cons (pe_op op_add (pv 8) (pv 10)) pa_nil)) pe_int) (fun _ _ => rfl)))
        (pss_cons (ps_set (i := 3) scNamesT.nd rfl (.inl rfl) (pe_op op_add_str (pe_op op_add_str (pe_slice sl_str (pv 6) po_none (po_some (pv 7))) (pv 11)) (pe_slice sl_str (pv 6) (po_some (pe_op op_add (pv 7) (pe_callTy call_int1 rfl T.int (by decide +kernel) (pa_cons (pe_not (pv 9)) pa_nil)))) po_none)))
        (pss_one (ps_if (pt_cmpR op_notIn_seq (pv 3) (pv 5) (by with_unfolding_all rfl)) (pss_one ps_break) pss_nil)))))
      (pss_one (ps_expr (pe_bm PySem.F.plainAttrs_list PySem.F.slot_list_append PySem.F.type_list_append mt_append (pv 5) (pa_cons (pv 3) pa_nil))))))))))
    (pss_one (ps_ret (pv 5))))))), ?_⟩
  have lim26 : (if (26 : Int) > 1 then (26 : Int) else 1) = 26 := by decide
  have lim8 : (if (8 : Int) > 1 then (8 : Int) else 1) = 8 := by decide
  refine ⟨_, rfl, _, rfl, a, b, 26, rfl, ha, by decide, fun r H1 r0 r1 F1 k1 => ?_⟩
  rw [lim26] at r1
  obtain ⟨n, rfl⟩ : ∃ n : Nat, r = (n : Int) := ⟨r.toNat, by omega⟩
  obtain ⟨e1, e2⟩ := abc_at n (by omega)
  refine ⟨_, _, _, rfl, rfl, (by show 26 ≤ sizeLine; decide), e1, ?_⟩
  refine ⟨_, rfl, a, b, 8, rfl, F1, by decide, fun r H2 z0 z1 F2 k2 => ?_⟩
  rw [lim8] at z1
  obtain ⟨l, rfl⟩ : ∃ l : Nat, r = (l : Int) := ⟨r.toNat, by omega⟩
  refine ⟨_, rfl, i62a l, i62b (by omega), ?_⟩
  rw [Int.toNat_natCast]
  refine for_range (lo := 0) (n := l) (fun i σ H' => ∃ (x : Str) (f4 : Option V), σ = [some (.ref a), some (.int m), some (.str abc), some (.str x), f4, none, none, none, none, none, none, none] ∧ word x = true ∧ x.length = 1 + i ∧ Tape b H' a ∧ Kept a H H')
    ⟨_, none, rfl, word_letter e2, one_len _, F2, k1.trans k2⟩ ?_ ?_
  · rintro i σ H3 hi ⟨x, f4, rfl, g1, g2, g3, g4⟩
    refine ⟨_, rfl, _, rfl, _, rfl, a, b, 26, rfl, g3, by decide, fun r H4 y0 y1 F4 k4 => ?_⟩
    rw [lim26] at y1
    obtain ⟨c, rfl⟩ : ∃ c : Nat, r = (c : Int) := ⟨r.toNat, by omega⟩
    obtain ⟨e3, e4⟩ := abc_at c (by omega)
    obtain ⟨q1, q2⟩ := word_grow g1 (by omega) e4
    refine ⟨_, _, _, rfl, rfl, (by show 26 ≤ sizeLine; decide), e3, _, _, rfl, rfl, le_line (by rw [one_len]; omega), ?_⟩
    exact ⟨_, _, rfl, q1, by omega, F4, g4.trans k4⟩
  rintro σ H3 ⟨x, f4, rfl, g1, g2, g3, g4⟩
  refine ⟨_, rfl, (by show 1 ≤ sizeLine; decide), fun D hD => ?_⟩
  obtain ⟨Da, Db⟩ := g3.ne hD
  have hD0 : H D = none := by
    cases q : H D with
    | none => rfl
    | some o =>
      rw [g4 _ _ Da q] at hD
      cases hD
  refine ⟨_, rfl, _, _, rfl, ⟨by decide, by decide, i62a m, i62b (by omega)⟩, ?_⟩
  have em : ((m : Int) - 1).toNat = m - 1 := by omega
  rw [em]
  refine for_range (lo := 1) (n := m - 1) (fun i σ H' => ∃ (us : List Str) (f3 f4 f6 f7 f8 f9 f10 f11 : Option V), σ = [some (.ref a), some (.int m), some (.str abc), f3, f4, some (.ref D), f6, f7, f8, f9, f10, f11] ∧ H' D = some (.lst (us.map V.str)) ∧ us.length = 1 + i ∧ Wds us ∧ Tape b H' a ∧ Kept a H H')
    ⟨[x], _, _, _, _, _, _, _, _, rfl, upd_same, rfl, ⟨List.nodup_cons.mpr ⟨List.not_mem_nil, List.nodup_nil⟩, fun y hy => by rw [List.mem_singleton.mp hy]; exact g1⟩, g3.same (new_same hD _), g4.new hD0⟩ ?_ ?_
  · rintro i σ H4 hi ⟨us, f3, f4, f6, f7, f8, f9, f10, f11, rfl, u1, u2, u3, u4, u5⟩
    have ei : (1 : Int) + (i : Int) = ((1 + i : Nat) : Int) := by omega
    rw [ei]
    refine ⟨_, rfl, _, rfl, _, rfl, a, b, _, rfl, u4, few200 (by omega), fun r H5 y0 y1 F5 k5 => ?_⟩
    have hr : r.toNat < us.length := by
      split at y1 <;> omega
    have eo : (us.map V.str)[r.toNat]? = some (.str us[r.toNat]) := by rw [List.getElem?_map, List.getElem?_eq_getElem hr] <;> rfl
    have ow : word us[r.toNat] = true := u3.2 _ (List.getElem_mem hr)
    generalize us[r.toNat] = old at eo ow
    have d5 := k5 D _ Da u1
    refine ⟨D, _, _, _, rfl, rfl, SqL.of d5, at_of (by omega : r = ((r.toNat : Nat) : Int)) eo, ?_⟩
    have o8 := word_len ow
    have o1 : 1 ≤ old.length := by
      have := (word_iff.mp ow).1
      rwa [tlx_len] at this
    refine ⟨_, rfl, _, rfl, old, rfl, le_line (by omega), a, b, _, rfl, F5, few200 (by omega), fun r2 H6 w0 w1 F6 k6 => ?_⟩
    obtain ⟨at_, rfl⟩ : ∃ c : Nat, r2 = (c : Int) := ⟨r2.toNat, by omega⟩
    have hat : at_ < old.length := by
      split at w1 <;> omega
    refine ⟨_, rfl, a, b, 26, rfl, F6, by decide, fun r3 H7 v0 v1 F7 k7 => ?_⟩
    rw [lim26] at v1
    obtain ⟨st, rfl⟩ : ∃ c : Nat, r3 = (c : Int) := ⟨r3.toNat, by omega⟩
    have k57 := (k5.trans k6).trans k7
    dsimp only
    refine seq_cut (fun σ H' => ∃ (lg : Bool), σ = [some (.ref a), some (.int m), some (.str abc), f3, some (.int ((1 + i : Nat) : Int)), some (.ref D), some (.str old), some (.int at_), some (.int st), some (.bl lg), f10, f11] ∧ (lg = true → old.length < 8) ∧ H' D = some (.lst (us.map V.str)) ∧ Tape b H' a ∧ Kept a H H') ?_ (fun join => ?_)
    · clear u1 u4 u5 F5 k5 d5 F6 k6 F7 k7 k57
      rintro σ H8 ⟨lg, rfl, hlg, u1, u4, u5⟩
      refine seq_cut (fun σ H' => H' = H8 ∧ ∃ (y : Str) (f10 f11 : Option V), σ = [some (.ref a), some (.int m), some (.str abc), some (.str y), some (.int ((1 + i : Nat) : Int)), some (.ref D), some (.str old), some (.int at_), some (.int st), some (.bl lg), f10, f11] ∧ word y = true ∧ y ∉ us) ?_ (fun join => ?_)
      · rintro σ H9 ⟨rfl, y, f10, f11, rfl, hy, hnew⟩
        refine ⟨_, rfl, .inl ⟨rfl, _, SqL.of u1⟩, _, rfl, D, _, _, rfl, rfl, u1, small1000 (by rw [List.length_map]; omega), ?_⟩
        refine ⟨us ++ [y], _, _, _, _, _, _, _, _, rfl, ?_, ?_, ⟨?_, ?_⟩, u4.off Da Db, u5.new hD0⟩
        · rw [upd_same, List.map_append] <;> rfl
        · rw [List.length_append, u2] <;> rfl
        · exact List.nodup_append.mpr ⟨u3.1, List.nodup_cons.mpr ⟨List.not_mem_nil, List.nodup_nil⟩, fun x hx y' hy' z => by rw [List.mem_singleton.mp hy'] at z; exact hnew (z ▸ hx)⟩
        · intro x hx
          rcases List.mem_append.mp hx with hx | hx
          · exact u3.2 x hx
          · rw [List.mem_singleton.mp hx]
            exact hy
      · obtain ⟨d, ed, hd1, hd8⟩ : ∃ d : Nat, (if (!lg) = true then (1 : Int) else 0) = (d : Int) ∧ d ≤ 1 ∧ (d = 0 → old.length < 8) := by
          cases lg with
          | true => exact ⟨0, rfl, by decide, fun _ => hlg rfl⟩
          | false => exact ⟨1, rfl, by decide, fun z => by cases z⟩
        refine ⟨_, rfl, by decide, by decide, for_range (lo := 0) (n := 26) (fun j σ H' => H' = H8 ∧ ∃ (f3 f10 f11 : Option V), σ = [some (.ref a), some (.int m), some (.str abc), f3, some (.int ((1 + i : Nat) : Int)), some (.ref D), some (.str old), some (.int at_), some (.int st), some (.bl lg), f10, f11] ∧ ∀ i < j, cand old at_ d (97 + (st + i) % 26) ∈ us) ⟨rfl, _, _, _, rfl, fun i hi => absurd hi (Nat.not_lt_zero i)⟩ ?_ ?_⟩
        · rintro j σ H9 hj ⟨rfl, f3, f10, f11, rfl, ht⟩
          have ec : ((st : Int) + (0 + (j : Int))) % 26 = (((st + j) % 26 : Nat) : Int) := by omega
          obtain ⟨e3, e4⟩ := abc_at ((st + j) % 26) (Nat.mod_lt _ (by decide))
          refine ⟨_, rfl, _, rfl, _, rfl, _, _, rfl, rfl, .inl ⟨_, rfl, _, _, rfl, rfl, (by show (0 : Int) < 26; decide), ?_⟩⟩
          dsimp only
          rw [ec]
          refine ⟨_, _, _, rfl, rfl, (by show 26 ≤ sizeLine; decide), e3, ?_⟩
          have c1 := cutS_short old none (some (at_ : Int))
          have c2 := cutS_short old (some ((at_ : Int) + (d : Int))) none
          refine ⟨_, rfl, _, rfl, _, rfl, old, rfl, le_line (by omega), _, rfl, _, _, rfl, rfl, le_line (by rw [one_len]; omega), _, rfl, _, rfl, _, rfl, lg, rfl, .inr ⟨_, rfl, _, _, rfl, rfl, ?_⟩⟩
          dsimp only
          rw [ed]
          refine ⟨_, rfl, old, rfl, le_line (by omega), ?_⟩
          refine ⟨_, _, rfl, rfl, le_line ?_, ?_⟩
          · rw [← tlx_len, tlx_app, List.length_append, tlx_len, tlx_len, one_len]
            omega
          refine ⟨_, rfl, _, rfl, D, _, rfl, .inl (SqL.of u1), rfl, flat_words us, _, rfl, ?_⟩
          show if (!(inV (.str (cand old at_ d (97 + (st + j) % 26))) (us.map V.str))) = true then _ else _
          rw [in_words]
          by_cases hin : cand old at_ d (97 + (st + j) % 26) ∈ us
          · rw [decide_eq_true hin]
            refine iteF ⟨rfl, _, _, _, rfl, fun i hi => ?_⟩
            rcases Nat.lt_succ_iff_lt_or_eq.mp hi with h | h
            · exact ht i h
            · rw [h]
              exact hin
          · rw [decide_eq_false hin]
            refine iteT (join _ _ ⟨rfl, _, _, _, rfl, cand_word ow e4 hat hd1 hd8, hin⟩)
        · rintro σ H9 ⟨rfl, f3, f10, f11, rfl, ht⟩
          have := letters_all ht
          omega
    · refine ⟨_, rfl, old, rfl, le_line (by omega), _, _, rfl, rfl, _, rfl, ?_⟩
      refine iteB (fun e => ?_) (fun _ => join _ _ ⟨false, rfl, (fun z => by cases z), k57 _ _ Da u1, F7, u5.trans k57⟩)
      have hl : old.length < 8 := by
        have := of_decide_eq_true e
        omega
      refine ⟨_, rfl, a, b, 2, rfl, F7, by decide, fun r4 H8 _ _ F8 k8 => ⟨rfl, ?_⟩⟩
      exact join _ _ ⟨_, rfl, fun _ => hl, k8 _ _ Da (k57 _ _ Da u1), F8, (u5.trans k57).trans k8⟩
  · rintro σ H4 ⟨us, f3, f4, f6, f7, f8, f9, f10, f11, rfl, u1, u2, u3, u4, u5⟩
    exact ⟨_, rfl, k D us H4 hD0 u1 (by omega) u3 u4 u5⟩
end
end Q
set_option Elab.async false
set_option linter.all false
set_option maxRecDepth 100000
set_option maxHeartbeats 4000000
/-! ### _law_same of the tape laws, by a loop -/
namespace Q
open PySem L2 XD
section
variable {P : Program} {w : World} {K : PySem.W.Frag} {mg : Str → Option Value} {base : Heap}
theorem scSame : FnScope ["actual", "due", "k"] ["actual", "due"] (defScope sSame) := ⟨rfl, rfl, rfl, by decide +kernel, rfl, by decide +kernel, by decide +kernel⟩
theorem same_none {f : Addr} {fd : FuncData} : FnOk P w K mg base CX0 0 f fd ["actual", "due"] (spSame K 0) := by
  have no : ∀ vs H Q E, ¬ spSame K 0 vs H Q E := fun vs H Q E h => by
    obtain ⟨v, u, d, _, _, _, z, _⟩ := h
    exact z
  exact ⟨fun vs H Q E h => absurd h (no vs H Q E), fun A outer s H args us vs Q E _ _ _ _ h => absurd h (no vs H Q E)⟩
theorem ok_same {f : Addr} {fd : FuncData} {n : Nat} (F : Fun K "_law_same" "_law_same" sSame f fd) (T : Bs mg) (G : FnOk P w K mg base CX0 n f fd ["actual", "due"] (spSame K n)) (bG : Binds K fd ["actual", "due"] []) (mG : mg "_law_same" = some (.ref f)) :
    FnOk P w K mg base CX0 (n + 1) f fd ["actual", "due"] (spSame K (n + 1)) := by
  refine F.ok scSame (fun vs H Q E h => ?_) (fun cdv A outer s H vs Q E hr h => ?_)
  · obtain ⟨v, u, d, rfl, _⟩ := h
    rfl
  obtain ⟨v, u, d, rfl, h1, h2, hd, k⟩ := h
  have vt : PySem.bootBuiltins "tuple" = some (.type "tuple") := by decide +kernel
  have vl : PySem.bootBuiltins "list" = some (.type "list") := by decide +kernel
  have vs_ : PySem.bootBuiltins "str" = some (.type "str") := by decide +kernel
  have vb : PySem.bootBuiltins "bool" = some (.type "bool") := by decide +kernel
  have vi : PySem.bootBuiltins "int" = some (.type "int") := by decide +kernel
  refine ⟨_, pss_cons (ps_if (PW.pt (pw_or (pt_val (pe_isi T.isi T.tup vt (pv 1))) (pw_or1 (pt_val (pe_isi T.isi T.list vl (pv 1))))))
      (pss_cons (ps_if (PW.pt (pw_or (pt_cmpR op_ne (pe_isi T.isi T.tup vt (pv 1)) (pe_isi T.isi T.tup vt (pv 0)) (nomark _)) (pw_or1 (pt_cmpR op_ne (pe_isi T.isi T.list vl (pv 1)) (pe_isi T.isi T.list vl (pv 0)) (nomark _)))))
        (pss_one (ps_ret pe_bl)) pss_nil)
      (pss_cons (ps_if (pt_cmpR op_ne (pe_callB call_len_seq rfl T.len PySem.boot_len (pa_cons (pv 0) pa_nil)) (pe_callB call_len_seq rfl T.len PySem.boot_len (pa_cons (pv 1) pa_nil)) (nomark _)) (pss_one (ps_ret pe_bl)) pss_nil)
      (pss_cons (ps_for PassesOwn.never rfl (pi_range1 rfl T.range (pa_cons (pe_callB call_len_seq rfl T.len PySem.boot_len (pa_cons (pv 1) pa_nil)) pa_nil)) (pg_name (i := 2) scSame.nd rfl (.inl rfl))
        (pss_one (ps_if (pt_not (pt_val (pe_call G hr rfl mG F.kp bG .nil pass0 (pa_cons (pe_ix (ix_both K rfl) (pv 0) (pv 2) (fun _ _ => rfl)) (pa_cons (pe_ix (ix_both K rfl) (pv 1) (pv 2) (fun _ _ => rfl)) pa_nil))))) (pss_one (ps_ret pe_bl)) pss_nil)))
      (pss_one (ps_ret pe_bl))))) pss_nil)
    (pss_cons (ps_if (pt_cmp (pc_isN (pv 1))) (pss_one (ps_ret (pe_cmp (pc_isN (pv 0))))) pss_nil)
    (pss_cons (ps_if (pt_val (pe_isi T.isi T.bool vb (pv 1))) (pss_one (ps_ret (pe_and (pe_isi T.isi T.bool vb (pv 0)) (pe_one (pe_cmpR op_eq (pv 0) (pv 1) (nomark _)))))) pss_nil)
    (pss_cons (ps_if (pt_val (pe_isi T.isi T.str vs_ (pv 1))) (pss_one (ps_ret (pe_and (pe_isi T.isi T.str vs_ (pv 0)) (pe_one (pe_cmpR op_eq (pv 0) (pv 1) (nomark _)))))) pss_nil)
    (pss_one (ps_ret (pe_and (pe_isi T.isi T.int vi (pv 0)) (pe_and (pe_not (pe_isi T.isi T.bool vb (pv 0))) (pe_one (pe_cmpR op_eq (pv 0) (pv 1) (nomark _)))))))))), ?_⟩
  cases d with
  | dict kvs => exact absurd rfl (dp_no_dict h1 kvs)
  | none =>
    cases h1
    cases h2
    refine ⟨_, rfl, _, _, _, _, _, rfl, .ty _, .base .non, kit_ty (r := false) (by decide +kernel), _, rfl, iteF ⟨_, rfl, _, _, _, _, _, rfl, .ty _, .base .non, kit_ty (r := false) (by decide +kernel), _, rfl, iteF ?_⟩⟩
    exact ⟨_, rfl, _, rfl, iteDT rfl ⟨_, rfl, q_is (decide_eq_true rfl) (k H (Same.refl H))⟩⟩
  | str x =>
    cases h1
    cases h2
    refine ⟨_, rfl, _, _, _, _, _, rfl, .ty _, .base (.str x), kit_ty (r := false) (by decide +kernel), _, rfl, iteF ⟨_, rfl, _, _, _, _, _, rfl, .ty _, .base (.str x), kit_ty (r := false) (by decide +kernel), _, rfl, iteF ?_⟩⟩
    refine ⟨_, rfl, _, rfl, iteDF (by intro z; cases z) ⟨_, rfl, _, _, _, _, _, rfl, .ty _, .base (.str x), kit_ty (r := false) (by decide +kernel), _, rfl, iteF ?_⟩⟩
    refine ⟨_, rfl, _, _, _, _, _, rfl, .ty _, .base (.str x), kit_ty (r := true) (by decide +kernel), _, rfl, iteT ?_⟩
    exact ⟨_, rfl, _, _, _, _, _, rfl, .ty _, .base (.str x), kit_ty (r := true) (by decide +kernel), _, rfl, iteT ⟨_, rfl, _, rfl, rfl, q_is (decide_eq_true rfl) (k H (Same.refl H))⟩⟩
  | bool b =>
    cases h1
    cases h2
    refine ⟨_, rfl, _, _, _, _, _, rfl, .ty _, .base (.bl b), kit_ty (r := false) (by decide +kernel), _, rfl, iteF ⟨_, rfl, _, _, _, _, _, rfl, .ty _, .base (.bl b), kit_ty (r := false) (by decide +kernel), _, rfl, iteF ?_⟩⟩
    refine ⟨_, rfl, _, rfl, iteDF (by intro z; cases z) ⟨_, rfl, _, _, _, _, _, rfl, .ty _, .base (.bl b), kit_ty (r := true) (by decide +kernel), _, rfl, iteT ?_⟩⟩
    exact ⟨_, rfl, _, _, _, _, _, rfl, .ty _, .base (.bl b), kit_ty (r := true) (by decide +kernel), _, rfl, iteT ⟨_, rfl, _, rfl, rfl, q_is (decide_eq_true rfl) (k H (Same.refl H))⟩⟩
  | int i =>
    cases h1
    cases h2
    refine ⟨_, rfl, _, _, _, _, _, rfl, .ty _, .base (.int i), kit_ty (r := false) (by decide +kernel), _, rfl, iteF ⟨_, rfl, _, _, _, _, _, rfl, .ty _, .base (.int i), kit_ty (r := false) (by decide +kernel), _, rfl, iteF ?_⟩⟩
    refine ⟨_, rfl, _, rfl, iteDF (by intro z; cases z) ⟨_, rfl, _, _, _, _, _, rfl, .ty _, .base (.int i), kit_ty (r := false) (by decide +kernel), _, rfl, iteF ?_⟩⟩
    refine ⟨_, rfl, _, _, _, _, _, rfl, .ty _, .base (.int i), kit_ty (r := false) (by decide +kernel), _, rfl, iteF ?_⟩
    refine ⟨_, rfl, _, _, _, _, _, rfl, .ty _, .base (.int i), kit_ty (r := true) (by decide +kernel), _, rfl, iteT ?_⟩
    exact ⟨_, rfl, _, _, _, _, _, rfl, .ty _, .base (.int i), kit_ty (r := false) (by decide +kernel), _, rfl, _, rfl, iteT ⟨_, rfl, _, rfl, rfl, q_is (decide_eq_true rfl) (k H (Same.refl H))⟩⟩
  | list xs =>
    have t1 : TyX K H v (.type "list") := tyD h1
    have t2 : TyX K H u (.type "list") := tyD h2
    obtain ⟨p, ys, rfl, hp, ha⟩ : ∃ p ys, v = .ref p ∧ SqL K H p ys ∧ DpAll K H ys xs := by
      cases h1 with
      | lst a b => exact ⟨_, _, rfl, a, b⟩
    obtain ⟨q, zs, rfl, hq, hb⟩ : ∃ p ys, u = .ref p ∧ SqL K H p ys ∧ DpAll K H ys xs := by
      cases h2 with
      | lst a b => exact ⟨_, _, rfl, a, b⟩
    refine ⟨_, rfl, _, _, _, _, _, rfl, .ty _, t2, kit_ty (r := false) (by decide +kernel), _, rfl, iteF ⟨_, rfl, _, _, _, _, _, rfl, .ty _, t2, kit_ty (r := true) (by decide +kernel), _, rfl, iteT ?_⟩⟩
    refine ⟨_, rfl, _, _, _, _, _, rfl, .ty _, t2, kit_ty (r := false) (by decide +kernel), _, rfl, _, _, _, _, _, rfl, .ty _, t1, kit_ty (r := false) (by decide +kernel), rfl, _, rfl, iteNS rfl ?_⟩
    refine ⟨_, rfl, _, _, _, _, _, rfl, .ty _, t2, kit_ty (r := true) (by decide +kernel), _, rfl, _, _, _, _, _, rfl, .ty _, t1, kit_ty (r := true) (by decide +kernel), rfl, _, rfl, iteNS rfl ?_⟩
    have hp : SqL K H p ys ∨ SqT K H p ys := .inl hp
    have hq : SqL K H q zs ∨ SqT K H q zs := .inl hq
    obtain ⟨hl, hm⟩ := hd xs rfl
    have l1 := dps_len ha
    have l2 := dps_len hb
    refine ⟨_, rfl, _, _, rfl, hp, _, rfl, _, _, rfl, hq, rfl, _, rfl, iteNS (by rw [l1, l2, decide_eq_true rfl] <;> rfl) ?_⟩
    refine ⟨_, rfl, _, _, rfl, hq, _, rfl, i62a _, i62b (by omega), ?_⟩
    rw [l2]
    refine for_range (lo := 0) (n := xs.length) (fun i σ H' => ∃ f2 : Option V, σ = [some (.ref p), some (.ref q), f2] ∧ Same H H') ⟨none, rfl, Same.refl H⟩ ?_ ?_
    · rintro i σ H' hi ⟨f2, rfl, s5⟩
      obtain ⟨x, y, e, g1, g2, g3, g4, g5⟩ := dps_get2 ha hb hi
      have ei : (0 : Int) + (i : Int) = ((i : Nat) : Int) := by omega
      exact ⟨_, rfl, _, rfl, ix_row (sq_same s5 hp) (at_of ei g1) ⟨_, rfl, _, rfl, ix_row (sq_same s5 hq) (at_of ei g2) ⟨x, y, e, rfl, dp_same s5 g4, dp_same s5 g5, hm e (List.mem_of_getElem? g3), fun H2 s6 => ⟨_, rfl, iteNS rfl ⟨_, rfl, s5.trans s6⟩⟩⟩⟩⟩
    · rintro σ H' ⟨f2, rfl, s5⟩
      exact k H' s5
  | tuple xs =>
    have t1 : TyX K H v (.type "tuple") := tyD h1
    have t2 : TyX K H u (.type "tuple") := tyD h2
    obtain ⟨p, ys, rfl, hp, ha⟩ : ∃ p ys, v = .ref p ∧ SqT K H p ys ∧ DpAll K H ys xs := by
      cases h1 with
      | tup a b => exact ⟨_, _, rfl, a, b⟩
    obtain ⟨q, zs, rfl, hq, hb⟩ : ∃ p ys, u = .ref p ∧ SqT K H p ys ∧ DpAll K H ys xs := by
      cases h2 with
      | tup a b => exact ⟨_, _, rfl, a, b⟩
    refine ⟨_, rfl, _, _, _, _, _, rfl, .ty _, t2, kit_ty (r := true) (by decide +kernel), _, rfl, iteT (iteT ?_)⟩
    refine ⟨_, rfl, _, _, _, _, _, rfl, .ty _, t2, kit_ty (r := true) (by decide +kernel), _, rfl, _, _, _, _, _, rfl, .ty _, t1, kit_ty (r := true) (by decide +kernel), rfl, _, rfl, iteNS rfl ?_⟩
    refine ⟨_, rfl, _, _, _, _, _, rfl, .ty _, t2, kit_ty (r := false) (by decide +kernel), _, rfl, _, _, _, _, _, rfl, .ty _, t1, kit_ty (r := false) (by decide +kernel), rfl, _, rfl, iteNS rfl ?_⟩
    have hp : SqL K H p ys ∨ SqT K H p ys := .inr hp
    have hq : SqL K H q zs ∨ SqT K H q zs := .inr hq
    obtain ⟨hl, hm⟩ := hd xs rfl
    have l1 := dps_len ha
    have l2 := dps_len hb
    refine ⟨_, rfl, _, _, rfl, hp, _, rfl, _, _, rfl, hq, rfl, _, rfl, iteNS (by rw [l1, l2, decide_eq_true rfl] <;> rfl) ?_⟩
    refine ⟨_, rfl, _, _, rfl, hq, _, rfl, i62a _, i62b (by omega), ?_⟩
    rw [l2]
    refine for_range (lo := 0) (n := xs.length) (fun i σ H' => ∃ f2 : Option V, σ = [some (.ref p), some (.ref q), f2] ∧ Same H H') ⟨none, rfl, Same.refl H⟩ ?_ ?_
    · rintro i σ H' hi ⟨f2, rfl, s5⟩
      obtain ⟨x, y, e, g1, g2, g3, g4, g5⟩ := dps_get2 ha hb hi
      have ei : (0 : Int) + (i : Int) = ((i : Nat) : Int) := by omega
      exact ⟨_, rfl, _, rfl, ix_row (sq_same s5 hp) (at_of ei g1) ⟨_, rfl, _, rfl, ix_row (sq_same s5 hq) (at_of ei g2) ⟨x, y, e, rfl, dp_same s5 g4, dp_same s5 g5, hm e (List.mem_of_getElem? g3), fun H2 s6 => ⟨_, rfl, iteNS rfl ⟨_, rfl, s5.trans s6⟩⟩⟩⟩⟩
    · rintro σ H' ⟨f2, rfl, s5⟩
      exact k H' s5
/-- the recursion, to any depth -/
theorem same_all {f : Addr} {fd : FuncData} (F : Fun K "_law_same" "_law_same" sSame f fd) (T : Bs mg) (bG : Binds K fd ["actual", "due"] []) (mG : mg "_law_same" = some (.ref f)) :
    ∀ n : Nat, FnOk P w K mg base CX0 n f fd ["actual", "due"] (spSame K n)
  | 0 => same_none
  | n + 1 => ok_same F T (same_all F T bG mG n) bG mG
end
end Q
set_option Elab.async false
set_option linter.all false
set_option maxRecDepth 100000
set_option maxHeartbeats 4000000
/-! ### _bars, _one_stands -/
namespace Q
open PySem L2 XD
/-- a tuple of pairs -/
def LotAt (K : PySem.W.Frag) (H : Hp) (p : Addr) (l : List Pr) : Prop := ∃ qs : List Addr, SqT K H p (qs.map V.ref) ∧ Paired (fun q (e : Pr) => SqT K H q [.str e.1, .str e.2]) qs l
def LotsAt (K : PySem.W.Frag) (H : Hp) (z : Addr) (ls : List (List Pr)) : Prop := ∃ ps : List Addr, SqL K H z (ps.map V.ref) ∧ Paired (LotAt K H) ps ls
theorem LotAt.same {K : PySem.W.Frag} {H H' : Hp} {p : Addr} {l : List Pr} (s : Same H H') (h : LotAt K H p l) : LotAt K H' p l := by
  obtain ⟨qs, a, b⟩ := h
  exact ⟨qs, seqT_same s a, prd_same s b⟩
theorem LotsAt.same {K : PySem.W.Frag} {H H' : Hp} {p : Addr} {l : List (List Pr)} (s : Same H H') (h : LotsAt K H p l) : LotsAt K H' p l := by
  obtain ⟨qs, a, b⟩ := h
  exact ⟨qs, s.seq a, prd_imp (fun _ _ z => z.same s) b⟩
theorem pairs_dps {K : PySem.W.Frag} {H : Hp} : ∀ {qs : List Addr} {l : List Pr}, Paired (fun q (e : Pr) => SqT K H q [.str e.1, .str e.2]) qs l → DpAll K H (qs.map V.ref) (l.map fun e => .tuple [.str e.1, .str e.2])
  | _, _, .nil => .nil
  | _, _, .cons a b => .cons (.tup a (.cons (.str _) (.cons (.str _) .nil))) (pairs_dps b)
theorem LotAt.dp {K : PySem.W.Frag} {H : Hp} {p : Addr} {l : List Pr} (h : LotAt K H p l) : Dp K H (.ref p) (ruleD l) := by
  obtain ⟨qs, a, b⟩ := h
  exact .tup a (pairs_dps b)
theorem rule_lot {K : PySem.W.Frag} {H : Hp} {p : Addr} {l : List Pr} (h : RuleAt K H p l) : LotAt K H p l := by
  obtain ⟨qs, a, b⟩ := h
  exact ⟨qs, a.sqT, b⟩
abbrev pD (e : Pr) : PyData := .tuple [.str e.1, .str e.2]
theorem pD_dp {K : PySem.W.Frag} {H : Hp} {q : Addr} {e : Pr} (h : SqT K H q [.str e.1, .str e.2]) : Dp K H (.ref q) (pD e) := .tup h (.cons (.str _) (.cons (.str _) .nil))
theorem eqv_pD (a b : Pr) : PyData.eqv (pD a) (pD b) = decide (a = b) := by
  obtain ⟨n, w⟩ := a
  obtain ⟨m, v⟩ := b
  rw [PyData.eqv, PyData.eqvAll, PyData.eqvAll, PyData.eqvAll, PyData.eqv, PyData.eqv]
  by_cases h1 : n = m
  · by_cases h2 : w = v
    · rw [decide_eq_true (show ((n, w) : Pr) = (m, v) by rw [h1, h2])]
      simp [h1, h2]
    · rw [decide_eq_false (show ¬ ((n, w) : Pr) = (m, v) from fun z => h2 (Prod.mk.inj z).2)]
      simp [h2]
  · rw [decide_eq_false (show ¬ ((n, w) : Pr) = (m, v) from fun z => h1 (Prod.mk.inj z).1)]
    simp [h1]
theorem pD_shaped {e : Pr} (h : PyData.strOk e.1 = true ∧ PyData.strOk e.2 = true) : SeqAt.shaped (pD e) = true := by
  unfold SeqAt.shaped
  rw [Bool.and_eq_true]
  refine ⟨?_, decide_eq_true ?_⟩
  · simp [PyData.canLay0, PyData.canLayAll0, h.1, h.2]
  · simp [PyData.depth, PyData.depthAll]
theorem any_pD (l : List Pr) (p : Pr) : ((l.map pD).any fun z => PyData.eqv z (pD p)) = decide (p ∈ l) := by
  rw [List.any_map, Bool.eq_iff_iff, List.any_eq_true, decide_eq_true_iff]
  constructor
  · rintro ⟨x, hx, e⟩
    have e2 : PyData.eqv (pD x) (pD p) = true := e
    rw [eqv_pD] at e2
    rw [← of_decide_eq_true e2]
    exact hx
  · intro h
    refine ⟨p, h, ?_⟩
    show PyData.eqv (pD p) (pD p) = true
    rw [eqv_pD]
    exact decide_eq_true rfl
/-- what is known of the form's places -/
structure Fk (P : Program) (w : World) (K : PySem.W.Frag) (mg : Str → Option Value) (base : Heap) (C : Addr) : Prop where
  fc : Fc K mg C
  gf : ∃ f fd, FnOk P w K mg base CX0 1 f fd ["self"] (spGet K C false) ∧ Binds K fd ["self"] [] ∧ Meth K C "fields" f
  gr : ∃ f fd, FnOk P w K mg base CX0 1 f fd ["self"] (spGet K C true) ∧ Binds K fd ["self"] [] ∧ Meth K C "rules" f
theorem noF {l z : Addr} : List.lookup ("fields" : Str) [(("_fields" : Str), V.ref l), (("_rules" : Str), V.ref z)] = none := by
  have e : (("fields" : Str) == "_fields") = false := by decide +kernel
  have e2 : (("fields" : Str) == "_rules") = false := by decide +kernel
  rw [List.lookup, e]
  show List.lookup ("fields" : Str) [(("_rules" : Str), V.ref z)] = none
  rw [List.lookup, e2] <;> rfl
theorem noR {l z : Addr} : List.lookup ("rules" : Str) [(("_fields" : Str), V.ref l), (("_rules" : Str), V.ref z)] = none := by
  have e : (("rules" : Str) == "_fields") = false := by decide +kernel
  have e2 : (("rules" : Str) == "_rules") = false := by decide +kernel
  rw [List.lookup, e]
  show List.lookup ("rules" : Str) [(("_rules" : Str), V.ref z)] = none
  rw [List.lookup, e2] <;> rfl
def spBars (K : PySem.W.Frag) (C : Addr) : Sp := fun vs H Q _ => ∃ (x pf pr q : Addr) (rs : List (List Pr)) (e : Pr), vs = [.ref x, .ref q] ∧ FormAt C H x pf pr ∧ RulesAt K H pr rs ∧ (∀ r ∈ rs, RStr r ∧ r ≠ []) ∧ rs.length ≤ 1000 ∧
  SqT K H q [.str e.1, .str e.2] ∧ PyData.strOk e.1 = true ∧ PyData.strOk e.2 = true ∧ ∀ z H', Same H H' → LotsAt K H' z (barsOf rs e) → Q (.ref z) H'
def spStands (K : PySem.W.Frag) : Sp := fun vs H Q _ => ∃ (z r : Addr) (ls : List (List Pr)) (row : List Pr), vs = [.ref z, .ref r] ∧ LotsAt K H z ls ∧ LotAt K H r row ∧ (∀ l ∈ ls, RStr l ∧ l.length ≤ 1000) ∧ RStr row ∧ ∀ H', Same H H' → Q (.bl (oneStands ls row)) H'
theorem bars_paired {α : Type} {R : α → List Pr → Prop} {e : Pr} (f : Nat → List Pr) : ∀ (n : Nat) (rs : List (List Pr)), n = rs.length → (∀ i r, rs[i]? = some r → f i = r) → ((List.range n).filter fun i => endsIn e (f i)).map (fun i => (f i).dropLast) = barsOf rs e := by
  intro n rs hn h
  have : rs = (List.range n).map f := by
    refine List.ext_getElem? fun i => ?_
    rw [List.getElem?_map]
    by_cases hi : i < n
    · rw [List.getElem?_range hi, List.getElem?_eq_getElem (by omega)]
      have := h i rs[i] (List.getElem?_eq_getElem (by omega))
      rw [← this] <;> rfl
    · rw [List.getElem?_eq_none (by omega), List.getElem?_eq_none (by rw [List.length_range]; omega)] <;> rfl
  unfold barsOf
  rw [this, List.filter_map, List.map_map] <;> rfl
theorem prd_dropLast {α β : Type} {R : α → β → Prop} : ∀ {xs : List α} {ys : List β}, Paired R xs ys → Paired R xs.dropLast ys.dropLast
  | _, _, .nil => .nil
  | _, _, .cons a .nil => .nil
  | _, _, .cons a (.cons b c) => .cons a (prd_dropLast (.cons b c))
theorem lots_of {ι : Type} {g : ι → List Pr} {K : PySem.W.Frag} {R : Hp} : ∀ {zs : List V} {is : List ι}, Paired (fun z i => ∃ p, z = .ref p ∧ LotAt K R p (g i)) zs is → ∃ ps : List Addr, zs = ps.map V.ref ∧ Paired (LotAt K R) ps (is.map g)
  | _, _, .nil => ⟨[], rfl, .nil⟩
  | _, _, .cons a b => by
    obtain ⟨p, rfl, h⟩ := a
    obtain ⟨ps, rfl, h2⟩ := lots_of b
    exact ⟨p :: ps, rfl, .cons h h2⟩
section
variable {P : Program} {w : World} {K : PySem.W.Frag} {mg : Str → Option Value} {base : Heap}
theorem scBars : FnScope ["form", "pair", "rule"] ["form", "pair"] (defScope sBars) := ⟨rfl, rfl, rfl, by decide +kernel, rfl, by decide +kernel, by decide +kernel⟩
theorem scStands : FnScope ["lots", "row", "lot", "pair"] ["lots", "row"] (defScope sOneStands) := ⟨rfl, rfl, rfl, by decide +kernel, rfl, by decide +kernel, by decide +kernel⟩
theorem ok_bars {f C : Addr} {fd : FuncData} (F : Fun K "_bars" "_bars" sBars f fd) (Z : Fk P w K mg base C) : FnOk P w K mg base CX0 2 f fd ["form", "pair"] (spBars K C) := by
  obtain ⟨fR, fdR, GR, bR, mR⟩ := Z.gr
  refine F.ok scBars (fun vs H Q E h => ?_) (fun cdv A outer s H vs Q E hr h => ?_)
  · obtain ⟨x, pf, pr, q, rs, e, rfl, _⟩ := h
    rfl
  obtain ⟨x, pf, pr, q, rs, e, rfl, ⟨dx, hx⟩, hR, hs, hl, hq, o1, o2, k⟩ := h
  have hu := hr.units
  refine ⟨_, pss_one (ps_ret (pe_lc (own := [("rule", 2)]) (g := gName 2) (by rfl) scBars.nd (pi_row (pe_meth0 (pv 0) Z.fc.cl mR GR hr bR .nil pass0)) (blkOk_by (N := ["form", "pair", "rule"]) (sc := defScope sBars) (by decide +kernel))
    (fun _ _ _ _ _ => pg_name (i := 2) scBars.nd rfl (.inl rfl)) (fun _ _ _ _ _ => pts_one (pt_cmpR (op_eqDK K rfl hu) (pe_ix (ix_both K rfl) (pv 2) (pe_un un_neg pe_int) (fun _ _ => rfl)) (pv 1) (nomark _)))
    (fun _ _ _ _ _ => pe_slice (sl_tupAK K rfl) (pv 2) po_none (po_some (pe_un un_neg pe_int))))), ?_⟩
  obtain ⟨ps, hps, hP⟩ := hR
  have hpl : (ps.map V.ref).length = rs.length := by rw [List.length_map, prd_len hP]
  let f : Nat → List Pr := fun i => rs.getD i []
  have hf : ∀ i r, rs[i]? = some r → f i = r := fun i r h => by
    show rs.getD i [] = r
    rw [List.getD_eq_getElem?_getD, h] <;> rfl
  refine lc_g (ys := ps.map V.ref) (fun i v R => ∃ p, v = .ref p ∧ LotAt K R p (f i).dropLast) (fun i => endsIn e (f i)) (fun i v R R' s ⟨p, e1, h⟩ => ⟨p, e1, h.same s⟩)
    (fun Q' z => ⟨_, rfl, x, dx, _, rfl, hx, noR, x, pf, pr, rfl, ⟨dx, hx⟩, z⟩) (.inr hps.sqT) (by omega) (fun D i y H' yes no AD s1 s2 hy hyes hno => ?_) (fun D H' zs hD s1 hz hP' => ?_)
  · obtain ⟨p, e0, rfl⟩ : ∃ p, ps[i]? = some p ∧ y = .ref p := by
      rw [List.getElem?_map] at hy
      obtain ⟨p, a, b⟩ := Option.map_eq_some_iff.mp hy
      exact ⟨p, a, b.symm⟩
    obtain ⟨r, er, hrule⟩ := prd_at hP e0
    obtain ⟨qs, hqs, hprs⟩ := rule_lot hrule
    have efi := hf i r er
    obtain ⟨hst, hne⟩ := hs r (List.mem_of_getElem? er)
    have hql := prd_len hprs
    have hpos : 0 < r.length := List.length_pos_iff.mpr hne
    obtain ⟨ql, hql1⟩ : ∃ ql, qs[r.length - 1]? = some ql := ⟨_, List.getElem?_eq_getElem (by omega)⟩
    obtain ⟨el, hel, hqe⟩ := prd_at hprs hql1
    have hlast : r.getLast? = some el := by rw [List.getLast?_eq_getElem?, hel]
    have hix : atI (qs.map V.ref) (-1) = some (.ref ql) := by
      unfold atI ixN
      rw [if_neg (by decide), if_pos (by rw [List.length_map]; omega)]
      show (qs.map V.ref)[(-1 + ((qs.map V.ref).length : Int)).toNat]? = some (.ref ql)
      rw [List.length_map, show (-1 + ((qs.length : Nat) : Int)).toNat = r.length - 1 by omega, List.getElem?_map, hql1] <;> rfl
    refine ⟨rfl, ?_⟩
    refine ⟨_, rfl, _, rfl, ix_row (.inr (seqT_same s1 hqs)) hix ⟨_, rfl, pD el, pD e, pD_dp (seqT_same s1 hqe), pD_dp (seqT_same s1 hq), pD_shaped (hst el (List.mem_of_getElem? hel)), pD_shaped ⟨o1, o2⟩, _, rfl, ?_⟩⟩
    rw [eqv_pD]
    have hsel : endsIn e (f i) = decide (el = e) := by
      unfold endsIn
      rw [efi, hlast]
      exact decide_eq_decide.mpr ⟨fun z => Option.some.inj z, fun z => by rw [z]⟩
    by_cases he : el = e
    · refine iteDT he ⟨_, rfl, _, rfl, _, rfl, p, qs.map V.ref, rfl, seqT_same s1 hqs, fun hw => ?_, fun _ z hz => ?_⟩
      · exfalso
        have h2 : (if (-1 : Int) < 0 then (-1 + ((qs.map V.ref).length : Int)).toNat else min (-1 : Int).toNat (qs.map V.ref).length) = (qs.map V.ref).length := hw.2
        rw [if_pos (by decide), List.length_map] at h2
        omega
      · have sz := new_same hz (.tup (cutV (qs.map V.ref) none (some (-1))))
        refine hyes (by rw [hsel]; exact decide_eq_true he) _ _ sz ⟨z, rfl, qs.dropLast, .inl (.inl ?_), ?_⟩
        · rw [rm_new AD hz, cutV_last, List.map_dropLast]
        · rw [efi]
          exact prd_dropLast (prd_same (s2.trans (rm_same sz)) hprs)
    · exact iteDF he (hno (by rw [hsel]; exact decide_eq_false he) _ (Same.refl _))
  · obtain ⟨ps2, rfl, hp2⟩ := lots_of hP'
    refine k D H' s1 ⟨ps2, SqL.of hz, ?_⟩
    rw [bars_paired (R := fun (_ : Unit) _ => True) f _ rs hpl hf] at hp2
    exact prd_imp (fun _ _ z => z.same rm_le) hp2
theorem all_bools (l row : List Pr) : (((List.range l.length).map fun i => decide (l.getD i (Str.empty, Str.empty) ∈ row)).all id) = within l row := by
  unfold within
  rw [List.all_map, Bool.eq_iff_iff, List.all_eq_true, List.all_eq_true]
  constructor
  · intro h p hp
    obtain ⟨i, hi, rfl⟩ := List.mem_iff_getElem.mp hp
    have := h i (List.mem_range.mpr hi)
    have e : l.getD i (Str.empty, Str.empty) = l[i] := by rw [List.getD_eq_getElem?_getD, List.getElem?_eq_getElem hi] <;> rfl
    have h2 : decide (l.getD i (Str.empty, Str.empty) ∈ row) = true := this
    rw [e] at h2
    exact h2
  · intro h i hi
    have hi := List.mem_range.mp hi
    have e : l.getD i (Str.empty, Str.empty) = l[i] := by rw [List.getD_eq_getElem?_getD, List.getElem?_eq_getElem hi] <;> rfl
    show decide (l.getD i (Str.empty, Str.empty) ∈ row) = true
    rw [e]
    exact h _ (List.getElem_mem hi)
theorem bools_of {g : Nat → Bool} {R : Hp} : ∀ {zs : List V} {is : List Nat}, Paired (fun z i => z = V.bl (g i)) zs is → zs = (is.map g).map V.bl
  | _, _, .nil => rfl
  | _, _, .cons a b => by rw [a, bools_of (R := R) b] <;> rfl
theorem one_next {ls : List (List Pr)} {row l : List Pr} {i : Nat} (h : ls[i]? = some l) : oneStands (ls.take (i + 1)) row = (oneStands (ls.take i) row || within l row) := by
  unfold oneStands
  rw [take_one h, List.any_append]
  simp
theorem one_stop {ls : List (List Pr)} {row l : List Pr} {i : Nat} (h : ls[i]? = some l) (hw : within l row = true) : oneStands ls row = true := by
  unfold oneStands
  exact List.any_eq_true.mpr ⟨l, List.mem_of_getElem? h, hw⟩
theorem nm_allif {K : PySem.W.Frag} {tl : TE} {u v : TS} {D : Ends} {σ : L2.St} {H : Hp} {i : Nat} {x : V} (h : tl (σ.set i (some x)) H fun y H1 => rAll K [y] H1 fun z H2 => ∃ c, z = .bl c ∧ if c = true then u D (σ.set i (some x)) H2 else v D (σ.set i (some x)) H2) :
    gName i x σ H fun σ2 H2 => tIfS (tB (tCB (rAll K) (tCons tl tNil))) u v D σ2 H2 := h
theorem ok_stands {f : Addr} {fd : FuncData} (F : Fun K "_one_stands" "_one_stands" sOneStands f fd) (T : mg "all" = none) : FnOk P w K mg base CX0 1 f fd ["lots", "row"] (spStands K) := by
  refine F.ok scStands (fun vs H Q E h => ?_) (fun cdv A outer s H vs Q E hr h => ?_)
  · obtain ⟨z, r, ls, row, rfl, _⟩ := h
    rfl
  obtain ⟨z, r, ls, row, rfl, hz, hrow, hs, ho, k⟩ := h
  have hu : (A.deeper (PyProof.Rows.envOfC "_one_stands" (defScope sOneStands) s.heap.objs.size f cdv)).units + 65 < cLine := by
    have := hr.un
    omega
  refine ⟨_, pss_cons (ps_for PassesOwn.never rfl (pi_row (pv 0)) (pg_name (i := 2) scStands.nd rfl (.inl rfl))
      (pss_one (ps_if (pt_val (pe_callB (cr_all (by rfl)) rfl T (by decide +kernel) (pa_cons (pe_lc (own := [("pair", 3)]) (g := gName 3) (tt := tYes) (by rfl) scStands.nd (pi_row (pv 2)) (blkOk_by (N := ["lots", "row", "lot", "pair"]) (sc := defScope sOneStands) (by decide +kernel))
        (fun _ _ _ _ _ => pg_name (i := 3) scStands.nd rfl (.inl rfl)) (fun _ _ _ _ _ => pts_nil) (fun _ _ _ _ _ => pe_cmpR (op_inTK K rfl hu) (pv 3) (pv 1) (by with_unfolding_all rfl))) pa_nil))) (pss_one (ps_ret pe_bl)) pss_nil)))
    (pss_one (ps_ret pe_bl)), ?_⟩
  obtain ⟨ps, hps, hP⟩ := hz
  have hlen : (ps.map V.ref).length = ls.length := by rw [List.length_map, prd_len hP]
  refine for_row (ys := ps.map V.ref) (H0 := H) (fun i σ H' => ∃ (f2 f3 : Option V), σ = [some (.ref z), some (.ref r), f2, f3] ∧ oneStands (ls.take i) row = false ∧ Same H H') (fun Q' z => ⟨_, rfl, z⟩) (.inl hps) ⟨none, none, rfl, rfl, Same.refl H⟩ (fun i σ H' ⟨_, _, _, _, s⟩ => s) ?_ ?_
  · rintro i y σ H' hi ⟨f2, f3, rfl, hno, s1⟩ hy
    obtain ⟨p, e0, rfl⟩ : ∃ p, ps[i]? = some p ∧ y = .ref p := by
      rw [List.getElem?_map] at hy
      obtain ⟨p, a, b⟩ := Option.map_eq_some_iff.mp hy
      exact ⟨p, a, b.symm⟩
    obtain ⟨l, el, qs, hqs, hprs⟩ := prd_at hP e0
    obtain ⟨hst, hll⟩ := hs l (List.mem_of_getElem? el)
    have hql := prd_len hprs
    obtain ⟨rq, hrq, hrp⟩ := hrow
    let d : Pr := (Str.empty, Str.empty)
    have hrow2 : DpAll K H (rq.map V.ref) (row.map pD) := pairs_dps hrp
    refine nm_allif ?_
    refine lc_g (ys := qs.map V.ref) (fun i v R => v = .bl (decide (l.getD i d ∈ row))) (fun _ => true) (fun i v R R' s h => h) (fun Q' z => ⟨_, rfl, z⟩) (.inr (seqT_same s1 hqs)) (by rw [List.length_map]; omega) (fun D j x H2 yes no AD s2 s3 hx hyes hno2 => ?_) (fun D H2 zs hD s2 hz2 hP2 => ?_)
    · obtain ⟨q, e1, rfl⟩ : ∃ q, qs[j]? = some q ∧ x = .ref q := by
        rw [List.getElem?_map] at hx
        obtain ⟨p, a, b⟩ := Option.map_eq_some_iff.mp hx
        exact ⟨p, a, b.symm⟩
      obtain ⟨e, ee, hqe⟩ := prd_at hprs e1
      have eg : l.getD j d = e := by rw [List.getD_eq_getElem?_getD, ee] <;> rfl
      refine ⟨rfl, ?_⟩
      unfold tYes
      refine iteT ⟨_, rfl, _, rfl, r, rq.map V.ref, row.map pD, pD e, rfl, seqT_same (s1.trans s2) hrq, dps_same (s1.trans s2) hrow2, rule_lay row ho, pD_dp (seqT_same (s1.trans s2) hqe), pD_shaped (hst e (List.mem_of_getElem? ee)), ?_⟩
      refine hyes rfl _ _ (Same.refl _) ?_
      show V.bl _ = V.bl _
      rw [if_neg Bool.false_ne_true, any_pD, eg]
    · have ez := bools_of (R := H) hP2
      have ef : (List.range (qs.map V.ref).length).filter (fun _ => true) = List.range l.length := by
        rw [List.length_map, hql]
        exact List.filter_eq_self.mpr fun _ _ => rfl
      rw [ef] at ez
      refine ⟨D, _, rfl, SqL.of (by rw [hz2, ez]), ?_⟩
      rw [all_bools]
      refine ⟨_, rfl, ?_⟩
      cases hw : within l row with
      | true =>
        rw [one_stop el hw] at k
        exact iteT (k H2 (s1.trans s2))
      | false =>
        refine iteF ⟨_, _, rfl, ?_, s1.trans s2⟩
        rw [one_next el, hno, hw] <;> rfl
  · rintro σ H' ⟨f2, f3, rfl, hno, s1⟩
    have : oneStands ls row = false := by
      rw [hlen, List.take_of_length_le (Nat.le_refl _)] at hno
      exact hno
    rw [this] at k
    exact k H' s1
end
end Q
set_option Elab.async false
set_option linter.all false
set_option maxRecDepth 100000
set_option maxHeartbeats 4000000
/-! ### dicts whose keys are tuples of texts, made by a comprehension -/
namespace Q
open PySem L2 XD
theorem asg_dcT {w : TI} {g : TG} {tt : TT} {tk te : TE} {vs : List Nat} {u : TS} {D : Ends} {σ : L2.St} {H : Hp} {i : Nat} (h : XK.tDcT w g tt tk te vs σ H fun v H1 => u D (σ.set i (some v)) H1) : tSeq (tAsg (XK.tDcT w g tt tk te vs) (gName i)) u D σ H := h
abbrev keyOf (e : Str × Str) : List Key := [.inr e.1, .inr e.2]
theorem keyOf_inj {a b : Str × Str} (h : keyOf a = keyOf b) : a = b := by
  have h1 := (List.cons.inj h).1
  have h2 := (List.cons.inj (List.cons.inj h).2).1
  exact Prod.ext (Sum.inr.inj h1) (Sum.inr.inj h2)
/-! a dict whose keys may come again -/
def putAll (ks : List (List Key)) (v : V) : List (List Key × V) := ks.foldl (fun es k => putK es k v) []
theorem putAll_next {ks : List (List Key)} {i : Nat} {k : List Key} {v : V} (h : ks[i]? = some k) : putAll (ks.take (i + 1)) v = putK (putAll (ks.take i) v) k v := by
  unfold putAll
  rw [take_one h, List.foldl_append] <;> rfl
theorem putAll_val {ks : List (List Key)} {v : V} {k : List Key} : (k ∈ ks → valV (putAll ks v) k = some v) ∧ (k ∉ ks → valV (putAll ks v) k = none) := by
  have : ∀ (l : List (List Key)) (es : List (List Key × V)), (k ∈ l ∨ valV es k = some v → valV (l.foldl (fun es k => putK es k v) es) k = some v) ∧ (k ∉ l ∧ valV es k = none → valV (l.foldl (fun es k => putK es k v) es) k = none) := by
    intro l
    induction l with
    | nil =>
      intro es
      exact ⟨fun h => h.elim (fun z => absurd z List.not_mem_nil) id, fun h => h.2⟩
    | cons j l ih =>
      intro es
      rw [List.foldl_cons]
      obtain ⟨i1, i2⟩ := ih (putK es j v)
      constructor
      · intro h
        refine i1 ?_
        rw [valV_put]
        by_cases e : k = j
        · exact .inr (by rw [if_pos e])
        · rcases h with h | h
          · rcases List.mem_cons.mp h with h | h
            · exact absurd h e
            · exact .inl h
          · exact .inr (by rw [if_neg e]; exact h)
      · rintro ⟨h1, h2⟩
        refine i2 ⟨fun z => h1 (List.mem_cons_of_mem _ z), ?_⟩
        rw [valV_put, if_neg (fun z => h1 (by rw [z]; exact List.mem_cons_self))]
        exact h2
  exact ⟨fun h => (this ks []).1 (.inl h), fun h => (this ks []).2 ⟨h, rfl⟩⟩
theorem putAll_len {ks : List (List Key)} {v : V} : (putAll ks v).length ≤ ks.length := by
  have : ∀ (l : List (List Key)) (es : List (List Key × V)), (l.foldl (fun es k => putK es k v) es).length ≤ es.length + l.length := by
    intro l
    induction l with
    | nil => intro es; exact Nat.le_refl _
    | cons j l ih =>
      intro es
      rw [List.foldl_cons, List.length_cons]
      refine Nat.le_trans (ih _) ?_
      have := length_putK es j v
      omega
  have := this ks []
  rw [List.length_nil, Nat.zero_add] at this
  exact this
/-- a dict comprehension over a list or a tuple, its keys tuples, its values one constant -/
theorem dcT_c {K : PySem.W.Frag} {p : Addr} {ys : List V} {t0 : TE} {g : TG} {tk tv : TE} {vs : List Nat} {σ : L2.St} {H : Hp} {Q : VK} (ks : List (List Key)) (c : V) (ht : ∀ Q' : VK, Q' (.ref p) H → t0 σ H Q') (hq : SqL K H p ys ∨ SqT K H p ys) (hk : ks.length = ys.length) (hl : ys.length ≤ 1000)
    (turn : ∀ (D : Addr) (i : Nat) (x : V) (H' : Hp) (yes : V → V → Hp → Prop), Same H H' → ys[i]? = some x → (∀ k q H4, ks[i]? = some k → H4 q = some (.tup (k.map kV)) → Same H' H4 → yes (.ref q) c H4) →
      g x (wipe σ vs) H' fun σ2 H2 => wipe σ2 vs = wipe σ vs ∧ tk σ2 H2 fun y H3 => tv σ2 H3 fun z H4 => yes y z H4)
    (hd : ∀ D H', H D = none → Same H H' → H' D = some (.dT (putAll ks c)) → Q (.ref D) H') : XK.tDcT (iRow K t0) g tYes tk tv vs σ H Q := by
  let Pv : Addr → Nat → Hp → Prop := fun D i H' => H' D = some (.dT (putAll (ks.take i) c)) ∧ Same H H'
  have all : ∀ {J : It} {G : Hp → Prop}, (walk : Walk J ys.length G (YAt ys)) → (∀ H', Same H H' → G H') → ∀ D, H D = none → ∃ W : Nat → Nat → Hp → Prop, (∃ m, W 0 m (L2.upd H D (.dT []))) ∧ ∀ i m H, W i m H →
      (J.stop i H ∧ Q (.ref D) H) ∨ (J.go i H ∧ ∃ Nx : Hp → Prop, (∀ H', Nx H' → ∃ m', m' < m ∧ W (i + 1) m' H') ∧ ∀ x H', J.yld i H x H' → g x (wipe σ vs) H' fun σ2 H2 => wipe σ2 vs = wipe σ vs ∧
        tYes σ2 H2 fun b H3 => if b = true then tk σ2 H3 fun y H4 => tv σ2 H4 fun z H5 => ∃ es k p, y = .ref p ∧ H5 p = some (.tup (k.map kV)) ∧ H5 D = some (.dT es) ∧ es.length < sizeLine ∧ Nx (L2.upd H5 D (.dT (putK es k z))) else Nx H3) := by
    intro J G walk hG D hD
    refine ⟨fun i m H' => m = ys.length - i ∧ i ≤ ys.length ∧ Pv D i H', ⟨ys.length, by simp, Nat.zero_le _, upd_same, new_same hD _⟩, ?_⟩
    rintro i m H' ⟨rfl, hi, g2, g5⟩
    by_cases hlt : i < ys.length
    · refine .inr ⟨walk.goes i H' hlt (hG H' g5), Pv D (i + 1), fun H5 p' => ⟨ys.length - (i + 1), by omega, rfl, hlt, p'⟩, fun x H5 y => ?_⟩
      obtain ⟨rfl, hx⟩ := walk.yields i H' x H5 hlt (hG H' g5) y
      refine turn D i x _ (fun y z H5 => ∃ es k p, y = .ref p ∧ H5 p = some (.tup (k.map kV)) ∧ H5 D = some (.dT es) ∧ es.length < sizeLine ∧ Pv D (i + 1) (L2.upd H5 D (.dT (putK es k z)))) g5 hx (fun k q H4 ek eq s4 => ?_)
      have hlen := putAll_len (ks := ks.take i) (v := c)
      rw [List.length_take] at hlen
      refine ⟨_, k, q, rfl, eq, s4 _ _ g2, small1000 (by omega), ?_, fun b o z => ?_⟩
      · rw [upd_same, putAll_next ek]
      · rw [upd_ne (ne_of_none z hD)]
        exact s4 _ _ (g5 _ _ z)
    · have e : i = ys.length := by omega
      subst e
      rw [List.take_of_length_le (by omega)] at g2
      exact .inl ⟨walk.stops H' (hG H' g5), hd D H' hD g5 g2⟩
  rcases hq with hq | hq
  · exact .inl (ht _ ⟨p, rfl, ⟨ys, hq⟩, all walk_list (fun H' s => s.seq hq)⟩)
  · exact .inr (ht _ ⟨p, rfl, ⟨ys, hq⟩, all walk_tup (fun H' s => seqT_same s hq)⟩)
end Q
set_option Elab.async false
set_option linter.all false
set_option maxRecDepth 100000
set_option maxHeartbeats 4000000
/-! ### fillings -/
namespace Q
open PySem L2 XD
/-- a pair as it can be a dict's key -/
def PairAt (H : Hp) (q : Addr) (e : Pr) : Prop := H q = some (.tup [.str e.1, .str e.2])
def RowAt (K : PySem.W.Frag) (H : Hp) (v : V) (row : List Pr) : Prop := ∃ (p : Addr) (qs : List Addr), v = .ref p ∧ SqT K H p (qs.map V.ref) ∧ Paired (PairAt H) qs row
def RowsAt (K : PySem.W.Frag) (H : Hp) (z : Addr) (rows : List (List Pr)) : Prop := ∃ vs : List V, SqT K H z vs ∧ Paired (RowAt K H) vs rows
theorem PairAt.same {H H' : Hp} {q : Addr} {e : Pr} (s : Same H H') (h : PairAt H q e) : PairAt H' q e := s _ _ h
theorem RowAt.same {K : PySem.W.Frag} {H H' : Hp} {v : V} {row : List Pr} (s : Same H H') (h : RowAt K H v row) : RowAt K H' v row := by
  obtain ⟨p, qs, e, a, b⟩ := h
  exact ⟨p, qs, e, seqT_same s a, prd_imp (fun _ _ z => z.same s) b⟩
theorem RowsAt.same {K : PySem.W.Frag} {H H' : Hp} {z : Addr} {rows : List (List Pr)} (s : Same H H') (h : RowsAt K H z rows) : RowsAt K H' z rows := by
  obtain ⟨vs, a, b⟩ := h
  exact ⟨vs, seqT_same s a, prd_imp (fun _ _ z => z.same s) b⟩
theorem RowAt.lot {K : PySem.W.Frag} {H : Hp} {v : V} {row : List Pr} (h : RowAt K H v row) : ∃ p, v = .ref p ∧ LotAt K H p row := by
  obtain ⟨p, qs, e, a, b⟩ := h
  exact ⟨p, e, qs, a, prd_imp (fun _ _ z => .inl (.inl z)) b⟩
/-- a dict that is made by a comprehension, its keys tuples, all unlike -/
theorem valV_zip {κ : Type} [DecidableEq κ] : ∀ {ks : List κ} {vs : List V} {i : Nat} {k : κ} {v : V}, ks.Nodup → ks[i]? = some k → vs[i]? = some v → valV (ks.zip vs) k = some v
  | k0 :: ks, v0 :: vs, 0, k, v, _, h1, h2 => by
    cases h1
    cases h2
    exact valV_pos rfl
  | k0 :: ks, v0 :: vs, i + 1, k, v, n, h1, h2 => by
    have h1 : ks[i]? = some k := by simpa using h1
    have h2 : vs[i]? = some v := by simpa using h2
    have := List.nodup_cons.mp n
    rw [List.zip_cons_cons, valV_neg (fun z => this.1 (by have z : k0 = k := z; rw [z]; exact List.mem_of_getElem? h1))]
    exact valV_zip this.2 h1 h2
theorem valV_fresh {κ : Type} [DecidableEq κ] : ∀ {ks : List κ} {vs : List V} {k : κ}, k ∉ ks → valV (ks.zip vs) k = none
  | [], _, _, _ => rfl
  | _ :: _, [], _, _ => rfl
  | k0 :: ks, v0 :: vs, k, h => by
    rw [List.zip_cons_cons, valV_neg (fun z => h (by have z : k0 = k := z; rw [z]; exact List.mem_cons_self))]
    exact valV_fresh fun z => h (List.mem_cons_of_mem _ z)
theorem alive_dT {D : Addr} {H : Hp} {es : List (List Key × V)} (e : H D = some (.dT es)) : Alive [D] H := fun b hb => by
  rw [List.mem_singleton.mp hb, e]
  exact fun z => by cases z
theorem dcT_g {K : PySem.W.Frag} {p : Addr} {ys : List V} {t0 : TE} {g : TG} {tk tv : TE} {vs : List Nat} {σ : L2.St} {H : Hp} {Q : VK} (ks : List (List Key)) (P : Nat → V → Hp → Prop)
    (mono : ∀ i v R R', Same R R' → P i v R → P i v R') (ht : ∀ Q' : VK, Q' (.ref p) H → t0 σ H Q') (hq : SqL K H p ys ∨ SqT K H p ys) (hk : ks.length = ys.length) (hn : ks.Nodup) (hl : ys.length ≤ 1000)
    (turn : ∀ (D : Addr) (i : Nat) (x : V) (H' : Hp) (yes : V → V → Hp → Prop), (∃ es, H' D = some (.dT es)) → Same H H' → Same H (rmL [D] H') → ys[i]? = some x →
      (∀ k q y H4, ks[i]? = some k → H4 q = some (.tup (k.map kV)) → Same H' H4 → P i y (rmL [D] H4) → yes (.ref q) y H4) →
      g x (wipe σ vs) H' fun σ2 H2 => wipe σ2 vs = wipe σ vs ∧ tk σ2 H2 fun y H3 => tv σ2 H3 fun z H4 => yes y z H4)
    (hd : ∀ D H' zs, H D = none → Same H H' → H' D = some (.dT (ks.zip zs)) → zs.length = ks.length → (∀ i v, zs[i]? = some v → P i v (rmL [D] H')) → Q (.ref D) H') : XK.tDcT (iRow K t0) g tYes tk tv vs σ H Q := by
  let Pv : Addr → Nat → Hp → Prop := fun D i H' => ∃ zs, H' D = some (.dT ((ks.take i).zip zs)) ∧ zs.length = i ∧ (∀ j v, zs[j]? = some v → P j v (rmL [D] H')) ∧ Same H H'
  have all : ∀ {J : It} {G : Hp → Prop}, (walk : Walk J ys.length G (YAt ys)) → (∀ H', Same H H' → G H') → ∀ D, H D = none → ∃ W : Nat → Nat → Hp → Prop, (∃ m, W 0 m (L2.upd H D (.dT []))) ∧ ∀ i m H, W i m H →
      (J.stop i H ∧ Q (.ref D) H) ∨ (J.go i H ∧ ∃ Nx : Hp → Prop, (∀ H', Nx H' → ∃ m', m' < m ∧ W (i + 1) m' H') ∧ ∀ x H', J.yld i H x H' → g x (wipe σ vs) H' fun σ2 H2 => wipe σ2 vs = wipe σ vs ∧
        tYes σ2 H2 fun b H3 => if b = true then tk σ2 H3 fun y H4 => tv σ2 H4 fun z H5 => ∃ es k p, y = .ref p ∧ H5 p = some (.tup (k.map kV)) ∧ H5 D = some (.dT es) ∧ es.length < sizeLine ∧ Nx (L2.upd H5 D (.dT (putK es k z))) else Nx H3) := by
    intro J G walk hG D hD
    refine ⟨fun i m H' => m = ys.length - i ∧ i ≤ ys.length ∧ Pv D i H', ⟨ys.length, by simp, Nat.zero_le _, [], upd_same, rfl, (fun j v h => by simp at h), new_same hD _⟩, ?_⟩
    rintro i m H' ⟨rfl, hi, zs, g2, g3, g4, g5⟩
    by_cases hlt : i < ys.length
    · refine .inr ⟨walk.goes i H' hlt (hG H' g5), Pv D (i + 1), fun H5 p' => ⟨ys.length - (i + 1), by omega, rfl, hlt, p'⟩, fun x H5 y => ?_⟩
      obtain ⟨rfl, hx⟩ := walk.yields i H' x H5 hlt (hG H' g5) y
      refine turn D i x _ (fun y z H5 => ∃ es k p, y = .ref p ∧ H5 p = some (.tup (k.map kV)) ∧ H5 D = some (.dT es) ∧ es.length < sizeLine ∧ Pv D (i + 1) (L2.upd H5 D (.dT (putK es k z)))) ⟨_, g2⟩ g5 (same_rm1 hD g5) hx (fun k q y H4 ek eq s4 hy => ?_)
      refine ⟨(ks.take i).zip zs, k, q, rfl, eq, s4 _ _ g2, small1000 (by rw [List.length_zip]; omega), zs ++ [y], ?_, by rw [List.length_append, g3] <;> rfl, fun j v hj => ?_, fun b o z => ?_⟩
      · have fresh : k ∉ ks.take i := fun z => by
          obtain ⟨j, hj, ej⟩ := List.mem_iff_getElem.mp z
          rw [List.length_take] at hj
          rw [List.getElem_take] at ej
          have e1 : ks[i]'(by omega) = k := by
            have := ek
            rw [List.getElem?_eq_getElem (by omega)] at this
            exact Option.some.inj this
          have := (List.getElem_inj hn).mp (ej.trans e1.symm)
          omega
        have et : ks.take (i + 1) = ks.take i ++ [k] := take_one ek
        rw [upd_same, putK_new y (valV_fresh fresh), et, List.zip_append (by rw [List.length_take, g3]; omega)] <;> rfl
      · rw [rm_put (List.mem_singleton.mpr rfl)]
        by_cases e : j < i
        · rw [List.getElem?_append_left (by omega)] at hj
          exact mono _ _ _ _ (rm_same s4) (g4 j v hj)
        · rw [List.getElem?_append_right (by omega)] at hj
          have : j = i := by
            have := (List.getElem?_eq_some_iff.mp hj).1
            rw [List.length_singleton] at this
            omega
          subst this
          rw [g3, Nat.sub_self] at hj
          cases hj
          exact hy
      · rw [upd_ne (ne_of_none z hD)]
        exact s4 _ _ (g5 _ _ z)
    · have e : i = ys.length := by omega
      subst e
      rw [List.take_of_length_le (by omega)] at g2
      exact .inl ⟨walk.stops H' (hG H' g5), hd D H' zs hD g5 g2 (by omega) g4⟩
  rcases hq with hq | hq
  · exact .inl (ht _ ⟨p, rfl, ⟨ys, hq⟩, all walk_list (fun H' s => s.seq hq)⟩)
  · exact .inr (ht _ ⟨p, rfl, ⟨ys, hq⟩, all walk_tup (fun H' s => seqT_same s hq)⟩)
theorem refs_of {ι β : Type} {T : Addr → β → Prop} {g : ι → β} : ∀ {zs : List V} {is : List ι}, Paired (fun z i => ∃ p, z = .ref p ∧ T p (g i)) zs is → ∃ ps : List Addr, zs = ps.map V.ref ∧ Paired T ps (is.map g)
  | _, _, .nil => ⟨[], rfl, .nil⟩
  | _, _, .cons a b => by
    obtain ⟨p, rfl, h⟩ := a
    obtain ⟨ps, rfl, h2⟩ := refs_of b
    exact ⟨p :: ps, rfl, .cons h h2⟩
theorem vals_of {ι β : Type} {T : V → β → Prop} {g : ι → β} : ∀ {zs : List V} {is : List ι}, Paired (fun z i => T z (g i)) zs is → Paired T zs (is.map g)
  | _, _, .nil => .nil
  | _, _, .cons a b => .cons a (vals_of b)
theorem asg_lcX {w : TI} {g : TG} {tt : TT} {te : TE} {vs : List Nat} {u : TS} {D : Ends} {σ : L2.St} {H : Hp} {i : Nat} (h : tLc w g tt te vs σ H fun v H1 => u D (σ.set i (some v)) H1) : tSeq (tAsg (tLc w g tt te vs) (gName i)) u D σ H := h
theorem asg_lc2 {w w1 : TI} {g g1 : TG} {tt tt1 : TT} {te : TE} {vs vs1 : List Nat} {D : Ends} {σ : L2.St} {H : Hp} {i : Nat} (h : tLc2 w g tt w1 g1 tt1 te vs vs1 σ H fun v H1 => D.nx (σ.set i (some v)) H1) : tAsg (tLc2 w g tt w1 g1 tt1 te vs vs1) (gName i) D σ H := h
theorem off_dT {H : Hp} {D a : Addr} {es : List (List Key × V)} {o : HO} (hD : H D = some (.dT es)) (h : H a = some o) (n : ∀ es, o ≠ .dT es) : rmL [D] H a = some o := by
  rw [rm_at (fun z => by rw [List.mem_singleton.mp z, hD] at h; exact n _ (Option.some.inj h).symm)]
  exact h
theorem sqT_dT {K : PySem.W.Frag} {H : Hp} {D a : Addr} {es : List (List Key × V)} {xs : List V} (hD : H D = some (.dT es)) (h : SqT K H a xs) : SqT K (rmL [D] H) a xs := by
  rcases h with (h | ⟨o, h⟩) | h
  · exact .inl (.inl (off_dT hD h (by intro _ z; cases z)))
  · exact .inl (.inr ⟨o, off_dT hD h (by intro _ z; cases z)⟩)
  · exact .inr h
theorem sqL_dT {K : PySem.W.Frag} {H : Hp} {D a : Addr} {es : List (List Key × V)} {xs : List V} (hD : H D = some (.dT es)) (h : SqL K H a xs) : SqL K (rmL [D] H) a xs := by
  rcases h with (h | ⟨o, h⟩) | h
  · exact .inl (.inl (off_dT hD h (by intro _ z; cases z)))
  · exact .inl (.inr ⟨o, off_dT hD h (by intro _ z; cases z)⟩)
  · exact .inr h
theorem LotsAt.dT {K : PySem.W.Frag} {H : Hp} {D z : Addr} {es : List (List Key × V)} {ls : List (List Pr)} (hD : H D = some (.dT es)) (h : LotsAt K H z ls) : LotsAt K (rmL [D] H) z ls := by
  obtain ⟨ps, a, b⟩ := h
  refine ⟨ps, sqL_dT hD a, prd_imp (fun p l h => ?_) b⟩
  obtain ⟨qs, c, e⟩ := h
  exact ⟨qs, sqT_dT hD c, prd_imp (fun _ _ z => sqT_dT hD z) e⟩
/-! the rows, by their places -/
abbrev d0 : Pr := (Str.empty, Str.empty)
theorem getD_of {α : Type} {l : List α} {i : Nat} {x d : α} (h : l[i]? = some x) : l.getD i d = x := by rw [List.getD_eq_getElem?_getD, h] <;> rfl
theorem map_range {α : Type} (l : List α) (d : α) : (List.range l.length).map (fun i => l.getD i d) = l := by
  refine List.ext_getElem? fun i => ?_
  rw [List.getElem?_map]
  by_cases hi : i < l.length
  · rw [List.getElem?_range hi, List.getElem?_eq_getElem hi]
    show some (l.getD i d) = some l[i]
    rw [getD_of (List.getElem?_eq_getElem hi)]
  · rw [List.getElem?_eq_none (l := List.range l.length) (by rw [List.length_range]; omega), List.getElem?_eq_none (l := l) (by omega)] <;> rfl
theorem grid_longer {rs : List (List Pr)} {f : List Pr} {rows : List (List Pr)} {e : Str × List Str} :
    (gridTo rows.length (prsOf f e).length (fun i j => !oneStands (barsOf rs ((prsOf f e).getD j d0)) (rows.getD i []))).map (fun ij => rows.getD ij.1 [] ++ [(prsOf f e).getD ij.2 d0]) = longer rs f rows e := by
  unfold gridTo longer pairsTo
  rw [List.map_flatMap]
  conv => rhs; rw [← map_range rows []]
  rw [List.flatMap_map]
  refine fm_congr fun i _ => ?_
  rw [List.map_map]
  conv => rhs; rw [← map_range (prsOf f e) d0]
  rw [List.filter_map, List.map_map] <;> rfl
theorem longer_len {rs : List (List Pr)} {f : List Pr} {e : Str × List Str} : ∀ rows : List (List Pr), (longer rs f rows e).length ≤ rows.length * e.2.length
  | [] => by unfold longer; simp
  | row :: rows => by
    have ih := longer_len (rs := rs) (f := f) (e := e) rows
    unfold longer at ih ⊢
    rw [List.flatMap_cons, List.length_append, List.length_cons, Nat.succ_mul, List.length_map]
    have h1 : ((prsOf f e).filter fun p => !oneStands (barsOf rs p) row).length ≤ e.2.length := by
      refine Nat.le_trans (List.length_filter_le _ _) ?_
      unfold prsOf
      rw [List.length_map]
      exact List.length_filter_le _ _
    omega
theorem fills_len {rs : List (List Pr)} {f : List Pr} : ∀ (t : Tbl) (rows : List (List Pr)) (a : Nat), rows.length ≤ a → (t.foldl (longer rs f) rows).length ≤ waysFrom a t
  | [], rows, a, h => h
  | e :: t, rows, a, h => by
    rw [List.foldl_cons]
    show _ ≤ waysFrom (a * e.2.length) t
    exact fills_len t _ _ (Nat.le_trans (longer_len rows) (Nat.mul_le_mul_right _ h))
theorem ways_up : ∀ (t : Tbl) (a b : Nat), a ≤ b → waysFrom a t ≤ waysFrom b t
  | [], _, _, h => h
  | e :: t, a, b, h => ways_up t _ _ (Nat.mul_le_mul_right _ h)
theorem ways_take : ∀ (t : Tbl) (a i : Nat), (∀ e ∈ t, 1 ≤ e.2.length) → waysFrom a (t.take i) ≤ waysFrom a t
  | [], a, i, _ => by rw [List.take_nil]; exact Nat.le_refl _
  | e :: t, a, 0, h => by
    show a ≤ waysFrom (a * e.2.length) t
    have h1 : waysFrom a (t.take 0) ≤ waysFrom a t := ways_take t a 0 fun x hx => h x (List.mem_cons_of_mem _ hx)
    refine Nat.le_trans h1 (ways_up t _ _ ?_)
    exact Nat.le_mul_of_pos_right _ (h e List.mem_cons_self)
  | e :: t, a, i + 1, h => ways_take t (a * e.2.length) i fun x hx => h x (List.mem_cons_of_mem _ hx)
theorem fold_names {rs : List (List Pr)} {f : List Pr} : ∀ (t1 : Tbl) (rows : List (List Pr)) (ns : List Str), (∀ row ∈ rows, row.map (·.1) = ns) → ∀ row ∈ t1.foldl (longer rs f) rows, row.map (·.1) = ns ++ t1.map (·.1)
  | [], rows, ns, h => fun row hr => by rw [List.map_nil, List.append_nil]; exact h row hr
  | e :: t1, rows, ns, h => fun row hr => by
    have := fold_names t1 (longer rs f rows e) (ns ++ [e.1]) (fun x hx => by
      obtain ⟨y, hy, hx⟩ := List.mem_flatMap.mp hx
      obtain ⟨p, hp, rfl⟩ := List.mem_map.mp hx
      have hp := (List.mem_filter.mp hp).1
      unfold prsOf at hp
      obtain ⟨v, _, rfl⟩ := List.mem_map.mp hp
      rw [List.map_append, h y hy] <;> rfl) row hr
    rw [this, List.append_assoc] <;> rfl
theorem fold_all {rs : List (List Pr)} {f : List Pr} {ok : Pr → Prop} : ∀ (t1 : Tbl) (rows : List (List Pr)), (∀ row ∈ rows, ∀ e ∈ row, ok e) → (∀ x ∈ t1, ∀ v ∈ x.2, ok (x.1, v)) → ∀ row ∈ t1.foldl (longer rs f) rows, ∀ e ∈ row, ok e
  | [], rows, h, _ => h
  | x :: t1, rows, h, g => fold_all t1 (longer rs f rows x) (fun row hr => by
      obtain ⟨y, hy, hx⟩ := List.mem_flatMap.mp hr
      obtain ⟨p, hp, rfl⟩ := List.mem_map.mp hx
      have hp := (List.mem_filter.mp hp).1
      unfold prsOf at hp
      obtain ⟨v, hv, rfl⟩ := List.mem_map.mp hp
      intro e he
      rcases List.mem_append.mp he with he | he
      · exact h y hy e he
      · rw [List.mem_singleton.mp he]
        exact g x List.mem_cons_self v (List.mem_filter.mp hv).1) (fun y hy => g y (List.mem_cons_of_mem _ hy))
theorem nodup_inj {α β : Type} {f : α → β} (inj : ∀ a b, f a = f b → a = b) : ∀ {l : List α}, l.Nodup → (l.map f).Nodup
  | [], _ => List.nodup_nil
  | x :: l, h => by
    have h := List.nodup_cons.mp h
    rw [List.map_cons, List.nodup_cons]
    refine ⟨fun z => ?_, nodup_inj inj h.2⟩
    obtain ⟨y, hy, e⟩ := List.mem_map.mp z
    rw [inj _ _ e] at hy
    exact h.1 hy
theorem rulesAtS {K : PySem.W.Frag} {H H' : Hp} {p : Addr} {rs : List (List Pr)} (s : Same H H') (h : RulesAt K H p rs) : RulesAt K H' p rs := by
  obtain ⟨ps, a, b⟩ := h
  exact ⟨ps, a.same s, rules_same s b⟩
theorem prs_nodup {f : List Pr} {e : Str × List Str} (h : e.2.Nodup) : (prsOf f e).Nodup := by
  unfold prsOf
  exact nodup_inj (fun a b z => (Prod.mk.inj z).2) (h.filter _)
theorem keys_nodup {l : List Pr} (h : l.Nodup) : (l.map keyOf).Nodup := nodup_inj (fun a b z => keyOf_inj z) h
/-- a form whose parts are as they are made -/
structure FormOk (t : Tbl) (rs : List (List Pr)) : Prop where
  nd : (t.map (·.1)).Nodup
  ts : TStr t
  lo : ∀ e ∈ t, 1 ≤ e.2.length
  vn : ∀ e ∈ t, e.2.Nodup ∧ e.2.length ≤ 1000
  ws : waysFrom 1 t ≤ 1000
  rq : ∀ r ∈ rs, RSeq t r
  ro : ∀ r ∈ rs, RStr r
  rl : rs.length ≤ 1000
  rr : ∀ r ∈ rs, r.length ≤ 1000
/-- facts as dict(..) takes them -/
def FaZ (K : PySem.W.Frag) (H : Hp) (v : V) (d : PyData) : Prop := ∃ (q : Addr) (zs : List V) (gs : List PyData), v = .ref q ∧ (SqL K H q zs ∨ SqZ H q zs) ∧ rowOf d = some gs ∧ DpAll K H zs gs
def spFillings (K : PySem.W.Frag) (C CV : Addr) : Sp := fun vs H Q E => ∃ (x pf pr : Addr) (v : V) (t : Tbl) (rs : List (List Pr)) (d : PyData), vs = [.ref x, v] ∧ FormAt C H x pf pr ∧ TabAt K H pf t ∧ RulesAt K H pr rs ∧ FormOk t rs ∧ Dp K H v d ∧ FOk d ∧ (areFacts t d = true → FaZ K H v d) ∧
  (areFacts t d = false → ∀ dd H', Same H H' → H' dd = none → E (.ref CV) (some dd) (L2.upd H' dd (.xd [("at", .int 1)]))) ∧ (areFacts t d = true → ∀ z H', Same H H' → RowsAt K H' z (fills rs (factsOf d) t) → Q (.ref z) H')
def spRowsFit (K : PySem.W.Frag) (C : Addr) : Sp := fun vs H Q _ => ∃ (x pf pr : Addr) (v : V) (t : Tbl) (rs : List (List Pr)) (d : PyData), vs = [.ref x, v] ∧ FormAt C H x pf pr ∧ TabAt K H pf t ∧ RulesAt K H pr rs ∧ FormOk t rs ∧ areFacts t d = true ∧ FaZ K H v d ∧
  ∀ z H', Same H H' → RowsAt K H' z (fills rs (factsOf d) t) → Q (.ref z) H'
/-- what is known of BadValue -/
structure Bv (K : PySem.W.Frag) (mg : Str → Option Value) (CV : Addr) : Prop where
  v : ∃ fI qual, XM.XcT K CV fI "at" qual
  gv : mg "BadValue" = some (.ref CV)
theorem pi_rowK {X : Cx} {tg e : Expr} {te : TE} (K : PySem.W.Frag) (h : X.K = K) (he : PE X e te) : PI X tg e (iRow K te) := by
  subst h
  exact pi_row he
abbrev nFill : List Str := ["form", "facts", "value_of", "rows", "name", "values", "value", "pairs", "pair", "bars", "row"]
section
variable {P : Program} {w : World} {K : PySem.W.Frag} {mg : Str → Option Value} {base : Heap}
theorem scFill : FnScope nFill ["form", "facts"] (defScope sRowsThatFit) := ⟨rfl, rfl, rfl, by decide +kernel, rfl, by decide +kernel, by decide +kernel⟩
theorem ok_rowsfit {f C : Addr} {fd : FuncData} (F : Fun K "rows_that_fit" "rows_that_fit" sRowsThatFit f fd) (Z : Fk P w K mg base C) (Td : mg "dict" = none) (Tt : mg "tuple" = none)
    (KB : Kn P w K mg base 2 "_bars" ["form", "pair"] (spBars K C)) (KS : Kn P w K mg base 1 "_one_stands" ["lots", "row"] (spStands K)) : FnOk P w K mg base CX0 3 f fd ["form", "facts"] (spRowsFit K C) := by
  obtain ⟨fB, fdB, GB, kB, bB, mB⟩ := KB.ex
  obtain ⟨fS, fdS, GS, kS, bS, mS⟩ := KS.ex
  obtain ⟨fG, fdG, GG, bG, mG⟩ := Z.gf
  refine F.ok scFill (fun vs H Q E h => ?_) (fun cdv A outer s H vs Q E hr h => ?_)
  · obtain ⟨x, pf, pr, v, t, rs, d, rfl, _⟩ := h
    rfl
  have vd_ : PySem.bootBuiltins "dict" = some (.type "dict") := by decide +kernel
  have vt_ : PySem.bootBuiltins "tuple" = some (.type "tuple") := by decide +kernel
  have hr1 : Room 1 _ := hr.mono (by decide)
  have hu1 : (A.deeper (PyProof.Rows.envOfC "rows_that_fit" (defScope sRowsThatFit) s.heap.objs.size f cdv)).units + 1 < cLine := hu_of hr
  have hu0 : (A.deeper (PyProof.Rows.envOfC "rows_that_fit" (defScope sRowsThatFit) s.heap.objs.size f cdv)).units < cLine := by omega
  refine ⟨_, pss_cons (ps_set (i := 2) scFill.nd rfl (.inr rfl) (pe_callTy (call_dictZ (by rfl)) rfl Td vd_ (pa_cons (pv 1) pa_nil)))
    (pss_cons (ps_set (i := 3) scFill.nd rfl (.inl rfl) (pe_lst (pa_cons (pe_tupZ pa_nil) pa_nil)))
    (pss_cons (ps_for PassesOwn.never rfl (pi_row (pe_meth0 (pv 0) Z.fc.cl mG GG hr1 bG .nil pass0)) (pg_row rfl (pgs_cons (pg_name (i := 4) scFill.nd rfl (.inr rfl)) (pgs_cons (pg_name (i := 5) scFill.nd rfl (.inl rfl)) pgs_nil)))
      (pss_cons (ps_set (i := 7) scFill.nd rfl (.inr rfl) (pe_lc (own := [("value", 6)]) (g := gName 6) (by rfl) scFill.nd (pi_row (pv 5)) (blkOk_by (N := nFill) (sc := defScope sRowsThatFit) (by decide +kernel))
        (fun _ _ _ _ _ => pg_name (i := 6) scFill.nd rfl (.inl rfl)) (fun _ _ _ _ _ => pts_one (pt_cmpR op_eq (pe_dget2 hu1 (pv 2) (pv 4) (pv 6) ⟨rfl, rfl, rfl, rfl⟩) (pv 6) (nomark _)))
        (fun _ _ _ _ _ => pe_tup (pa_cons (pv 4) (pa_cons (pv 6) pa_nil)))))
      (pss_cons (ps_set (i := 9) scFill.nd rfl (.inr rfl) (XK.pe_dcT (own := [("pair", 8)]) (g := gName 8) (tt := tYes) hu0 (by rfl) scFill.nd (pi_row (pv 7)) (blkOk_by (N := nFill) (sc := defScope sRowsThatFit) (by decide +kernel))
        (fun _ _ _ _ _ => pg_name (i := 8) scFill.nd rfl (.inl rfl)) (fun _ _ _ _ _ => pts_nil) (fun _ _ _ _ _ => pv 8) (fun _ _ _ _ _ => pe_call GB (hr.mono (by decide)) rfl mB kB bB .nil pass0 (pa_cons (pv 0) (pa_cons (pv 8) pa_nil)))))
      (pss_one (ps_setLc2 (i := 3) (own := [("row", 10), ("pair", 8)]) (vs1 := [8]) (g := gName 10) (g1 := gName 8) (tt := tYes) (by rfl) scFill.nd rfl rfl (sw_true rfl rfl rfl (by decide +kernel)) (pi_row (pv 3)) (blkOk_by (N := nFill) (sc := defScope sRowsThatFit) (by decide +kernel)) (by decide)
        (fun _ _ _ _ _ => pg_name (i := 10) scFill.nd rfl (.inl rfl)) (fun _ _ _ _ _ => pts_nil) (fun _ _ _ _ _ => pi_rowK K rfl (pv 7)) (fun _ _ _ _ _ => pg_name (i := 8) scFill.nd rfl (.inl rfl))
        (fun _ _ _ _ _ => pts_one (pt_not (pt_val (pe_call GS hr1 rfl mS kS bS .nil pass0 (pa_cons (pe_dget hu1 (pv 9) (pv 8) (fun _ _ => rfl)) (pa_cons (pv 10) pa_nil))))))
        (fun _ _ _ _ _ => pe_op (op_catAK K rfl) (pv 10) (pe_tupZ (pa_cons (pv 8) pa_nil))))))))
    (pss_one (ps_ret (pe_callTy (call_tupK K rfl) rfl Tt vt_ (pa_cons (pv 3) pa_nil)))))), ?_⟩
  obtain ⟨x, pf, pr, v, t, rs, d, rfl, ⟨dx, hx⟩, hT, hR, O, eA, hz, kyes⟩ := h
  obtain ⟨q, zs, gs, rfl, hq, er, hzs⟩ := hz
  have s1 := Same.refl H
  obtain ⟨ps, kvs, rfl, hF, hnd, _, hin⟩ := facts_good hzs (facts_go er eA).2
  have ef : factsOf d = gs.map factOf := by
    unfold factsOf
    rw [er]
  rw [← ef] at hF hnd hin
  refine ⟨_, rfl, q, ps, kvs, rfl, hq.elim (fun z => .inl (s1.seq z)) (fun z => .inr (z.same s1)), (hF.same s1).prs, fun C1 hC1 => ?_⟩
  have hmk : mergeK [] kvs = kvs := (merge_nodup kvs [] (fun _ _ => rfl) (by rw [hF.keys]; exact nodup_inr hnd)).trans (List.nil_append kvs)
  rw [hmk]
  have s2 : Same H (L2.upd H C1 (.dK kvs)) := new_same hC1 _
  have s02 := s1.trans s2
  have hC2 := upd_same (H := H) (a := C1) (o := .dK kvs)
  generalize L2.upd H C1 (.dK kvs) = H2 at s2 s02 hC2
  try dsimp only
  refine ⟨by show 0 ≤ sizeLine; decide, fun u1 o1 hu1' _ => ⟨by show 1 ≤ sizeLine; decide, fun R1 hR1 => ?_⟩⟩
  have s3 := new_same hu1' (.frz o1 (.tup []))
  have s4 := new_same hR1 (.lst [V.ref u1])
  have s04 := s02.trans (s3.trans s4)
  have hC4 := s4 _ _ (s3 _ _ hC2)
  have rows0 : RowAt K (L2.upd (L2.upd H2 u1 (.frz o1 (.tup []))) R1 (.lst [V.ref u1])) (.ref u1) [] := ⟨u1, [], rfl, .inl (.inr ⟨o1, s4 _ _ upd_same⟩), .nil⟩
  have hR4 := upd_same (H := L2.upd H2 u1 (.frz o1 (.tup []))) (a := R1) (o := .lst [V.ref u1])
  generalize L2.upd (L2.upd H2 u1 (.frz o1 (.tup []))) R1 (.lst [V.ref u1]) = H4 at s04 hC4 rows0 hR4 s4
  try dsimp only
  obtain ⟨ps0, tk, hpz, hTR, _, _⟩ := hT
  have htl : (ps0.map V.ref).length = t.length := by rw [List.length_map, hTR.len.1]
  have hx4 := s04 _ _ hx
  refine for_row (ys := ps0.map V.ref) (H0 := H4) (fun i σ H' => ∃ (Rw : Addr) (f4 f5 f7 f9 : Option V) (ws : List V), σ = [some (.ref x), some (.ref q), some (.ref C1), some (.ref Rw), f4, f5, none, f7, none, f9, none] ∧ SqL K H' Rw ws ∧ Paired (RowAt K H') ws ((t.take i).foldl (longer rs (factsOf d)) [[]]) ∧ Same H4 H') (fun Q' z => ⟨_, rfl, x, dx, _, rfl, hx4, noF, x, pf, pr, rfl, ⟨dx, hx4⟩, z⟩)
    (.inr (hpz.same s04).sqT) ⟨R1, none, none, none, none, [.ref u1], rfl, SqL.of hR4, .cons rows0 .nil, Same.refl H4⟩ (fun i σ H' hP => by obtain ⟨_, _, _, _, _, _, _, _, _, z⟩ := hP; exact z) ?_ ?_
  · rintro i y σ H5 hi ⟨Rw, f4, f5, f7, f9, ws, rfl, hRw, hrows, s5⟩ hy
    obtain ⟨q1, v1, n, vals, rfl, e1, e2, e3⟩ := hTR.at hy
    have hmem := List.mem_of_getElem? e1
    have hvs : (vals.map V.str).length ≤ 1000 := by rw [List.length_map]; exact (O.vn _ hmem).2
    have s05 := s04.trans s5
    let fs := factsOf d
    have hC5 := s5 _ _ hC4
    refine .inl ⟨q1, _, rfl, seqT_same s05 e2, rfl, .str n, _, rfl, .ref v1, [], rfl, rfl, ?_⟩
    refine asg_lcX ?_
    refine lc_g (ys := vals.map V.str) (fun i v R => ∃ p, v = .ref p ∧ PairAt R p (n, vals.getD i Str.empty)) (fun i => letV fs n (vals.getD i Str.empty)) (fun i v R R' s ⟨p, e, h⟩ => ⟨p, e, h.same s⟩) (fun Q' z => ⟨_, rfl, z⟩) (.inr (seqT_same s05 e3)) hvs (fun D j y H' yes no AD s6 s7 hy hyes hno => ?_) (fun D7 H7 zs7 hD7 s7 hz7 hP7 => ?_)
    · obtain ⟨val, ev, rfl⟩ : ∃ val, vals[j]? = some val ∧ y = .str val := by
        rw [List.getElem?_map] at hy
        obtain ⟨p, a, b⟩ := Option.map_eq_some_iff.mp hy
        exact ⟨p, a, b.symm⟩
      have eg := getD_of (d := Str.empty) ev
      refine ⟨rfl, ?_⟩
      refine ⟨_, rfl, C1, rfl, .inl ⟨_, .inl (s6 _ _ hC5)⟩, _, rfl, _, rfl, _, DGet.k (k := .inr n) (s6 _ _ hC5), ?_⟩
      rw [hF.val]
      have eo : ((pick n (factsOf d)).map V.str).getD (.str val) = .str ((pick n (factsOf d)).getD val) := by
        cases pick n (factsOf d) <;> rfl
      rw [eo]
      refine ⟨_, rfl, rfl, _, rfl, ?_⟩
      have ed : decide (V.str ((pick n (factsOf d)).getD val) = V.str val) = letV fs n (vals.getD j Str.empty) := by
        rw [eg]
        exact decide_eq_decide.mpr ⟨fun z => V.str.inj z, fun z => by rw [z]⟩
      rw [ed]
      cases hs : letV fs n (vals.getD j Str.empty) with
      | false => exact iteF (hno hs _ (Same.refl _))
      | true =>
        refine iteT ⟨_, rfl, _, rfl, by show 2 ≤ sizeLine; decide, fun p hp => ?_⟩
        refine hyes hs _ _ (new_same hp _) ⟨p, rfl, ?_⟩
        show rmL [D] _ p = _
        rw [rm_new AD hp, eg]
    have hsel : ((List.range (vals.map V.str).length).filter fun i => letV fs n (vals.getD i Str.empty)).map (fun i => ((n, vals.getD i Str.empty) : Pr)) = prsOf fs (n, vals) := by
      unfold prsOf
      conv => rhs; rw [← map_range vals Str.empty]
      rw [List.length_map, List.filter_map, List.map_map] <;> rfl
    obtain ⟨ps7, rfl, hp7⟩ := refs_of hP7
    rw [hsel] at hp7
    have hp7 : Paired (PairAt H7) ps7 (prsOf fs (n, vals)) := prd_imp (fun _ _ z => z.same rm_le) hp7
    have hl7 := prd_len hp7
    have hpl : (prsOf fs (n, vals)).length ≤ 1000 := by
      unfold prsOf
      rw [List.length_map]
      exact Nat.le_trans (List.length_filter_le _ _) (by rw [List.length_map] at hvs; exact hvs)
    have pok : ∀ e ∈ prsOf fs (n, vals), PyData.strOk e.1 = true ∧ PyData.strOk e.2 = true := fun e he => by
      unfold prsOf at he
      obtain ⟨v, hv, rfl⟩ := List.mem_map.mp he
      exact ⟨(O.ts _ hmem).1, (O.ts _ hmem).2 _ (List.mem_filter.mp hv).1⟩
    have s07 := s05.trans s7
    try dsimp only
    refine asg_dcT ?_
    refine dcT_g (ys := ps7.map V.ref) ((prsOf fs (n, vals)).map keyOf) (fun i v R => ∃ z, v = .ref z ∧ LotsAt K R z (barsOf rs ((prsOf fs (n, vals)).getD i d0))) (fun i v R R' s ⟨p, e, h⟩ => ⟨p, e, h.same s⟩) (fun Q' z => ⟨_, rfl, z⟩) (.inl (SqL.of hz7)) (by rw [List.length_map, List.length_map, hl7]) (keys_nodup (prs_nodup (O.vn _ hmem).1)) (by rw [List.length_map]; omega) (fun D j y H' yes hDT s8 s9 hy hyes => ?_) (fun D9 H9 zs9 hD9 s9 hz9 hl9 hP9 => ?_)
    · obtain ⟨p, ep, rfl⟩ : ∃ p, ps7[j]? = some p ∧ y = .ref p := by
        rw [List.getElem?_map] at hy
        obtain ⟨p, a, b⟩ := Option.map_eq_some_iff.mp hy
        exact ⟨p, a, b.symm⟩
      obtain ⟨e, ee, hpe⟩ := prd_at hp7 ep
      have eg := getD_of (d := d0) ee
      obtain ⟨es, hes⟩ := hDT
      obtain ⟨pe1, pe2⟩ := pok e (List.mem_of_getElem? ee)
      have s08 := s07.trans s8
      have hpe8 := hpe.same s8
      refine ⟨rfl, _, rfl, _, rfl, _, rfl, x, pf, pr, p, rs, e, rfl, ⟨dx, s08 _ _ hx⟩, rulesAtS s08 hR, fun r hr => ⟨O.ro r hr, (O.rq r hr).1⟩, O.rl, .inl (.inl hpe8), pe1, pe2, fun z H'' sz hl => ?_⟩
      refine hyes (keyOf e) p (.ref z) H'' (by rw [List.getElem?_map, ee] <;> rfl) (hpe8.same sz) sz ⟨z, rfl, ?_⟩
      rw [eg]
      exact hl.dT (sz _ _ hes)
    try dsimp only
    have hp9 : Paired (PairAt H9) ps7 (prsOf fs (n, vals)) := prd_imp (fun _ _ z => z.same s9) hp7
    have s59 := s7.trans s9
    have hrows9 : Paired (RowAt K H9) ws ((t.take i).foldl (longer rs fs) [[]]) := prd_imp (fun _ _ z => z.same s59) hrows
    have hwl := prd_len hrows9
    have next : (t.take (i + 1)).foldl (longer rs fs) [[]] = longer rs fs ((t.take i).foldl (longer rs fs) [[]]) (n, vals) := by
      rw [take_one e1, List.foldl_append] <;> rfl
    have fewer : (longer rs fs ((t.take i).foldl (longer rs fs) [[]]) (n, vals)).length ≤ 1000 := by
      rw [← next]
      exact Nat.le_trans (fills_len _ _ 1 (Nat.le_refl 1)) (Nat.le_trans (ways_take _ _ _ O.lo) O.ws)
    have hp7l : (ps7.map V.ref).length = (prsOf fs (n, vals)).length := by rw [List.length_map, hl7]
    have hti : (t.take i).length ≤ 1000 := by
      rw [List.length_map] at htl
      rw [List.length_take]
      omega
    have hrowlen : ∀ row ∈ (t.take i).foldl (longer rs fs) [[]], row.length ≤ i := fun row hr => by
      have := fold_names (t.take i) [[]] [] (fun x hx => by rw [List.mem_singleton.mp hx] <;> rfl) row hr
      have := congrArg List.length this
      rw [List.length_map, List.nil_append, List.length_map, List.length_take] at this
      omega
    have hrowstr : ∀ row ∈ (t.take i).foldl (longer rs fs) [[]], RStr row := fun row hr => fold_all (ok := fun e => PyData.strOk e.1 = true ∧ PyData.strOk e.2 = true) (t.take i) [[]] (fun x hx => by rw [List.mem_singleton.mp hx]; exact fun e he => absurd he List.not_mem_nil)
      (fun y hy v hv => ⟨(O.ts y (List.mem_of_mem_take hy)).1, (O.ts y (List.mem_of_mem_take hy)).2 v hv⟩) row hr
    generalize hrw : (t.take i).foldl (longer rs fs) [[]] = rows at hrows hrows9 hwl next fewer hrowlen hrowstr
    refine asg_lc2 ?_
    refine lc_g2 (ys := ws) (us := ps7.map V.ref) (fun ij v R => RowAt K R v (rows.getD ij.1 [] ++ [(prsOf fs (n, vals)).getD ij.2 d0])) (fun i j => !oneStands (barsOf rs ((prsOf fs (n, vals)).getD j d0)) (rows.getD i [])) (fun i v R R' s h => h.same s) (fun Q' z => ⟨_, rfl, z⟩) (.inl (s59.seq hRw)) (.inl (SqL.of (s9 _ _ hz7))) ?_ (fun D k y H' AD s10 s11 hy rest step => ?_) (fun D H' zs hD s10 hz10 hP10 => ?_)
    · rw [hwl, hp7l, ← List.length_map, grid_longer]
      exact fewer
    · -- one row
      obtain ⟨row, erow, hrowk⟩ := prd_at hrows9 hy
      have erg := getD_of (d := ([] : List Pr)) erow
      obtain ⟨pr0, qs0, rfl, hr0, hqs0⟩ := hrowk
      have rmem := List.mem_of_getElem? erow
      refine step _ rfl (fun R' z => ⟨_, rfl, z⟩) fun j u H3 yes no AD3 s12 s13 hu hyes hno => ?_
      obtain ⟨p, ep, rfl⟩ : ∃ p, ps7[j]? = some p ∧ u = .ref p := by
        rw [List.getElem?_map] at hu
        obtain ⟨p, a, b⟩ := Option.map_eq_some_iff.mp hu
        exact ⟨p, a, b.symm⟩
      obtain ⟨e, ee, hpe⟩ := prd_at hp9 ep
      have eg := getD_of (d := d0) ee
      have hkl : j < (prsOf fs (n, vals)).length := (List.getElem?_eq_some_iff.mp ee).1
      obtain ⟨zb, hzb⟩ : ∃ zb, zs9[j]? = some zb := ⟨_, List.getElem?_eq_getElem (by rw [hl9, List.length_map]; exact hkl)⟩
      obtain ⟨zl, rfl, hzl⟩ := hP9 j zb hzb
      rw [eg] at hzl
      have hg := DGet.t (a := D9) (k := keyOf e) (s12 _ _ hz9) (s12 _ _ hpe)
      rw [valV_zip (keys_nodup (prs_nodup (O.vn _ hmem).1)) (by rw [List.getElem?_map, ee] <;> rfl) hzb] at hg
      refine ⟨rfl, ?_⟩
      refine ⟨_, rfl, _, rfl, D9, _, rfl, hg, _, rfl, zl, pr0, barsOf rs e, row, rfl, (hzl.same rm_le).same s12, ⟨qs0, seqT_same s12 hr0, prd_imp (fun _ _ z => .inl (.inl (s12 _ _ z))) hqs0⟩, fun l hl => ?_, hrowstr row rmem, fun H6 s14 => ⟨_, rfl, ?_⟩⟩
      · unfold barsOf at hl
        obtain ⟨r, hr', rfl⟩ := List.mem_map.mp hl
        have hr' := (List.mem_filter.mp hr').1
        refine ⟨fun y hy => O.ro r hr' y (List.dropLast_subset _ hy), ?_⟩
        rw [List.length_dropLast]
        have := O.rr r hr'
        omega
      · have hsel : (!oneStands (barsOf rs ((prsOf fs (n, vals)).getD j d0)) (rows.getD k [])) = !oneStands (barsOf rs e) row := by rw [eg, erg]
        cases ho : oneStands (barsOf rs e) row with
        | true => exact iteF (hno (by rw [hsel, ho] <;> rfl) _ s14)
        | false =>
          refine iteT ?_
          have done : ∀ (z : Addr) (H7 : Hp), Same H6 H7 → RowAt K (rmL [D] H7) (.ref z) (row ++ [e]) → yes (.ref z) H7 := fun z H7 s hz => hyes (by rw [hsel, ho] <;> rfl) _ _ (s14.trans s) (by
            show RowAt K (rmL [D] H7) (.ref z) (rows.getD k [] ++ [(prsOf fs (n, vals)).getD j d0])
            rw [eg, erg]
            exact hz)
          have AD6 : Alive [D] H6 := AD3.same s14
          refine ⟨_, rfl, _, rfl, by show 1 ≤ sizeLine; decide, fun y o hy' ho' => ?_⟩
          have sy := new_same hy' (.frz o (.tup [V.ref p]))
          have same6 : Same H9 (rmL [D] (L2.upd H6 y (.frz o (.tup [V.ref p])))) := s13.trans (rm_same (s14.trans sy))
          have hp6 : PairAt (rmL [D] (L2.upd H6 y (.frz o (.tup [V.ref p])))) p e := hpe.same same6
          have hq6 : Paired (PairAt (rmL [D] (L2.upd H6 y (.frz o (.tup [V.ref p]))))) qs0 row := prd_imp (fun _ _ z => z.same same6) hqs0
          refine ⟨pr0, y, qs0.map V.ref, [V.ref p], rfl, rfl, seqT_same ((s12.trans s14).trans sy) hr0, .inl (.inr ⟨o, upd_same⟩), ?_, fun e0 => ?_, fun _ z => (by cases z), fun _ _ z hz => ?_⟩
          · have := prd_len hqs0
            have := hrowlen row rmem
            refine le_line ?_
            rw [List.length_map, List.length_singleton]
            omega
          · have q0 : qs0 = [] := List.map_eq_nil_iff.mp e0
            subst q0
            cases hqs0
            exact done y _ sy ⟨y, [p], rfl, .inl (.inr ⟨o, rm_new AD6 hy'⟩), .cons hp6 .nil⟩
          · have sz := new_same hz (.tup (qs0.map V.ref ++ [V.ref p]))
            refine done z _ (sy.trans sz) ⟨z, qs0 ++ [p], rfl, .inl (.inl ?_), ?_⟩
            · rw [rm_new (AD6.same sy) hz, List.map_append] <;> rfl
            · exact prd_imp (fun _ _ z => z.same (rm_same sz)) (prd_snoc hq6 hp6)
    · have hP10 := vals_of hP10
      rw [hwl, hp7l, grid_longer, ← next] at hP10
      exact ⟨D, _, _, _, _, zs, rfl, SqL.of hz10, prd_imp (fun _ _ z => z.same rm_le) hP10, (s5.trans s59).trans s10⟩
  · rintro σ H5 ⟨Rw, f4, f5, f7, f9, ws, rfl, hRw, hrows, s5⟩
    rw [htl, List.take_of_length_le (Nat.le_refl _)] at hrows
    refine ⟨_, rfl, Rw, ws, rfl, .inl ⟨hRw, fun l o hl hod => ?_⟩⟩
    have sl := new_same hl (.frz o (.tup ws))
    exact kyes l _ ((s04.trans s5).trans sl) ⟨ws, .inl (.inr ⟨o, upd_same⟩), prd_imp (fun _ _ z => z.same sl) hrows⟩
end
end Q
set_option Elab.async false
set_option linter.all false
set_option maxRecDepth 100000
set_option maxHeartbeats 4000000
/-! ### what SAgree, SDue, SKnown have that speaks of no law's own defs -/
namespace Q
open PySem L2 XD
structure Known (t : List (Str × List Str)) (r : List (Str × Str)) : Prop where
  hi : r.length ≤ t.length
  nd : (r.map (·.1)).Nodup
  of : ∀ e ∈ r, ∃ ws, (e.1, ws) ∈ t ∧ e.2 ∈ ws
theorem mem_bySeq {t : Tbl} {b : List Pr} (h : ∀ e ∈ b, ∃ ws, (e.1, ws) ∈ t) (p : Pr) : p ∈ bySeq t b ↔ p ∈ b := by
  unfold bySeq
  rw [List.mem_flatMap]
  constructor
  · rintro ⟨e, _, he⟩
    exact (List.mem_filter.mp he).1
  · intro hp
    obtain ⟨ws, hw⟩ := h p hp
    exact ⟨(p.1, ws), hw, List.mem_filter.mpr ⟨hp, decide_eq_true rfl⟩⟩
theorem within_bySeq {t : Tbl} {b row : List Pr} (h : ∀ e ∈ b, ∃ ws, (e.1, ws) ∈ t) : within (bySeq t b) row = within b row := by
  rw [Bool.eq_iff_iff, within_iff, within_iff]
  exact ⟨fun g p hp => g p ((mem_bySeq h p).mpr hp), fun g p hp => g p ((mem_bySeq h p).mp hp)⟩
theorem filter_one {n : Str} : ∀ {b : List Pr}, (b.map (·.1)).Nodup → ((b.filter fun f => decide (f.1 = n)).map (·.1)).Sublist [n]
  | [], _ => List.nil_sublist _
  | x :: b, h => by
    rw [List.map_cons, List.nodup_cons] at h
    by_cases e : x.1 = n
    · rw [List.filter_cons_of_pos (by exact decide_eq_true e), List.map_cons, e]
      have : b.filter (fun f => decide (f.1 = n)) = [] := List.filter_eq_nil_iff.mpr fun y hy z => h.1 (by
        rw [e, ← of_decide_eq_true z]
        exact List.mem_map.mpr ⟨y, hy, rfl⟩)
      rw [this]
      exact List.Sublist.refl _
    · have e2 : ¬ (decide (x.1 = n)) = true := fun z => e (of_decide_eq_true z)
      rw [List.filter_cons_of_neg (p := fun f : Pr => decide (f.1 = n)) e2]
      exact filter_one h.2
theorem bySeq_sub {b : List Pr} (h : (b.map (·.1)).Nodup) : ∀ t : Tbl, ((bySeq t b).map (·.1)).Sublist (t.map (·.1))
  | [] => List.nil_sublist _
  | e :: t => by
    have ih := bySeq_sub h t
    unfold bySeq at ih ⊢
    rw [List.flatMap_cons, List.map_append, List.map_cons]
    exact (filter_one h).append ih
theorem once_mem {rs : List (List Pr)} {r : List Pr} : r ∈ once rs ↔ r ∈ rs := by
  have : ∀ (l acc : List (List Pr)), r ∈ l.foldl (fun acc r => if r ∈ acc then acc else acc ++ [r]) acc ↔ r ∈ acc ∨ r ∈ l := by
    intro l
    induction l with
    | nil => intro acc; simp
    | cons x l ih =>
      intro acc
      rw [List.foldl_cons, ih]
      by_cases h : x ∈ acc
      · rw [if_pos h, List.mem_cons]
        constructor
        · rintro (a | a)
          · exact .inl a
          · exact .inr (.inr a)
        · rintro (a | a | a)
          · exact .inl a
          · rw [a]; exact .inl h
          · exact .inr a
      · rw [if_neg h, List.mem_append, List.mem_singleton, List.mem_cons]
        constructor
        · rintro ((a | a) | a)
          · exact .inl a
          · exact .inr (.inl a)
          · exact .inr (.inr a)
        · rintro (a | a | a)
          · exact .inl (.inl a)
          · exact .inl (.inr a)
          · exact .inr a
  unfold once
  rw [this]
  simp
theorem once_le (rs : List (List Pr)) : (once rs).length ≤ rs.length := by
  have : ∀ (l acc : List (List Pr)), (l.foldl (fun acc r => if r ∈ acc then acc else acc ++ [r]) acc).length ≤ acc.length + l.length := by
    intro l
    induction l with
    | nil => intro acc; simp
    | cons x l ih =>
      intro acc
      rw [List.foldl_cons]
      refine Nat.le_trans (ih _) ?_
      by_cases h : x ∈ acc
      · rw [if_pos h, List.length_cons]
        omega
      · rw [if_neg h, List.length_append, List.length_singleton, List.length_cons]
        omega
  have := this rs []
  unfold once
  rw [List.length_nil, Nat.zero_add] at this
  exact this
theorem pick_of {n w : Str} : ∀ {r : List Pr}, (r.map (·.1)).Nodup → (n, w) ∈ r → pick n r = some w
  | (m, u) :: r, h, hm => by
    rw [List.map_cons, List.nodup_cons] at h
    unfold pick
    rcases List.mem_cons.mp hm with e | e
    · cases e
      rw [if_pos rfl]
    · rw [if_neg (fun z => h.1 (by have z : m = n := z; show m ∈ _; rw [z]; exact List.mem_map.mpr ⟨_, e, rfl⟩))]
      exact pick_of h.2 e
theorem pick_memS {n w : Str} : ∀ {r : List Pr}, pick n r = some w → (n, w) ∈ r
  | (m, u) :: r, h => by
    unfold pick at h
    by_cases e : m = n
    · rw [if_pos e] at h
      cases h
      rw [e]
      exact List.mem_cons_self
    · rw [if_neg e] at h
      exact List.mem_cons_of_mem _ (pick_memS h)
theorem all_let {t : Tbl} {kn row : List Pr} (nd : (t.map (·.1)).Nodup) (kd : (kn.map (·.1)).Nodup) (kt : ∀ e ∈ kn, ∃ ws, (e.1, ws) ∈ t) (hn : row.map (·.1) = t.map (·.1)) : (row.all fun p => letV kn p.1 p.2) = within kn row := by
  rw [Bool.eq_iff_iff, List.all_eq_true, within_iff]
  have one : ∀ p ∈ row, ∀ q ∈ row, p.1 = q.1 → p = q := fun p hp q hq e => by
    obtain ⟨i, hi, rfl⟩ := List.mem_iff_getElem.mp hp
    obtain ⟨j, hj, rfl⟩ := List.mem_iff_getElem.mp hq
    rw [← hn] at nd
    have h1 : (row.map (·.1))[i]'(by rw [List.length_map]; exact hi) = (row.map (·.1))[j]'(by rw [List.length_map]; exact hj) := by rw [List.getElem_map, List.getElem_map, e]
    have := (List.getElem_inj nd).mp h1
    subst this
    rfl
  constructor
  · intro h e he
    obtain ⟨ws, hw⟩ := kt e he
    have : e.1 ∈ row.map (·.1) := by
      rw [hn]
      exact List.mem_map.mpr ⟨_, hw, rfl⟩
    obtain ⟨p, hp, hpe⟩ := List.mem_map.mp this
    have h1 := of_decide_eq_true (h p hp)
    rw [show p.1 = e.1 from hpe, pick_of kd (show (e.1, e.2) ∈ kn from he)] at h1
    have : p = e := Prod.ext hpe (Eq.symm h1)
    rw [← this]
    exact hp
  · intro h p hp
    refine decide_eq_true ?_
    cases e : pick p.1 kn with
    | none => rfl
    | some w =>
      have := h _ (pick_memS e)
      have := one _ this p hp rfl
      rw [← this] <;> rfl
theorem Ban.ne {t : Tbl} {m : Nat} {r : List Pr} (B : Ban t m r) : bySeq t r ≠ [] := by
  have h1 := B.lo
  cases hr : r with
  | nil =>
    rw [hr] at h1
    cases h1
  | cons x l =>
    have hx : x ∈ r := by rw [hr]; exact List.mem_cons_self
    have : x ∈ bySeq t r := (mem_bySeq (fun e he => by obtain ⟨ws, a, _⟩ := B.of e he; exact ⟨ws, a⟩) x).mpr hx
    rw [← hr]
    exact fun z => by rw [z] at this; cases this
theorem form_ok {t : Tbl} {rs : List (List Pr)} (G : Good t rs) : FormOk t (once (rs.map (bySeq t))) := by
  have T := G.tb
  have ts : TStr t := fun e he => ⟨word_ok (T.nm.2 _ (List.mem_map.mpr ⟨e, he, rfl⟩)), fun w hw => word_ok ((T.vs e he).1.2 w hw)⟩
  have key : ∀ r ∈ once (rs.map (bySeq t)), ∃ b ∈ rs, r = bySeq t b ∧ Ban t 4 b := fun r hr => by
    obtain ⟨b, hb, rfl⟩ := List.mem_map.mp (once_mem.mp hr)
    exact ⟨b, hb, rfl, G.bs b hb⟩
  refine ⟨T.nm.1, ts, fun e he => (T.vs e he).2.1, fun e he => ⟨(T.vs e he).1.1, by have := (T.vs e he).2.2; omega⟩, G.ws, fun r hr => ?_, fun r hr e he => ?_, ?_, fun r hr => ?_⟩
  · obtain ⟨b, hb, rfl, B⟩ := key r hr
    exact ⟨B.ne, bySeq_sub B.nd t⟩
  · obtain ⟨b, hb, rfl, B⟩ := key r hr
    have he := (mem_bySeq (fun e he => by obtain ⟨ws, a, _⟩ := B.of e he; exact ⟨ws, a⟩) e).mp he
    obtain ⟨ws, h1, h2⟩ := B.of e he
    exact ⟨(ts _ h1).1, (ts _ h1).2 _ h2⟩
  · have := once_le (rs.map (bySeq t))
    rw [List.length_map] at this
    have := G.ln
    omega
  · obtain ⟨b, hb, rfl, B⟩ := key r hr
    have := (bySeq_sub B.nd t).length_le
    rw [List.length_map, List.length_map] at this
    have := T.hi
    omega
theorem chs_all {ok : Pr → Prop} : ∀ (t1 : Tbl) (rows : List (List Pr)), (∀ row ∈ rows, ∀ e ∈ row, ok e) → (∀ x ∈ t1, ∀ v ∈ x.2, ok (x.1, v)) → ∀ row ∈ t1.foldl wider rows, ∀ e ∈ row, ok e
  | [], rows, h, _ => h
  | x :: t1, rows, h, g => chs_all t1 (wider rows x) (fun row hr => by
      obtain ⟨y, hy, hx⟩ := List.mem_flatMap.mp hr
      obtain ⟨v, hv, rfl⟩ := List.mem_map.mp hx
      intro e he
      rcases List.mem_append.mp he with he | he
      · exact h y hy e he
      · rw [List.mem_singleton.mp he]
        exact g x List.mem_cons_self v hv) (fun y hy => g y (List.mem_cons_of_mem _ hy))
theorem chs_str {t : Tbl} (h : TStr t) : ∀ row ∈ chs t, RStr row := fun row hr => chs_all (ok := fun e => PyData.strOk e.1 = true ∧ PyData.strOk e.2 = true) t [[]] (fun x hx => by rw [List.mem_singleton.mp hx]; exact fun e he => absurd he List.not_mem_nil)
  (fun y hy v hv => ⟨(h y hy).1, (h y hy).2 v hv⟩) row hr
theorem chs_len : ∀ (t : Tbl) (rows : List (List Pr)), (t.foldl wider rows).length = waysFrom rows.length t
  | [], rows => rfl
  | e :: t, rows => by
    rw [List.foldl_cons, chs_len t]
    show waysFrom (wider rows e).length t = waysFrom (rows.length * e.2.length) t
    have : (wider rows e).length = rows.length * e.2.length := by
      unfold wider
      induction rows with
      | nil => simp
      | cons r rows ih => rw [List.flatMap_cons, List.length_append, List.length_map, ih, List.length_cons, Nat.succ_mul, Nat.add_comm]
    rw [this]
theorem known_facts {t : Tbl} {r : List Pr} {d : PyData} (T : TabOk t) (N : Known t r) (h : FRule r d) : areFacts t d = true ∧ factsOf d = r ∧ FOk d := by
  obtain ⟨gs, e, hp⟩ := h
  have hl : gs.length = r.length := prd_len hp
  refine ⟨?_, ?_, fun fs ef f hf a b ep => ?_⟩
  · unfold areFacts
    rw [e]
    show (decide (gs.length ≤ t.length) && goFacts t [] gs) = true
    rw [decide_eq_true (by have := N.hi; omega : gs.length ≤ t.length), go_of T.nm.1 hp N.nd (fun _ _ z => by cases z) N.of] <;> rfl
  · unfold factsOf
    rw [e]
    show gs.map factOf = r
    conv => rhs; rw [← List.map_id r]
    refine prd_map (fun g e h => ?_) hp
    unfold factOf
    rw [h] <;> rfl
  · rw [e] at ef
    cases ef
    obtain ⟨e, he, h1⟩ := prd_mem hp f hf
    rw [ep] at h1
    cases h1
    obtain ⟨ws, h2, h3⟩ := N.of e he
    exact str_shaped (word_ok ((T.vs _ h2).1.2 _ h3))
/-- rows as data -/
def rowsD (rows : List (List Pr)) : PyData := .tuple (rows.map ruleD)
theorem rows_dps {K : PySem.W.Frag} {H : Hp} : ∀ {vs : List V} {rows : List (List Pr)}, Paired (RowAt K H) vs rows → DpAll K H vs (rows.map ruleD)
  | _, _, .nil => .nil
  | _, _, .cons a b => by
    obtain ⟨p, rfl, h⟩ := a.lot
    exact .cons h.dp (rows_dps b)
theorem RowsAt.dp {K : PySem.W.Frag} {H : Hp} {z : Addr} {rows : List (List Pr)} (h : RowsAt K H z rows) : Dp K H (.ref z) (rowsD rows) := by
  obtain ⟨vs, a, b⟩ := h
  exact .tup a (rows_dps b)
theorem lots_dps {K : PySem.W.Frag} {H : Hp} : ∀ {us : List Addr} {rows : List (List Pr)}, Paired (LotAt K H) us rows → DpAll K H (us.map V.ref) (rows.map ruleD)
  | _, _, .nil => .nil
  | _, _, .cons a b => .cons a.dp (lots_dps b)
theorem ds_rowsD {rows : List (List Pr)} (h : rows.length ≤ 1000) (g : ∀ r ∈ rows, r.length ≤ 1000) : Ds 5 (rowsD rows) := fun xs e => by
  cases e
  refine ⟨by rw [List.length_map]; exact h, fun x hx => ?_⟩
  obtain ⟨r, hr, rfl⟩ := List.mem_map.mp hx
  intro xs e
  cases e
  refine ⟨by rw [List.length_map]; exact g r hr, fun x hx => ?_⟩
  obtain ⟨e, he, rfl⟩ := List.mem_map.mp hx
  intro xs e
  cases e
  refine ⟨Nat.le_of_ble_eq_true rfl, fun x hx => ?_⟩
  simp only [List.mem_cons, List.not_mem_nil, or_false] at hx
  rcases hx with rfl | rfl <;> exact fun xs e => by cases e
theorem asg_last {wi : TI} {g : TG} {tt : TT} {te : TE} {vs : List Nat} {D : Ends} {σ : L2.St} {H : Hp} {i : Nat} (h : tLc wi g tt te vs σ H fun v H1 => D.nx (σ.set i (some v)) H1) : tAsg (tLc wi g tt te vs) (gName i) D σ H := h
theorem call_listK {X : Cx} (K : PySem.W.Frag) (h : X.K = K) : CallR X (.type "list") (fun xs H Q => ∃ p ys, xs = [.ref p] ∧ (SqL K H p ys ∨ SqT K H p ys) ∧ ∀ l, H l = none → Q (.ref l) (L2.upd H l (.lst ys))) := by
  subst h
  exact call_list_of
def lstD (l : List Pr) : PyData := .list (l.map fun e => .list [.str e.1, .str e.2])
theorem lst_pairs : ∀ r : List Pr, Paired (fun g (e : Pr) => pairOf g = some (.str e.1, .str e.2)) (r.map fun e => .list [.str e.1, .str e.2]) r
  | [] => .nil
  | e :: r => .cons rfl (lst_pairs r)
theorem lst_dps {K : PySem.W.Frag} {H : Hp} : ∀ {qs : List Addr} {l : List Pr}, Paired (fun q (e : Pr) => H q = some (.lst [.str e.1, .str e.2])) qs l → DpAll K H (qs.map V.ref) (l.map fun e => .list [.str e.1, .str e.2])
  | _, _, .nil => .nil
  | _, _, .cons a b => .cons (.lst (SqL.of a) (.cons (.str _) (.cons (.str _) .nil))) (lst_dps b)
end Q
set_option Elab.async false
set_option linter.all false
set_option maxRecDepth 100000
set_option maxHeartbeats 4000000
/-! ### _law_model -/
namespace Q
open PySem L2 XD
theorem perm_inj {α : Type} {f : α → V} (inj : ∀ x y, f x = f y → x = y) {ys zs : List V} {us : List α} (h : (ys ++ zs).Perm (us.map f)) (nd : us.Nodup) : ∃ ns : List α, ys = ns.map f ∧ ns.Nodup ∧ ∀ x ∈ ns, x ∈ us := by
  have hmem : ∀ y ∈ ys, ∃ s, s ∈ us ∧ f s = y := fun y hy => by
    have := h.subset (List.mem_append_left _ hy)
    exact List.mem_map.mp this
  have hnd : ys.Nodup := by
    have h2 : (us.map f).Nodup := List.pairwise_map.mpr (List.Pairwise.imp (fun hne z => hne (inj _ _ z)) nd)
    exact (List.nodup_append.mp (h.nodup_iff.mpr h2)).1
  have mk : ∀ (l : List V), (∀ y ∈ l, ∃ s, s ∈ us ∧ f s = y) → ∃ ns : List α, l = ns.map f ∧ ∀ x ∈ ns, x ∈ us := by
    intro l
    induction l with
    | nil => exact fun _ => ⟨[], rfl, fun x hx => absurd hx List.not_mem_nil⟩
    | cons y l ih =>
      intro hl
      obtain ⟨s, hs, rfl⟩ := hl y List.mem_cons_self
      obtain ⟨ns, rfl, hn⟩ := ih fun z hz => hl z (List.mem_cons_of_mem _ hz)
      refine ⟨s :: ns, rfl, fun x hx => ?_⟩
      rcases List.mem_cons.mp hx with rfl | hx
      · exact hs
      · exact hn x hx
  obtain ⟨ns, rfl, hn⟩ := mk ys hmem
  exact ⟨ns, rfl, List.Pairwise.imp (fun h z => h (by rw [z])) (List.pairwise_map.mp hnd), hn⟩
theorem str_inj (x y : Str) (h : V.str x = V.str y) : x = y := by
  cases h
  rfl
theorem nat_inj (x y : Nat) (h : V.int (x : Int) = V.int (y : Int)) : x = y := by
  have := V.int.inj h
  omega
/-- a rule of places and numbers of words -/
abbrev NB := List (Nat × Nat)
def prN (K : PySem.W.Frag) (H : Hp) (z : Addr) (p : Nat × Nat) : Prop := SqT K H z [.int (p.1 : Nat), .int (p.2 : Nat)]
def BanN (K : PySem.W.Frag) (H : Hp) (q : Addr) (b : NB) : Prop := ∃ zs : List Addr, SqT K H q (zs.map V.ref) ∧ Paired (prN K H) zs b
theorem prsN_same {K : PySem.W.Frag} {H H' : Hp} (s : Same H H') : ∀ {zs : List Addr} {b : NB}, Paired (prN K H) zs b → Paired (prN K H') zs b := prd_imp fun _ _ h => seqT_same s h
theorem prsN_tp {K : PySem.W.Frag} {H H' : Hp} {a b : Addr} (F : Tape b H a) (s : Kept a H H') {zs : List Addr} {bn : NB} : Paired (prN K H) zs bn → Paired (prN K H') zs bn := prd_imp fun _ _ h => seqT_tp F s h
theorem prsN_off {K : PySem.W.Frag} {H : Hp} {D : Addr} {acc acc' : List V} (hD : H D = some (.lst acc)) {zs : List Addr} {bn : NB} : Paired (prN K H) zs bn → Paired (prN K (upd H D (.lst acc'))) zs bn := prd_imp fun _ _ h => seqT_off h hD
theorem BanN.same {K : PySem.W.Frag} {H H' : Hp} {q : Addr} {b : NB} (s : Same H H') (h : BanN K H q b) : BanN K H' q b := by
  obtain ⟨zs, h1, h2⟩ := h
  exact ⟨zs, seqT_same s h1, prsN_same s h2⟩
theorem BanN.tp {K : PySem.W.Frag} {H H' : Hp} {a b q : Addr} {bn : NB} (F : Tape b H a) (s : Kept a H H') (h : BanN K H q bn) : BanN K H' q bn := by
  obtain ⟨zs, h1, h2⟩ := h
  exact ⟨zs, seqT_tp F s h1, prsN_tp F s h2⟩
theorem BanN.off {K : PySem.W.Frag} {H : Hp} {D q : Addr} {acc acc' : List V} (hD : H D = some (.lst acc)) {bn : NB} (h : BanN K H q bn) : BanN K (upd H D (.lst acc')) q bn := by
  obtain ⟨zs, h1, h2⟩ := h
  exact ⟨zs, seqT_off h1 hD, prsN_off hD h2⟩
structure BanOk (t : Tbl) (b : NB) : Prop where
  lo : 1 ≤ b.length
  hi : b.length ≤ 4
  nd : (b.map (·.1)).Nodup
  of : ∀ p ∈ b, ∃ e, t[p.1]? = some e ∧ p.2 < e.2.length
structure ModelOk (t : Tbl) (bs : List NB) (cap : Nat) : Prop where
  tb : TabOk t
  ws : waysFrom 1 t ≤ cap
  ln : bs.length ≤ 7
  bs : ∀ b ∈ bs, BanOk t b
def ModelAt (K : PySem.W.Frag) (H : Hp) (m : Addr) (t : Tbl) (bs : List NB) : Prop := ∃ (B N : Addr) (ps : List Addr) (kvs : List (Key × V)) (qs : List Addr), SqT K H m [.ref B, .ref N] ∧ SqT K H B (ps.map V.ref) ∧ TabR K H ps kvs t ∧ SqT K H N (qs.map V.ref) ∧ Paired (BanN K H) qs bs
theorem ModelAt.same {K : PySem.W.Frag} {H H' : Hp} {m : Addr} {t : Tbl} {bs : List NB} (s : Same H H') (h : ModelAt K H m t bs) : ModelAt K H' m t bs := by
  obtain ⟨B, N, ps, kvs, qs, h1, h2, h3, h4, h5⟩ := h
  exact ⟨B, N, ps, kvs, qs, seqT_same s h1, seqT_same s h2, h3.same s, seqT_same s h4, prd_imp (fun _ _ z => z.same s) h5⟩
theorem ModelAt.tp {K : PySem.W.Frag} {H H' : Hp} {a b m : Addr} {t : Tbl} {bs : List NB} (F : Tape b H a) (s : Kept a H H') (h : ModelAt K H m t bs) : ModelAt K H' m t bs := by
  obtain ⟨B, N, ps, kvs, qs, h1, h2, h3, h4, h5⟩ := h
  exact ⟨B, N, ps, kvs, qs, seqT_tp F s h1, seqT_tp F s h2, h3.tp F s, seqT_tp F s h4, prd_imp (fun _ _ z => z.tp F s) h5⟩
theorem ways_put (t : Tbl) (e : Str × List Str) : waysFrom 1 (t ++ [e]) = waysFrom 1 t * e.2.length := by
  unfold waysFrom
  rw [List.foldl_append] <;> rfl
theorem asg_c {v : V} {i : Nat} {u : TS} {D : Ends} {σ : L2.St} {H : Hp} (h : u D (σ.set i (some v)) H) : tSeq (tAsg (tC v) (gName i)) u D σ H := h
theorem none_kept {H H' : Hp} {a D : Addr} (k : Kept a H H') (Da : D ≠ a) (h : H' D = none) : H D = none := by
  cases q : H D with
  | none => rfl
  | some o =>
    rw [k _ _ Da q] at h
    cases h
theorem none_tp {H H' : Hp} {a b D : Addr} (F : Tape b H' a) (k : Kept a H H') (h : H' D = none) : H D = none := none_kept k (F.ne h).1 h
def ix46 (c : Bool) : Nat := if c = true then 6 else 4
theorem at46 (c : Bool) : atI [V.int 4, V.int 6] (if c = true then 1 else 0) = some (.int (ix46 c : Nat)) := by
  cases c <;> rfl
theorem le46 (c : Bool) : 4 ≤ ix46 c ∧ ix46 c ≤ 6 := by
  cases c
  · exact ⟨by decide, by decide⟩
  · exact ⟨by decide, by decide⟩
theorem few46 (c : Bool) : ((ix46 c : Nat) : Int).natAbs < 2 ^ 200 := few200 (by have := le46 c; omega)
theorem lim46 (c : Bool) {r : Int} (h : r < (if ((ix46 c : Nat) : Int) > 1 then ((ix46 c : Nat) : Int) else 1)) : r < 6 := by
  have := le46 c
  split at h <;> omega
theorem add1 (n : Nat) : V.int ((1 : Int) + (n : Int)) = V.int ((1 + n : Nat) : Int) := by
  rw [Int.natCast_add] <;> rfl
theorem add1L (x y : V) (n : Nat) : [x, y, (fun i j : Int => V.int (i + j)) 1 (n : Int)] ++ [] = [x, y, V.int ((1 + n : Nat) : Int)] := by
  rw [← add1 n] <;> rfl
/-- while the book is made -/
structure Bk (K : PySem.W.Frag) (H0 : Hp) (a b PL N B : Addr) (pv nv : List V) (ps : List Addr) (kvs : List (Key × V)) (t : Tbl) (H : Hp) : Prop where
  p : H PL = some (.lst pv)
  n : H N = some (.lst nv)
  bk : H B = some (.lst (ps.map V.ref))
  tr : TabR K H ps kvs t
  tp : Tape b H a
  kp : Kept a H0 H
theorem Bk.same {K : PySem.W.Frag} {H0 H H' : Hp} {a b PL N B : Addr} {pv nv : List V} {ps : List Addr} {kvs : List (Key × V)} {t : Tbl} (h : Bk K H0 a b PL N B pv nv ps kvs t H) (s : Same H H') : Bk K H0 a b PL N B pv nv ps kvs t H' :=
  ⟨s _ _ h.p, s _ _ h.n, s _ _ h.bk, h.tr.same s, h.tp.same s, h.kp.trans (Kept.of_same s)⟩
theorem Bk.kept {K : PySem.W.Frag} {H0 H H' : Hp} {a b PL N B : Addr} {pv nv : List V} {ps : List Addr} {kvs : List (Key × V)} {t : Tbl} (h : Bk K H0 a b PL N B pv nv ps kvs t H) (k : Kept a H H') (F : Tape b H' a) : Bk K H0 a b PL N B pv nv ps kvs t H' :=
  ⟨lst_tp h.tp k h.p, lst_tp h.tp k h.n, lst_tp h.tp k h.bk, h.tr.tp h.tp k, F, h.kp.trans k⟩
/-- while the rules are made -/
structure Rl (K : PySem.W.Frag) (H0 : Hp) (a b B N : Addr) (ps : List Addr) (kvs : List (Key × V)) (t : Tbl) (qs : List Addr) (bs : List NB) (H : Hp) : Prop where
  bk : H B = some (.lst (ps.map V.ref))
  tr : TabR K H ps kvs t
  ls : H N = some (.lst (qs.map V.ref))
  bn : Paired (BanN K H) qs bs
  tp : Tape b H a
  kp : Kept a H0 H
theorem Rl.same {K : PySem.W.Frag} {H0 H H' : Hp} {a b B N : Addr} {ps : List Addr} {kvs : List (Key × V)} {t : Tbl} {qs : List Addr} {bs : List NB} (h : Rl K H0 a b B N ps kvs t qs bs H) (s : Same H H') : Rl K H0 a b B N ps kvs t qs bs H' :=
  ⟨s _ _ h.bk, h.tr.same s, s _ _ h.ls, prd_imp (fun _ _ z => z.same s) h.bn, h.tp.same s, h.kp.trans (Kept.of_same s)⟩
theorem Rl.kept {K : PySem.W.Frag} {H0 H H' : Hp} {a b B N : Addr} {ps : List Addr} {kvs : List (Key × V)} {t : Tbl} {qs : List Addr} {bs : List NB} (h : Rl K H0 a b B N ps kvs t qs bs H) (k : Kept a H H') (F : Tape b H' a) : Rl K H0 a b B N ps kvs t qs bs H' :=
  ⟨lst_tp h.tp k h.bk, h.tr.tp h.tp k, lst_tp h.tp k h.ls, prd_imp (fun _ _ z => z.tp h.tp k) h.bn, F, h.kp.trans k⟩
/-- a new list D is put to -/
theorem Rl.off {K : PySem.W.Frag} {H0 H : Hp} {a b B N D : Addr} {acc acc' : List V} {ps : List Addr} {kvs : List (Key × V)} {t : Tbl} {qs : List Addr} {bs : List NB} (h : Rl K H0 a b B N ps kvs t qs bs H) (hD : H D = some (.lst acc)) (h0 : H0 D = none) (nB : D ≠ B) (nN : D ≠ N) (nb : D ≠ b) : Rl K H0 a b B N ps kvs t qs bs (L2.upd H D (.lst acc')) := by
  have na : D ≠ a := fun z => by
    obtain ⟨kv, e⟩ := h.tp.dk
    rw [z, e] at hD
    cases hD
  exact ⟨by rw [upd_ne nB.symm]; exact h.bk, TabR.off hD h.tr, by rw [upd_ne nN.symm]; exact h.ls, prd_imp (fun _ _ z => z.off hD) h.bn, h.tp.off na nb, h.kp.new h0⟩
theorem rg_map (n : Nat) : rgV 0 (n : Int) = (List.range n).map fun (n : Nat) => V.int n := by
  unfold rgV
  have : ((n : Int) - 0).toNat = n := by omega
  rw [this]
  refine List.map_congr_left fun n _ => ?_
  show V.int (0 + (n : Int)) = V.int n
  rw [Int.zero_add]
end Q
set_option Elab.async false
set_option linter.all false
set_option maxRecDepth 100000
set_option maxHeartbeats 4000000
/-! ### _place, _values_there, _all_possible; possible, open_fields, forced -/
namespace Q
open PySem L2 XD
/-- the values that stand at the place -/
def possAt (rows : List (List Pr)) (t : Tbl) (i : Nat) : List Str := match t[i]? with
  | some e => e.2.filter fun v => decide ((e.1, v) ∈ rows.map fun row => row.getD i d0)
  | none => []
def spPlace (K : PySem.W.Frag) (C CB : Addr) : Sp := fun vs H Q E => ∃ (x pf pr : Addr) (v : V) (t : Tbl) (d : PyData), vs = [.ref x, v] ∧ FormAt C H x pf pr ∧ TabAt K H pf t ∧ TStr t ∧ Dp K H v d ∧ SeqAt.shaped d = true ∧
  ((∀ n, d = .str n → n ∉ t.map (·.1)) → ∀ dd H', Same H H' → H' dd = none → E (.ref CB) (some dd) (L2.upd H' dd (.xd [("name", v)]))) ∧
  ∀ i n ws, d = .str n → t[i]? = some (n, ws) → ∀ H', Same H H' → Q (.int (i : Nat)) H'
def spVals (K : PySem.W.Frag) (C : Addr) : Sp := fun vs H Q _ => ∃ (x pf pr z : Addr) (i : Nat) (t : Tbl) (rows : List (List Pr)), vs = [.ref x, .ref z, .int (i : Nat)] ∧ FormAt C H x pf pr ∧ TabAt K H pf t ∧ RowsAt K H z rows ∧ i < t.length ∧ rows.length ≤ 1000 ∧ (∀ row ∈ rows, row.length = t.length) ∧
  (∀ e ∈ t, e.2.length ≤ 1000) ∧ ∀ z' H', Same H H' → SqT K H' z' ((possAt rows t i).map V.str) → Q (.ref z') H'
theorem names_any (t : Tbl) (d : PyData) : (((t.map (·.1)).map PyData.str).any fun z => PyData.eqv z d) = match d with | .str n => decide (n ∈ t.map (·.1)) | _ => false := by
  cases d with
  | str n =>
    rw [Bool.eq_iff_iff, List.any_eq_true]
    show _ ↔ decide (n ∈ t.map (·.1)) = true
    rw [decide_eq_true_iff]
    constructor
    · rintro ⟨x, hx, e⟩
      obtain ⟨m, hm, rfl⟩ := List.mem_map.mp hx
      rw [PyData.eqv] at e
      rw [← of_decide_eq_true e]
      exact hm
    · intro h
      exact ⟨.str n, List.mem_map.mpr ⟨n, h, rfl⟩, by rw [PyData.eqv]; simp⟩
  | _ =>
    show _ = false
    rw [List.any_eq_false]
    intro x hx
    obtain ⟨m, hm, rfl⟩ := List.mem_map.mp hx
    simp [PyData.eqv]
theorem ret_cb {c : List V → Hp → VK → Prop} {tl : TE} {D : Ends} {σ : L2.St} {H : Hp} (h : tl σ H fun x H1 => c [x] H1 D.rt) : tRet (tCB c (tCons tl tNil)) D σ H := h
structure Bf (K : PySem.W.Frag) (mg : Str → Option Value) (CB : Addr) : Prop where
  b : ∃ fI qual, XM.XcT K CB fI "name" qual
  gb : mg "BadField" = some (.ref CB)
end Q
set_option Elab.async false
set_option linter.all false
set_option maxRecDepth 100000
set_option maxHeartbeats 4000000
namespace Q
open PySem L2 XD
/-- over range(n) -/
theorem lc_gr {n : Nat} {ta : TA} {g : TG} {tt : TT} {te : TE} {vs : List Nat} {σ : L2.St} {H : Hp} {Q : VK} (P : Nat → V → Hp → Prop) (sel : Nat → Bool)
    (mono : ∀ i v R R', Same R R' → P i v R → P i v R') (ht : ∀ Q' : List V → Hp → Prop, Q' [.int (n : Nat)] H → ta σ H Q') (hn : n ≤ 1000)
    (turn : ∀ (D : Addr) (i : Nat) (H' : Hp) (yes : VK) (no : Hp → Prop), (∃ acc, H' D = some (.lst acc)) → Same H H' → Same H (rmL [D] H') → i < n →
      (sel i = true → ∀ y H4, Same H' H4 → P i y (rmL [D] H4) → yes y H4) → (sel i = false → ∀ H4, Same H' H4 → no H4) →
      g (.int (i : Nat)) (wipe σ vs) H' fun σ2 H2 => wipe σ2 vs = wipe σ vs ∧ tt σ2 H2 fun b H3 => if b = true then te σ2 H3 yes else no H3)
    (hd : ∀ D H' zs, H D = none → Same H H' → H' D = some (.lst zs) → Paired (fun z i => P i z (rmL [D] H')) zs ((List.range n).filter sel) → Q (.ref D) H') : tLc (iRng1 ta) g tt te vs σ H Q := by
  refine ht _ ⟨_, rfl, ?_, ?_, fun D hD => ?_⟩
  · have : -(2 ^ 62 : Int) ≤ 0 := by decide
    omega
  · have : (1000 : Int) < 2 ^ 62 := by decide
    omega
  rw [Int.toNat_natCast]
  refine lc_range (lo := 0) (n := n) (fun i H' => ∃ zs, H' D = some (.lst zs) ∧ Paired (fun z i => P i z (rmL [D] H')) zs ((List.range i).filter sel) ∧ Same H H') ⟨[], upd_same, .nil, new_same hD _⟩ (fun i H' hi hP => ?_) (fun H' hP => ?_)
  · obtain ⟨zs, g1, g2, g3⟩ := hP
    have e0 : (0 : Int) + (i : Int) = ((i : Nat) : Int) := by omega
    rw [e0]
    refine turn D i H' _ _ ⟨_, g1⟩ g3 (same_rm1 hD g3) hi (fun hs y H4 s4 hy => ⟨zs, s4 _ _ g1, small1000 ?_, zs ++ [y], upd_same, ?_, fun b o z => ?_⟩) (fun hs H4 s4 => ⟨zs, s4 _ _ g1, ?_, g3.trans s4⟩)
    · rw [prd_len g2]
      refine Nat.le_trans (List.length_filter_le _ _) ?_
      rw [List.length_range]
      omega
    · rw [rm_put (List.mem_singleton.mpr rfl), range_filter, if_pos hs]
      exact prd_snoc (prd_imp (fun z i h => mono i z _ _ (rm_same s4) h) g2) hy
    · rw [upd_ne (ne_of_none z hD)]
      exact s4 _ _ (g3 _ _ z)
    · rw [range_filter, if_neg (by rw [hs]; exact Bool.false_ne_true), List.append_nil]
      exact prd_imp (fun z i h => mono i z _ _ (rm_same s4) h) g2
  · obtain ⟨zs, g1, g2, g3⟩ := hP
    exact hd D H' zs hD g3 g1 g2
/-- over a list that the iterable has just made -/
theorem lc_gL {K : PySem.W.Frag} {p : Addr} {ys : List V} {g : TG} {tt : TT} {te : TE} {vs : List Nat} {σ : L2.St} {H : Hp} {Q : VK} (P : Nat → V → Hp → Prop) (sel : Nat → Bool)
    (mono : ∀ i v R R', Same R R' → P i v R → P i v R') (hq : SqL K H p ys) (hl : ys.length ≤ 1000)
    (turn : ∀ (D : Addr) (i : Nat) (x : V) (H' : Hp) (yes : VK) (no : Hp → Prop), (∃ acc, H' D = some (.lst acc)) → Same H H' → Same H (rmL [D] H') → ys[i]? = some x →
      (sel i = true → ∀ y H4, Same H' H4 → P i y (rmL [D] H4) → yes y H4) → (sel i = false → ∀ H4, Same H' H4 → no H4) →
      g x (wipe σ vs) H' fun σ2 H2 => wipe σ2 vs = wipe σ vs ∧ tt σ2 H2 fun b H3 => if b = true then te σ2 H3 yes else no H3)
    (hd : ∀ D H' zs, H D = none → Same H H' → H' D = some (.lst zs) → Paired (fun z i => P i z (rmL [D] H')) zs ((List.range ys.length).filter sel) → Q (.ref D) H') :
    ∀ D, H D = none → ∃ W : Nat → Nat → Hp → Prop, (∃ m, W 0 m (L2.upd H D (.lst []))) ∧ ∀ i m H, W i m H →
      ((Itl K p).stop i H ∧ Q (.ref D) H) ∨ ((Itl K p).go i H ∧ ∃ Nx : Hp → Prop, (∀ H', Nx H' → ∃ m', m' < m ∧ W (i + 1) m' H') ∧ ∀ x H', (Itl K p).yld i H x H' → g x (wipe σ vs) H' fun σ2 H2 => wipe σ2 vs = wipe σ vs ∧ tt σ2 H2 fun b H3 =>
        if b = true then te σ2 H3 fun y H4 => ∃ acc, H4 D = some (.lst acc) ∧ acc.length < sizeLine ∧ Nx (L2.upd H4 D (.lst (acc ++ [y]))) else Nx H3) := by
  intro D hD
  refine lc_it walk_list (fun i H' => ∃ zs, H' D = some (.lst zs) ∧ Paired (fun z i => P i z (rmL [D] H')) zs ((List.range i).filter sel) ∧ Same H H') ⟨[], upd_same, .nil, new_same hD _⟩ (fun i H' _ ⟨_, _, _, s⟩ => s.seq hq) (fun i x H1' H' hi hP hY => ?_) (fun H' hP => ?_)
  · obtain ⟨rfl, hx⟩ := hY
    obtain ⟨zs, g1, g2, g3⟩ := hP
    refine turn D i x _ _ _ ⟨_, g1⟩ g3 (same_rm1 hD g3) hx (fun hs y H4 s4 hy => ⟨zs, s4 _ _ g1, small1000 ?_, zs ++ [y], upd_same, ?_, fun b o z => ?_⟩) (fun hs H4 s4 => ⟨zs, s4 _ _ g1, ?_, g3.trans s4⟩)
    · rw [prd_len g2]
      refine Nat.le_trans (List.length_filter_le _ _) ?_
      rw [List.length_range]
      omega
    · rw [rm_put (List.mem_singleton.mpr rfl), range_filter, if_pos hs]
      exact prd_snoc (prd_imp (fun z i h => mono i z _ _ (rm_same s4) h) g2) hy
    · rw [upd_ne (ne_of_none z hD)]
      exact s4 _ _ (g3 _ _ z)
    · rw [range_filter, if_neg (by rw [hs]; exact Bool.false_ne_true), List.append_nil]
      exact prd_imp (fun z i h => mono i z _ _ (rm_same s4) h) g2
  · obtain ⟨zs, g1, g2, g3⟩ := hP
    exact hd D H' zs hD g3 g1 g2
theorem ret_lc {wi : TI} {g : TG} {tt : TT} {te : TE} {vs : List Nat} {D : Ends} {σ : L2.St} {H : Hp} (h : tLc wi g tt te vs σ H D.rt) : tRet (tLc wi g tt te vs) D σ H := h
/-- what a function of the module is called with: a form, facts -/
structure Ask (K : PySem.W.Frag) (C : Addr) (H : Hp) (x : Addr) (v : V) (pf pr : Addr) (t : Tbl) (rs : List (List Pr)) (d : PyData) : Prop where
  fa : FormAt C H x pf pr
  tf : TabAt K H pf t
  rf : RulesAt K H pr rs
  ok : FormOk t rs
  dp : Dp K H v d
  fo : FOk d
  fz : areFacts t d = true → FaZ K H v d
theorem FaZ.same {K : PySem.W.Frag} {H H' : Hp} {v : V} {d : PyData} (s : Same H H') (h : FaZ K H v d) : FaZ K H' v d := by
  obtain ⟨q, zs, gs, e, a, b, c⟩ := h
  exact ⟨q, zs, gs, e, a.elim (fun z => .inl (s.seq z)) (fun z => .inr (z.same s)), b, dps_same s c⟩
theorem Ask.same {K : PySem.W.Frag} {C : Addr} {H H' : Hp} {x : Addr} {v : V} {pf pr : Addr} {t : Tbl} {rs : List (List Pr)} {d : PyData} (s : Same H H') (h : Ask K C H x v pf pr t rs d) : Ask K C H' x v pf pr t rs d := by
  obtain ⟨dx, hx⟩ := h.fa
  exact ⟨⟨dx, s _ _ hx⟩, h.tf.same s, rulesAtS s h.rf, h.ok, dp_same s h.dp, h.fo, fun z => (h.fz z).same s⟩
def badAt (CV : Addr) (H : Hp) (E : XK) : Prop := ∀ dd H', Same H H' → H' dd = none → E (.ref CV) (some dd) (L2.upd H' dd (.xd [("at", .int 1)]))
def spPossible (K : PySem.W.Frag) (C CV CB : Addr) : Sp := fun vs H Q E => ∃ (x pf pr : Addr) (v u : V) (t : Tbl) (rs : List (List Pr)) (d du : PyData), vs = [.ref x, v, u] ∧ Ask K C H x v pf pr t rs d ∧ Dp K H u du ∧ SeqAt.shaped du = true ∧ (areFacts t d = false → badAt CV H E) ∧
  (areFacts t d = true → (∀ n, du = .str n → n ∉ t.map (·.1)) → ∀ dd H', Same H H' → H' dd = none → E (.ref CB) (some dd) (L2.upd H' dd (.xd [("name", u)]))) ∧
  (areFacts t d = true → ∀ i n ws, du = .str n → t[i]? = some (n, ws) → ∀ z H', Same H H' → SqT K H' z ((possAt (fills rs (factsOf d) t) t i).map V.str) → Q (.ref z) H')
/-- each field with its possible values -/
def nmAt (t : Tbl) (i : Nat) : Str := (t.map (·.1)).getD i Str.empty
def allPoss (rows : List (List Pr)) (t : Tbl) : List (Str × List Str) := (List.range t.length).map fun i => (nmAt t i, possAt rows t i)
def EntAt (K : PySem.W.Frag) (H : Hp) (p : Addr) (e : Str × List Str) : Prop := ∃ z, SqT K H p [.str e.1, .ref z] ∧ SqT K H z (e.2.map V.str)
theorem EntAt.same {K : PySem.W.Frag} {H H' : Hp} {p : Addr} {e : Str × List Str} (s : Same H H') (h : EntAt K H p e) : EntAt K H' p e := by
  obtain ⟨z, a, b⟩ := h
  exact ⟨z, seqT_same s a, seqT_same s b⟩
def spAllP (K : PySem.W.Frag) (C CV : Addr) : Sp := fun vs H Q E => ∃ (x pf pr : Addr) (v : V) (t : Tbl) (rs : List (List Pr)) (d : PyData), vs = [.ref x, v] ∧ Ask K C H x v pf pr t rs d ∧ (areFacts t d = false → badAt CV H E) ∧
  (areFacts t d = true → ∀ D us H', Same H H' → H' D = some (.lst (us.map V.ref)) → Paired (EntAt K H') us (allPoss (fills rs (factsOf d) t) t) → Q (.ref D) H')
def openOf (l : List (Str × List Str)) : List Str := (l.filter fun e => decide (1 < e.2.length)).map (·.1)
def forcedOf (l : List (Str × List Str)) : List Pr := (l.filter fun e => decide (e.2.length = 1)).map fun e => (e.1, e.2.getD 0 Str.empty)
def spOpen (K : PySem.W.Frag) (C CV : Addr) : Sp := fun vs H Q E => ∃ (x pf pr : Addr) (v : V) (t : Tbl) (rs : List (List Pr)) (d : PyData), vs = [.ref x, v] ∧ Ask K C H x v pf pr t rs d ∧ (areFacts t d = false → badAt CV H E) ∧
  (areFacts t d = true → ∀ z H', Same H H' → SqT K H' z ((openOf (allPoss (fills rs (factsOf d) t) t)).map V.str) → Q (.ref z) H')
def spForced (K : PySem.W.Frag) (C CV : Addr) : Sp := fun vs H Q E => ∃ (x pf pr : Addr) (v : V) (t : Tbl) (rs : List (List Pr)) (d : PyData), vs = [.ref x, v] ∧ Ask K C H x v pf pr t rs d ∧ (areFacts t d = false → badAt CV H E) ∧
  (areFacts t d = true → ∀ z H', Same H H' → LotAt K H' z (forcedOf (allPoss (fills rs (factsOf d) t) t)) → Q (.ref z) H')
theorem fills_ok {t : Tbl} {rs : List (List Pr)} {f : List Pr} (O : FormOk t rs) : (fills rs f t).length ≤ 1000 ∧ ∀ row ∈ fills rs f t, row.length = t.length := by
  refine ⟨Nat.le_trans (fills_len t [[]] 1 (Nat.le_refl _)) O.ws, fun row hr => ?_⟩
  have := fold_names t [[]] [] (fun x hx => by rw [List.mem_singleton.mp hx] <;> rfl) row hr
  have := congrArg List.length this
  rw [List.length_map, List.nil_append, List.length_map] at this
  exact this
end Q
set_option Elab.async false
set_option linter.all false
set_option maxRecDepth 100000
set_option maxHeartbeats 4000000
/-! ### open_fields, forced -/
namespace Q
open PySem L2 XD
theorem call_lenK {X : Cx} (K : PySem.W.Frag) (h : X.K = K) : CallR X (.builtin "len") (fun xs H Q => ∃ p ys, xs = [.ref p] ∧ (SqL K H p ys ∨ SqT K H p ys) ∧ Q (.int ys.length) H) := by
  subst h
  exact call_len_seq
theorem sel_map {α β : Type} {l : List α} {d : α} {s : α → Bool} {f : α → β} : ((List.range l.length).filter fun i => s (l.getD i d)).map (fun i => f (l.getD i d)) = (l.filter s).map f := by
  conv => rhs; rw [← map_range l d]
  rw [List.filter_map, List.map_map] <;> rfl
abbrev e0 : Str × List Str := (Str.empty, [])
end Q
set_option Elab.async false
set_option linter.all false
set_option maxRecDepth 100000
set_option maxHeartbeats 4000000
/-! A def called by keywords alone. -/
namespace XW
open PySem PySem.Spec PyProof.Rows L2
section
variable {X : Cx} {CX : CXT} {k : Nat} {f : Addr} {fd : FuncData} {ps ks : List Str} {sp : Sp} {E : XK} {x : Str} {p pos : Pos} {kws : List Keyword} {tk : TA} {g : List Value → List Value → List Value} {gV : List V → List V → List V}
def tKw (m : Nat) (sp : Sp) (gV : List V → List V → List V) (E : XK) (tk : TA) : TE := fun σ H Q => tk σ H fun zs H1 => zs.length = m ∧ sp (gV [] zs) H1 Q E
theorem pe_callKw (F : FnOk X.prog X.w X.K X.mg X.base CX k f fd ps sp) (hr : Room k X.A) (hg : Gl X x) (hm : X.mg x = some (.ref f)) (keep : PySem.W.keepIn X.K (.ref f) = true) (hb : KBn X.K fd ps 0 ks g gV) (hx : Passes CX X E) (hkw : PK X kws tk)
    (named : (backToKw pos (keywordEach kws X.env)).all (·.1.isSome) = true := by rfl) (hks : (backToKw pos (keywordEach kws X.env)).filterMap (·.1) = ks := by rfl) (hdb : (x == ("__debug__" : Str)) = false := by decide)
    (plain : ((backTo pos (starEach [] X.env)).any (·.1) || (backToKw pos (keywordEach kws X.env)).any (·.1.isNone)) = false := by rfl) : PE X (.Call (.Name x p) [] kws pos) (tKw ks.length sp gV E tk) := by
  constructor
  intro pins s σ H Q I h
  refine wpAny_Call_Name_kw (ld_glob I hg hm ?_ hdb)
  refine PySem.W.callWith_KW0 (h₀ := X.base) I.ok.mod.kin keep named (thn (hkw.run pos pins s σ H _ I h) fun ws s1 ⟨zs, H1, I1, rz, l1, q1⟩ => ⟨I1.kIn, ?_⟩) plain
  rw [hks]
  exact run_fnN (us := []) (vs := []) F hr hb hx I1 .nil rz rfl l1 q1
end
def rev2 {α : Type} : List α → List α → List α
  | [], [a, b] => [b, a]
  | _, _ => []
def rev3 {α : Type} : List α → List α → List α
  | [], [a, b, c] => [c, b, a]
  | _, _ => []
theorem rev2_rel {vs zs : List V} {us ws : List Value} (r : Vals vs us) (rz : Vals zs ws) : Vals (rev2 vs zs) (rev2 us ws) := by
  cases r with
  | cons a b => exact .nil
  | nil =>
    cases rz with
    | nil => exact .nil
    | cons a r1 =>
      cases r1 with
      | nil => exact .nil
      | cons b r2 =>
        cases r2 with
        | nil => exact .cons b (.cons a .nil)
        | cons c r3 => exact .nil
theorem rev3_rel {vs zs : List V} {us ws : List Value} (r : Vals vs us) (rz : Vals zs ws) : Vals (rev3 vs zs) (rev3 us ws) := by
  cases r with
  | cons a b => exact .nil
  | nil =>
    cases rz with
    | nil => exact .nil
    | cons a r1 =>
      cases r1 with
      | nil => exact .nil
      | cons b r2 =>
        cases r2 with
        | nil => exact .nil
        | cons c r3 =>
          cases r3 with
          | nil => exact .cons c (.cons b (.cons a .nil))
          | cons d r4 => exact .nil
section
variable {K : PySem.W.Frag} {x qual : Str} {st : Stmt} {f : Addr} {fd : FuncData}
theorem kbn2 (F : Fun K x qual st f fd) {p1 p2 : Str} (h : ∀ (kV doc pm : Value) (an : Option Addr) (cdv ct a b : Value), bindArgs (PySem.W.fnOf x qual (defArgs st) (defBody st) (defScope st) .none kV doc pm an cdv ct) ⟨[], [(p2, a), (p1, b)]⟩ = pure [(p1, b), (p2, a)]) :
    KBn K fd [p1, p2] 0 [p2, p1] rev2 rev2 := by
  obtain ⟨oc, od, kV, doc, pm, an, cdv, ct, osl, rfl, lk, hcd⟩ := F.ex
  refine ⟨fun s us ws X l1 l2 => ?_, fun r rz => rev2_rel r rz⟩
  match us, ws, l1, l2 with
  | [], [a, b], _, _ => exact BindsTo.of_eq (h kV doc pm an cdv ct a b)
theorem kbn3 (F : Fun K x qual st f fd) {p1 p2 p3 : Str} (h : ∀ (kV doc pm : Value) (an : Option Addr) (cdv ct a b c : Value), bindArgs (PySem.W.fnOf x qual (defArgs st) (defBody st) (defScope st) .none kV doc pm an cdv ct) ⟨[], [(p3, a), (p2, b), (p1, c)]⟩ = pure [(p1, c), (p2, b), (p3, a)]) :
    KBn K fd [p1, p2, p3] 0 [p3, p2, p1] rev3 rev3 := by
  obtain ⟨oc, od, kV, doc, pm, an, cdv, ct, osl, rfl, lk, hcd⟩ := F.ex
  refine ⟨fun s us ws X l1 l2 => ?_, fun r rz => rev3_rel r rz⟩
  match us, ws, l1, l2 with
  | [], [a, b, c], _, _ => exact BindsTo.of_eq (h kV doc pm an cdv ct a b c)
end
end XW
set_option Elab.async false
set_option linter.all false
set_option maxRecDepth 100000
set_option maxHeartbeats 4000000
/-! ### _law_form -/
namespace Q
open PySem L2 XD
/-- as lc_g; the new list is told to be one -/
theorem lc_gA {K : PySem.W.Frag} {p : Addr} {ys : List V} {t0 : TE} {g : TG} {tt : TT} {te : TE} {vs : List Nat} {σ : L2.St} {H : Hp} {Q : VK} (P : Nat → V → Hp → Prop) (sel : Nat → Bool)
    (mono : ∀ i v R R', Same R R' → P i v R → P i v R') (ht : ∀ Q' : VK, Q' (.ref p) H → t0 σ H Q') (hq : SqL K H p ys ∨ SqT K H p ys) (hl : ys.length ≤ 1000)
    (turn : ∀ (D : Addr) (i : Nat) (x : V) (H' : Hp) (yes : VK) (no : Hp → Prop), (∃ acc, H' D = some (.lst acc)) → Same H H' → Same H (rmL [D] H') → ys[i]? = some x →
      (sel i = true → ∀ y H4, Same H' H4 → P i y (rmL [D] H4) → yes y H4) → (sel i = false → ∀ H4, Same H' H4 → no H4) →
      g x (wipe σ vs) H' fun σ2 H2 => wipe σ2 vs = wipe σ vs ∧ tt σ2 H2 fun b H3 => if b = true then te σ2 H3 yes else no H3)
    (hd : ∀ D H' zs, H D = none → Same H H' → H' D = some (.lst zs) → Paired (fun z i => P i z (rmL [D] H')) zs ((List.range ys.length).filter sel) → Q (.ref D) H') : tLc (iRow K t0) g tt te vs σ H Q := by
  refine lc_row (ys := ys) (fun D i H' => ∃ zs, H' D = some (.lst zs) ∧ Paired (fun z i => P i z (rmL [D] H')) zs ((List.range i).filter sel) ∧ Same H H') ht hq (fun D hD => ⟨[], upd_same, .nil, new_same hD _⟩) (fun D i H' _ hP => by obtain ⟨_, _, _, z⟩ := hP; exact z) (fun D i x H' hD hi hP hx => ?_) (fun D H' hD hP => ?_)
  · obtain ⟨zs, g1, g2, g3⟩ := hP
    refine turn D i x H' _ _ ⟨_, g1⟩ g3 (same_rm1 hD g3) hx (fun hs y H4 s4 hy => ⟨zs, s4 _ _ g1, small1000 ?_, zs ++ [y], upd_same, ?_, fun b o z => ?_⟩) (fun hs H4 s4 => ⟨zs, s4 _ _ g1, ?_, g3.trans s4⟩)
    · rw [prd_len g2]
      refine Nat.le_trans (List.length_filter_le _ _) ?_
      rw [List.length_range]
      omega
    · rw [rm_put (List.mem_singleton.mpr rfl), range_filter, if_pos hs]
      exact prd_snoc (prd_imp (fun z i h => mono i z _ _ (rm_same s4) h) g2) hy
    · rw [upd_ne (ne_of_none z hD)]
      exact s4 _ _ (g3 _ _ z)
    · rw [range_filter, if_neg (by rw [hs]; exact Bool.false_ne_true), List.append_nil]
      exact prd_imp (fun z i h => mono i z _ _ (rm_same s4) h) g2
  · obtain ⟨zs, g1, g2, g3⟩ := hP
    exact hd D H' zs hD g3 g1 g2
def eAt (t : Tbl) (i : Nat) : Str × List Str := t.getD i e0
def tpr (t : Tbl) (p : Nat × Nat) : Pr := ((eAt t p.1).1, (eAt t p.1).2.getD p.2 Str.empty)
def rsOf (t : Tbl) (bs : List NB) : List (List Pr) := bs.map fun b => b.map (tpr t)
theorem eAt_of {t : Tbl} {i : Nat} {e : Str × List Str} (h : t[i]? = some e) : eAt t i = e := getD_of h
theorem tpr_of {t : Tbl} {p : Nat × Nat} {e : Str × List Str} (h : t[p.1]? = some e) (hp : p.2 < e.2.length) : (tpr t p).1 = e.1 ∧ e.2[p.2]? = some (tpr t p).2 := by
  unfold tpr
  rw [eAt_of h]
  exact ⟨rfl, by rw [List.getD_eq_getElem?_getD, List.getElem?_eq_getElem hp] <;> rfl⟩
theorem nameAt_inj {t : Tbl} (nd : (t.map (·.1)).Nodup) {i j : Nat} {e f : Str × List Str} (hi : t[i]? = some e) (hj : t[j]? = some f) (h : e.1 = f.1) : i = j := by
  obtain ⟨li, ei⟩ := List.getElem?_eq_some_iff.mp hi
  obtain ⟨lj, ej⟩ := List.getElem?_eq_some_iff.mp hj
  have l1 : i < (t.map (·.1)).length := by rw [List.length_map]; exact li
  have l2 : j < (t.map (·.1)).length := by rw [List.length_map]; exact lj
  refine (List.getElem_inj (h₀ := l1) (h₁ := l2) nd).mp ?_
  rw [List.getElem_map, List.getElem_map, ei, ej]
  exact h
theorem nd_told {t : Tbl} (T : TabOk t) {b : NB} (nd : (b.map (·.1)).Nodup) (of : ∀ p ∈ b, ∃ e, t[p.1]? = some e ∧ p.2 < e.2.length) : ((b.map (tpr t)).map (·.1)).Nodup := by
  rw [List.map_map]
  refine List.pairwise_map.mpr (List.Pairwise.imp_of_mem (fun {x y} hx hy hne z => hne ?_) (List.pairwise_map.mp nd))
  obtain ⟨e, h1, h2⟩ := of x hx
  obtain ⟨f, h3, h4⟩ := of y hy
  have z : (tpr t x).1 = (tpr t y).1 := z
  rw [(tpr_of h1 h2).1, (tpr_of h3 h4).1] at z
  exact nameAt_inj T.nm.1 h1 h3 z
theorem of_told {t : Tbl} {b : NB} (of : ∀ p ∈ b, ∃ e, t[p.1]? = some e ∧ p.2 < e.2.length) : ∀ q ∈ b.map (tpr t), ∃ ws, (q.1, ws) ∈ t ∧ q.2 ∈ ws := fun q hq => by
  obtain ⟨p, hp, rfl⟩ := List.mem_map.mp hq
  obtain ⟨e, h1, h2⟩ := of p hp
  obtain ⟨e1, e2⟩ := tpr_of h1 h2
  refine ⟨e.2, ?_, List.mem_of_getElem? e2⟩
  rw [e1]
  exact List.mem_of_getElem? h1
theorem ban_told {t : Tbl} (T : TabOk t) {b : NB} (h : BanOk t b) : Ban t 4 (b.map (tpr t)) :=
  ⟨by rw [List.length_map]; exact h.lo, by rw [List.length_map]; exact h.hi, nd_told T h.nd h.of, of_told h.of⟩
theorem good_told {t : Tbl} {bs : List NB} {cap : Nat} (h : ModelOk t bs cap) (hc : cap ≤ 1000) : Good t (rsOf t bs) := by
  refine ⟨h.tb, fun r hr => ?_, ?_, Nat.le_trans h.ws hc⟩
  · obtain ⟨b, hb, rfl⟩ := List.mem_map.mp hr
    exact ban_told h.tb (h.bs b hb)
  · unfold rsOf
    rw [List.length_map]
    have := h.ln
    omega
/-- rules as lists of tuples in a list -/
def ruleLT (r : List Pr) : PyData := .list (r.map fun e => .tuple [.str e.1, .str e.2])
def LotL (K : PySem.W.Frag) (H : Hp) (q : Addr) (r : List Pr) : Prop := ∃ zs : List Addr, H q = some (.lst (zs.map V.ref)) ∧ Paired (fun z (e : Pr) => SqT K H z [.str e.1, .str e.2]) zs r
theorem LotL.same {K : PySem.W.Frag} {H H' : Hp} {q : Addr} {r : List Pr} (s : Same H H') (h : LotL K H q r) : LotL K H' q r := by
  obtain ⟨zs, h1, h2⟩ := h
  exact ⟨zs, s _ _ h1, prd_imp (fun _ _ z => seqT_same s z) h2⟩
theorem LotL.dp {K : PySem.W.Frag} {H : Hp} {q : Addr} {r : List Pr} (h : LotL K H q r) : Dp K H (.ref q) (ruleLT r) := by
  obtain ⟨zs, h1, h2⟩ := h
  exact .lst (SqL.of h1) (pairs_dps h2)
theorem lotsL_dps {K : PySem.W.Frag} {H : Hp} : ∀ {us : List Addr} {rs : List (List Pr)}, Paired (LotL K H) us rs → DpAll K H (us.map V.ref) (rs.map ruleLT)
  | _, _, .nil => .nil
  | _, _, .cons a b => .cons a.dp (lotsL_dps b)
theorem rulesLT : ∀ rs : List (List Pr), Paired (fun f r => FRule r f) (rs.map ruleLT) rs
  | [] => .nil
  | r :: rs => .cons ⟨_, rfl, rule_pair r⟩ (rulesLT rs)
theorem handLT {K : PySem.W.Frag} {H : Hp} {B D : Addr} {ps us : List Addr} {kvs : List (Key × V)} {t : Tbl} {rs : List (List Pr)} (hB : SqT K H B (ps.map V.ref)) (hT : TabR K H ps kvs t) (hD : H D = some (.lst (us.map V.ref))) (hu : Paired (LotL K H) us rs) :
    Hand K H t rs (.ref B) (.ref D) (.tuple (t.map entryD)) (.list (rs.map ruleLT)) := by
  refine ⟨.tup hB (tabR_dps hT), .lst (SqL.of hD) (lotsL_dps hu), ⟨_, rfl, tab_pair t⟩, ⟨_, rfl, rulesLT rs⟩, ?_⟩
  refine ⟨D, _, _, rfl, rfl, .inl (SqL.of hD), by rw [List.length_map, List.length_map, prd_len hu], fun i y rd h1 h2 => ?_⟩
  rw [List.getElem?_map] at h1 h2
  obtain ⟨z, hz, rfl⟩ := Option.map_eq_some_iff.mp h1
  obtain ⟨r, hr, rfl⟩ := Option.map_eq_some_iff.mp h2
  obtain ⟨r', hr', zs, m1, m2⟩ := prd_at hu hz
  rw [hr] at hr'
  cases hr'
  exact ⟨z, _, _, rfl, .inl (SqL.of m1), rfl, pairs_dps m2⟩
def spSheet (K : PySem.W.Frag) (C : Addr) : Sp := fun vs H Q _ => ∃ (m : Addr) (t : Tbl) (bs : List NB), vs = [.ref m] ∧ ModelAt K H m t bs ∧ ModelOk t bs 1000 ∧
  ∀ x pf pr H', Same H H' → H x = none → FormAt C H' x pf pr → TabAt K H' pf t → RulesAt K H' pr (once ((rsOf t bs).map (bySeq t))) → Q (.ref x) H'
abbrev scBanX : Scope := { kind := .function, names := [(".0", .local), ("ban", .local), ("model", .cell)], isGenerator := false, isCoroutine := false }
abbrev nSheet : List Str := ["model", "ban", "at", "word", "bans"]
theorem n0_of {t : Tbl} {p : Nat × Nat} {K : PySem.W.Frag} {H : Hp} {m B N q v : Addr} {ps : List Addr} {Q : VK} {e : Str × List Str} (hm : SqT K H m [.ref B, .ref N]) (hB : SqT K H B (ps.map V.ref)) (c1 : (ps.map V.ref)[p.1]? = some (.ref q)) (c2 : SqT K H q [.str e.1, .ref v])
    (k : Q (.str e.1) H) : rBoth K (.ref m) (.int 0) H fun x H1 => rBoth K x (.int (p.1 : Nat)) H1 fun y H2 => rBoth K y (.int 0) H2 Q :=
  ix_row (.inr hm) (by rfl) (ix_row (.inr hB) (at_of rfl c1) (ix_row (.inr c2) (by rfl) k))
section
variable {P : Program} {w : World} {K : PySem.W.Frag} {mg : Str → Option Value} {base : Heap}
theorem scSheet : FnScope nSheet ["model"] (defScope sSheet) := ⟨rfl, rfl, rfl, by decide +kernel, rfl, by decide +kernel, by decide +kernel⟩
theorem ok_sheet {f fI C CV CM : Addr} {fd fdI : FuncData} (F : Fun K "_law_form" "_law_form" sSheet f fd) (T : Fc K mg C) (M : Mk K C fI) (GI : FnOk P w K mg base (L2N.CX P w) 6 fI fdI ["self", "fields", "rules"] (spInit K C CV CM)) (bI : Binds K fdI ["self", "fields", "rules"] []) :
    FnOk P w K mg base CX0 8 f fd ["model"] (spSheet K C) := by
  refine F.ok scSheet (fun vs H Q E h => ?_) (fun cdv A outer s H vs Q E hr h => ?_)
  · obtain ⟨m, t, bs, rfl, _⟩ := h
    rfl
  obtain ⟨m, t, bs, rfl, hm, MO, k⟩ := h
  refine ⟨_, pss_cons (ps_setLc (i := 4) (own := [("ban", 1)]) (g := gName 1) (tt := tYes) (by rfl) scSheet.nd rfl rfl (sw_true rfl rfl rfl (by decide +kernel)) (pi_row (pe_ix (ix_both K rfl) (pv 0) pe_int (fun _ _ => rfl))) (blkOk_by (N := nSheet) (sc := defScope sSheet) (by decide +kernel))
      (fun _ _ _ _ _ => pg_name (i := 1) scSheet.nd rfl (.inl rfl)) (fun _ _ _ _ _ => pts_nil)
      (fun _ _ _ _ _ => pe_lc (own := [("at", 2), ("word", 3)]) (g := gRow K 2 (gCons (gName 2) (gCons (gName 3) gNil))) (tt := tYes) (by rfl) scSheet.nd (pi_rowK K rfl (pv 1)) (blkOk_by (N := nSheet) (sc := scBanX) (by decide +kernel))
        (fun _ _ _ _ _ => pg_row rfl (pgs_cons (pg_name (i := 2) scSheet.nd rfl (.inl rfl)) (pgs_cons (pg_name (i := 3) scSheet.nd rfl (.inl rfl)) pgs_nil))) (fun _ _ _ _ _ => pts_nil)
        (fun _ _ _ _ _ => pe_tupZ (pa_cons (pe_ix (ix_both K rfl) (pe_ix (ix_both K rfl) (pe_ix (ix_both K rfl) (pv 0) pe_int (fun _ _ => rfl)) (pv 2) (fun _ _ => rfl)) pe_int (fun _ _ => rfl))
          (pa_cons (pe_ix (ix_both K rfl) (pe_ix (ix_both K rfl) (pe_ix (ix_both K rfl) (pe_ix (ix_both K rfl) (pv 0) pe_int (fun _ _ => rfl)) (pv 2) (fun _ _ => rfl)) pe_int (fun _ _ => rfl)) (pv 3) (fun _ _ => rfl)) pa_nil)))))
    (pss_one (ps_ret (pe_make M GI hr rfl T.gF bI .nil passF (pa_cons (pe_ix (ix_both K rfl) (pv 0) pe_int (fun _ _ => rfl)) (pa_cons (pv 4) pa_nil))))), ?_⟩
  obtain ⟨B, N, ps, kvs, qs, m1, m2, m3, m4, m5⟩ := hm
  have G := good_told MO (Nat.le_refl _)
  have hql : qs.length = bs.length := prd_len m5
  refine asg_lcX ?_
  refine lc_gA (ys := qs.map V.ref) (fun i v R => ∃ q, v = .ref q ∧ LotL K R q ((bs.getD i []).map (tpr t))) (fun _ => true) (fun i v R R' s ⟨q, e, h⟩ => ⟨q, e, h.same s⟩) (fun Q' z => ⟨_, rfl, ix_row (.inr m1) (by rfl) z⟩) (.inr m4) (by rw [List.length_map]; have := MO.ln; omega) (fun D i y H' yes no AD s1 s2 hy hyes hno => ?_) (fun D H' zs hD s1 hz hP => ?_)
  · obtain ⟨q, eq_, rfl⟩ : ∃ q, qs[i]? = some q ∧ y = .ref q := by
      rw [List.getElem?_map] at hy
      obtain ⟨p, a, b⟩ := Option.map_eq_some_iff.mp hy
      exact ⟨p, a, b.symm⟩
    obtain ⟨bn, eb, zs, b1, b2⟩ := prd_at m5 eq_
    have hbn := MO.bs bn (List.mem_of_getElem? eb)
    have hzl : zs.length = bn.length := prd_len b2
    refine ⟨rfl, ?_⟩
    unfold tYes
    refine iteT ?_
    refine lc_g (ys := zs.map V.ref) (fun j v R => ∃ z, v = .ref z ∧ SqT K R z [.str (tpr t (bn.getD j (0, 0))).1, .str (tpr t (bn.getD j (0, 0))).2]) (fun _ => true) (fun j v R R' s ⟨q, e, h⟩ => ⟨q, e, seqT_same s h⟩) (fun Q' z => ⟨_, rfl, z⟩) (.inr (seqT_same s1 b1)) (by rw [List.length_map]; have := hbn.hi; omega) (fun D2 j y2 H2 yes2 no2 AD2 s3 s4 hy2 hyes2 hno2 => ?_) (fun D2 H2 zs2 hD2 s3 hz2 hP2 => ?_)
    · obtain ⟨z, ez, rfl⟩ : ∃ z, zs[j]? = some z ∧ y2 = .ref z := by
        rw [List.getElem?_map] at hy2
        obtain ⟨p, a, b⟩ := Option.map_eq_some_iff.mp hy2
        exact ⟨p, a, b.symm⟩
      obtain ⟨p, ep, hp⟩ := prd_at b2 ez
      have s13 := s1.trans s3
      obtain ⟨e, o1, o2⟩ := hbn.of p (List.mem_of_getElem? ep)
      obtain ⟨tp1, tp2⟩ := tpr_of o1 o2
      obtain ⟨q3, v3, c1, c2, c3⟩ := m3.get o1
      have m1' := seqT_same s13 m1
      have m2' := seqT_same s13 m2
      have c2' := seqT_same s13 c2
      have c3' := seqT_same s13 c3
      refine .inl ⟨z, _, rfl, seqT_same s13 hp, rfl, .int (p.1 : Nat), _, rfl, .int (p.2 : Nat), [], rfl, rfl, rfl, ?_⟩
      refine iteT ?_
      refine ⟨_, rfl, ix_row (.inr m1') (by rfl) ⟨_, rfl, ix_row (.inr m2') (at_of rfl c1) (ix_row (.inr c2') (by rfl) ⟨_, rfl, ix_row (.inr m1') (by rfl) ⟨_, rfl, ix_row (.inr m2') (at_of rfl c1) (ix_row (.inr c2') (by rfl) ⟨_, rfl, ix_row (.inr c3') (at_of rfl (by rw [List.getElem?_map, tp2] <;> rfl)) ⟨by show 2 ≤ sizeLine; decide, fun x o hx ho => ?_⟩⟩)⟩⟩)⟩⟩
      refine hyes2 rfl _ _ (new_same hx _) ⟨x, rfl, ?_⟩
      rw [show bn.getD j (0, 0) = p from getD_of ep, tp1]
      exact .inl (.inr ⟨o, rm_new AD2 hx⟩)
    · obtain ⟨xs, rfl, hxs⟩ := refs_of (T := fun z (e : Pr) => SqT K (rmL [D2] H2) z [.str e.1, .str e.2]) (g := fun j => tpr t (bn.getD j (0, 0))) hP2
      have ef : ((List.range (zs.map V.ref).length).filter fun _ => true).map (fun j => tpr t (bn.getD j (0, 0))) = bn.map (tpr t) := by
        rw [List.filter_eq_self.mpr (fun _ _ => rfl), List.length_map, hzl]
        have := map_range bn (0, 0)
        conv => rhs; rw [← this]
        rw [List.map_map] <;> rfl
      rw [ef] at hxs
      refine hyes rfl _ _ s3 ⟨D2, rfl, ?_⟩
      rw [show bs.getD i [] = bn from getD_of eb]
      obtain ⟨acc, hacc'⟩ := AD
      have hacc := s3 _ _ hacc'
      refine ⟨xs, ?_, prd_imp (fun _ _ h => seqT_rm hacc (seqT_same rm_le h)) hxs⟩
      rw [rm_at (fun z => by rw [List.mem_singleton.mp z, hacc'] at hD2; cases hD2)]
      exact hz2
  · obtain ⟨us, rfl, hu⟩ := refs_of (T := LotL K (rmL [D] H')) (g := fun i => (bs.getD i []).map (tpr t)) hP
    have ef : ((List.range (qs.map V.ref).length).filter fun _ => true).map (fun i => (bs.getD i []).map (tpr t)) = rsOf t bs := by
      rw [List.filter_eq_self.mpr (fun _ _ => rfl), List.length_map, hql]
      unfold rsOf
      have := map_range bs []
      conv => rhs; rw [← this]
      rw [List.map_map] <;> rfl
    rw [ef] at hu
    have hu : Paired (LotL K H') us (rsOf t bs) := prd_imp (fun _ _ z => z.same rm_le) hu
    have hand := handLT (seqT_same s1 m2) (m3.same s1) hz hu
    refine ⟨_, rfl, ix_row (.inr (seqT_same s1 m1)) (by rfl) ⟨_, rfl, fun x dx hx hdx hne => init_good G hand hx hdx hne fun pf pr H8 s8 f1 f2 f3 => ⟨rfl, ?_⟩⟩⟩
    exact k x pf pr H8 (s1.trans s8) (s1.free hx) f1 f2 f3
end
end Q
set_option Elab.async false
set_option linter.all false
set_option maxRecDepth 100000
set_option maxHeartbeats 4000000
/-! ### rows of numbers -/
namespace Q
open PySem L2 XD
def widerN (rows : List (List Nat)) (e : Str × List Str) : List (List Nat) := rows.flatMap fun row => (List.range e.2.length).map fun k => row ++ [k]
def nrows (t : Tbl) : List (List Nat) := t.foldl widerN [[]]
def fitN (b : NB) (row : List Nat) : Bool := b.all fun p => decide (row.getD p.1 0 = p.2)
def okN (bs : List NB) (row : List Nat) : Bool := bs.all fun b => !fitN b row
/-- a row has a number for each field -/
def RowOk (t : Tbl) (row : List Nat) : Prop := row.length = t.length ∧ ∀ i e, t[i]? = some e → row.getD i 0 < e.2.length
theorem nrows_snoc (t : Tbl) (e : Str × List Str) : nrows (t ++ [e]) = widerN (nrows t) e := by
  unfold nrows
  rw [List.foldl_append] <;> rfl
theorem widerN_len (rows : List (List Nat)) (e : Str × List Str) : (widerN rows e).length = rows.length * e.2.length := by
  unfold widerN
  induction rows with
  | nil => simp
  | cons r rows ih => rw [List.flatMap_cons, List.length_append, List.length_map, List.length_range, ih, List.length_cons, Nat.succ_mul, Nat.add_comm]
theorem nrows_len (t : Tbl) : (nrows t).length = waysFrom 1 t := by
  have key : ∀ (t : Tbl) (rows : List (List Nat)), (t.foldl widerN rows).length = waysFrom rows.length t := by
    intro t
    induction t with
    | nil => exact fun _ => rfl
    | cons e t ih =>
      intro rows
      rw [List.foldl_cons, ih, widerN_len] <;> rfl
  exact key t [[]]
theorem nrows_ok (t : Tbl) : ∀ row ∈ nrows t, RowOk t row := by
  have key : ∀ (t2 t1 : Tbl) (rows : List (List Nat)), (∀ row ∈ rows, RowOk t1 row) → ∀ row ∈ t2.foldl widerN rows, RowOk (t1 ++ t2) row := by
    intro t2
    induction t2 with
    | nil =>
      intro t1 rows h
      rw [List.append_nil]
      exact h
    | cons e t2 ih =>
      intro t1 rows h row hr
      have := ih (t1 ++ [e]) (widerN rows e) (fun x hx => by
        obtain ⟨y, hy, hx⟩ := List.mem_flatMap.mp hx
        obtain ⟨k, hk, rfl⟩ := List.mem_map.mp hx
        obtain ⟨h1, h2⟩ := h y hy
        have hk := List.mem_range.mp hk
        refine ⟨by rw [List.length_append, List.length_append, h1] <;> rfl, fun i f hf => ?_⟩
        by_cases hi : i < t1.length
        · rw [List.getElem?_append_left hi] at hf
          have := h2 i f hf
          rw [List.getD_eq_getElem?_getD, List.getElem?_append_left (by omega), ← List.getD_eq_getElem?_getD]
          exact this
        · rw [List.getElem?_append_right (by omega)] at hf
          have hi2 : i - t1.length = 0 := by
            have := (List.getElem?_eq_some_iff.mp hf).1
            rw [List.length_singleton] at this
            omega
          rw [hi2] at hf
          cases hf
          rw [List.getD_eq_getElem?_getD, List.getElem?_append_right (by omega), h1, hi2]
          exact hk) row hr
      rw [List.append_assoc] at this
      exact this
  exact key t [] [[]] fun row hr => by
    rw [List.mem_singleton.mp hr]
    exact ⟨rfl, fun i e he => by cases he⟩
theorem ways_takeX : ∀ (t : Tbl) (a i : Nat), (∀ e ∈ t, 1 ≤ e.2.length) → waysFrom a (t.take i) ≤ waysFrom a t := by
  have grow : ∀ (t : Tbl) (a : Nat), (∀ e ∈ t, 1 ≤ e.2.length) → a ≤ waysFrom a t := by
    intro t
    induction t with
    | nil => exact fun a _ => Nat.le_refl _
    | cons e t ih =>
      intro a h
      show a ≤ waysFrom (a * e.2.length) t
      refine Nat.le_trans ?_ (ih _ fun x hx => h x (List.mem_cons_of_mem _ hx))
      have := h e List.mem_cons_self
      exact Nat.le_mul_of_pos_right a this
  intro t a i h
  have e : waysFrom a t = waysFrom (waysFrom a (t.take i)) (t.drop i) := by
    conv => lhs; rw [← List.take_append_drop i t]
    unfold waysFrom
    rw [List.foldl_append]
  rw [e]
  exact grow _ _ fun x hx => h x (List.mem_of_mem_drop hx)
theorem fm_next {α β : Type} {l : List α} {i : Nat} {x : α} (f : α → List β) (h : l[i]? = some x) : (l.take (i + 1)).flatMap f = (l.take i).flatMap f ++ f x := by
  rw [take_one h, List.flatMap_append, List.flatMap_cons, List.flatMap_nil, List.append_nil]
theorem fm_len {α β : Type} {f : α → List β} {c : Nat} : ∀ {l : List α}, (∀ x ∈ l, (f x).length = c) → (l.flatMap f).length = l.length * c
  | [], _ => by simp
  | x :: l, h => by rw [List.flatMap_cons, List.length_append, h x List.mem_cons_self, fm_len fun y hy => h y (List.mem_cons_of_mem _ hy), List.length_cons, Nat.succ_mul, Nat.add_comm]
theorem cnt {α : Type} {l : List α} {d : α} {s : α → Bool} : ((List.range l.length).filter fun i => s (l.getD i d)).length = (l.filter s).length := by
  have := congrArg List.length (sel_map (l := l) (d := d) (s := s) (f := id))
  rw [List.length_map, List.length_map] at this
  exact this
theorem cnt0 {α : Type} {l : List α} {s : α → Bool} {n : Nat} (h : n = (l.filter s).length) : decide (V.int (n : Int) = V.int 0) = l.all fun x => !s x := by
  rw [Bool.eq_iff_iff, decide_eq_true_eq, List.all_eq_true]
  constructor
  · intro z x hx
    have z := V.int.inj z
    have : (l.filter s).length = 0 := by omega
    have := List.eq_nil_of_length_eq_zero this
    have := List.filter_eq_nil_iff.mp this x hx
    rw [Bool.not_eq_true] at this
    rw [this] <;> rfl
  · intro z
    have : l.filter s = [] := List.filter_eq_nil_iff.mpr fun x hx => by
      have := z x hx
      rw [Bool.not_eq_true'] at this
      rw [this]
      exact Bool.false_ne_true
    rw [h, this] <;> rfl
theorem fit_cnt {b : NB} {row : List Nat} {n : Nat} (h : n = (b.filter fun p => !decide (row.getD p.1 0 = p.2)).length) : decide (V.int (n : Int) = V.int 0) = fitN b row := by
  rw [cnt0 h]
  unfold fitN
  congr 1
  funext p
  rw [Bool.not_not]
end Q
set_option Elab.async false
set_option linter.all false
set_option maxRecDepth 100000
set_option maxHeartbeats 4000000
/-! ### _law_rows, _law_fitting -/
namespace Q
open PySem L2 XD
def RowN (K : PySem.W.Frag) (H : Hp) (p : Addr) (row : List Nat) : Prop := SqT K H p (row.map fun (n : Nat) => V.int n)
theorem rowsN_same {K : PySem.W.Frag} {H H' : Hp} (s : Same H H') {us : List Addr} {rows : List (List Nat)} : Paired (RowN K H) us rows → Paired (RowN K H') us rows := prd_imp fun _ _ h => seqT_same s h
theorem rowsN_tp {K : PySem.W.Frag} {H H' : Hp} {a b : Addr} (F : Tape b H a) (s : Kept a H H') {us : List Addr} {rows : List (List Nat)} : Paired (RowN K H) us rows → Paired (RowN K H') us rows := prd_imp fun _ _ h => seqT_tp F s h
theorem rowsN_off {K : PySem.W.Frag} {H : Hp} {D : Addr} {acc acc' : List V} (hD : H D = some (.lst acc)) {us : List Addr} {rows : List (List Nat)} : Paired (RowN K H) us rows → Paired (RowN K (upd H D (.lst acc'))) us rows := prd_imp fun _ _ h => seqT_off h hD
theorem if_len {c : List V → Hp → VK → Prop} {r : V → V → Hp → VK → Prop} {tl : TE} {w : V} {u v : TS} {D : Ends} {σ : L2.St} {H : Hp} (h : tl σ H fun y H1 => c [y] H1 fun z H2 => r z w H2 fun b H3 => ∃ k, b = .bl k ∧ if k = true then u D σ H3 else v D σ H3) : tIfS (tTest (tOp r (tCB c (tCons tl tNil)) (tC w))) u v D σ H := h
theorem nm_if_len {c : List V → Hp → VK → Prop} {r : V → V → Hp → VK → Prop} {tl : TE} {w : V} {u v : TS} {D : Ends} {σ : L2.St} {H : Hp} {i : Nat} {x : V} (h : tl (σ.set i (some x)) H fun y H1 => c [y] H1 fun z H2 => r z w H2 fun b H3 => ∃ k, b = .bl k ∧ if k = true then u D (σ.set i (some x)) H3 else v D (σ.set i (some x)) H3) :
    gName i x σ H fun σ2 H2 => tIfS (tTest (tOp r (tCB c (tCons tl tNil)) (tC w))) u v D σ2 H2 := h
theorem tt_len {c : List V → Hp → VK → Prop} {r : V → V → Hp → VK → Prop} {tl : TE} {w : V} {σ : L2.St} {H : Hp} {Q : Bool → Hp → Prop} (h : tl σ H fun y H1 => c [y] H1 fun z H2 => r z w H2 fun b H3 => ∃ k, b = .bl k ∧ Q k H3) : tTest (tOp r (tCB c (tCons tl tNil)) (tC w)) σ H Q := h
theorem nm_cat {te : TE} {wi : TI} {g : TG} {tt : TT} {tx : TE} {vs : List Nat} {D : Ends} {σ : L2.St} {H : Hp} {i j : Nat} {x : V} (h : te (σ.set i (some x)) H fun y H1 => tLc wi g tt tx vs (σ.set i (some x)) H1 fun z H2 => rCat y z H2 fun v H3 => D.nx ((σ.set i (some x)).set j (some v)) H3) :
    gName i x σ H fun σ2 H2 => tAsg (tOp rCat te (tLc wi g tt tx vs)) (gName j) D σ2 H2 := h
theorem for_row_cut {K : PySem.W.Frag} {p : Addr} {ys : List V} {t0 : TE} {g : TG} {tb u : TS} {D : Ends} {σ : L2.St} {H0 H : Hp} (Pv : Nat → L2.St → Hp → Prop) (ht : ∀ Q' : VK, Q' (.ref p) H → t0 σ H Q') (hq : SqL K H0 p ys ∨ SqT K H0 p ys) (h0 : Pv 0 σ H) (hG : ∀ i σ H', Pv i σ H' → Same H0 H')
    (hs : ∀ i x σ H', i < ys.length → Pv i σ H' → ys[i]? = some x → g x σ H' fun σ2 H2 => tb { D with nx := Pv (i + 1), ct := Pv (i + 1), bk := u D } σ2 H2) (hd : ∀ σ H', Pv ys.length σ H' → u D σ H') : tSeq (tFor (iRow K t0) g tb) u D σ H :=
  for_row (D := { D with nx := u D }) Pv ht hq h0 hG hs hd
theorem dec_int (a b : Nat) : (!decide (V.int (a : Int) = V.int (b : Int))) = !decide (a = b) := by
  congr 1
  rw [Bool.eq_iff_iff, decide_eq_true_eq, decide_eq_true_eq]
  exact ⟨fun h => nat_inj a b h, fun h => by rw [h]⟩
def spRows (K : PySem.W.Frag) : Sp := fun vs H Q _ => ∃ (m : Addr) (t : Tbl) (bs : List NB), vs = [.ref m] ∧ ModelAt K H m t bs ∧ ModelOk t bs 1000 ∧
  ∀ (R : Addr) (us : List Addr) (H' : Hp), Same H H' → H R = none → H' R = some (.lst (us.map V.ref)) → Paired (RowN K H') us ((nrows t).filter (okN bs)) → Q (.ref R) H'
abbrev nRows : List Str := ["model", "rows", "name", "words", "longer", "row", "k", "kept", "ban", "at", "word"]
abbrev scBanR : Scope := { kind := .function, names := [(".0", .local), ("ban", .local), ("len", .globalImplicit), ("row", .cell)], isGenerator := false, isCoroutine := false }
section
variable {P : Program} {w : World} {K : PySem.W.Frag} {mg : Str → Option Value} {base : Heap}
theorem scRows : FnScope nRows ["model"] (defScope sRows) := ⟨rfl, rfl, rfl, by decide +kernel, rfl, by decide +kernel, by decide +kernel⟩
theorem ok_rows {f : Addr} {fd : FuncData} (F : Fun K "_law_rows" "_law_rows" sRows f fd) (T : BtT mg) : FnOk P w K mg base CX0 1 f fd ["model"] (spRows K) := by
  refine F.ok scRows (fun vs H Q E h => ?_) (fun cdv A outer s H vs Q E hr h => ?_)
  · obtain ⟨m, t, bs, rfl, _⟩ := h
    rfl
  obtain ⟨m, t, bs, rfl, hm, MO, k⟩ := h
  refine ⟨_, pss_cons (ps_set (i := 1) scRows.nd rfl (.inl rfl) (pe_lst (pa_cons (pe_tupZ pa_nil) pa_nil)))
    (pss_cons (ps_for PassesOwn.never rfl (pi_row (pe_ix (ix_both K rfl) (pv 0) pe_int (fun _ _ => rfl))) (pg_row rfl (pgs_cons (pg_name (i := 2) scRows.nd rfl (.inl rfl)) (pgs_cons (pg_name (i := 3) scRows.nd rfl (.inl rfl)) pgs_nil)))
      (pss_cons (ps_set (i := 4) scRows.nd rfl (.inl rfl) (pe_lst pa_nil))
      (pss_cons (ps_for PassesOwn.never rfl (pi_list (pv 1)) (pg_name (i := 5) scRows.nd rfl (.inr rfl))
        (pss_one (ps_set (i := 4) scRows.nd rfl (.inl rfl) (pe_op op_cat (pv 4) (pe_lc (own := [("k", 6)]) (g := gName 6) (tt := tYes) (by rfl) scRows.nd (pi_range1 rfl T.range (pa_cons (pe_callB call_len_seq rfl T.len PySem.boot_len (pa_cons (pv 3) pa_nil)) pa_nil)) (blkOk_by (N := nRows) (sc := defScope sRows) (by decide +kernel))
          (fun _ _ _ _ _ => pg_name (i := 6) scRows.nd rfl (.inl rfl)) (fun _ _ _ _ _ => pts_nil) (fun _ _ _ _ _ => pe_op (op_catAK K rfl) (pv 5) (pe_tupZ (pa_cons (pv 6) pa_nil))))))))
      (pss_one (ps_set (i := 1) scRows.nd rfl (.inl rfl) (pv 4))))))
    (pss_cons (ps_set (i := 7) scRows.nd rfl (.inl rfl) (pe_lst pa_nil))
    (pss_cons (ps_for PassesOwn.never rfl (pi_list (pv 1)) (pg_name (i := 5) scRows.nd rfl (.inr rfl))
      (pss_one (ps_if (pt_cmpR op_eq (pe_callB call_len_seq rfl T.len PySem.boot_len (pa_cons (pe_lc (own := [("ban", 8)]) (g := gName 8) (by rfl) scRows.nd (pi_row (pe_ix (ix_both K rfl) (pv 0) pe_int (fun _ _ => rfl))) (blkOk_by (N := nRows) (sc := defScope sRows) (by decide +kernel))
          (fun _ _ _ _ _ => pg_name (i := 8) scRows.nd rfl (.inl rfl))
          (fun _ _ _ _ _ => pts_one (pt_cmpR op_eq (pe_callB (call_lenK K rfl) rfl T.len PySem.boot_len (pa_cons (pe_lc (own := [("at", 9), ("word", 10)]) (g := gRow K 2 (gCons (gName 9) (gCons (gName 10) gNil))) (by rfl) scRows.nd (pi_rowK K rfl (pv 8)) (blkOk_by (N := nRows) (sc := scBanR) (by decide +kernel))
            (fun _ _ _ _ _ => pg_row rfl (pgs_cons (pg_name (i := 9) scRows.nd rfl (.inl rfl)) (pgs_cons (pg_name (i := 10) scRows.nd rfl (.inl rfl)) pgs_nil)))
            (fun _ _ _ _ _ => pts_one (pt_cmpR op_ne (pe_ix (ix_both K rfl) (pv 5) (pv 9) (fun _ _ => rfl)) (pv 10) (nomark _))) (fun _ _ _ _ _ => pv 9)) pa_nil)) pe_int (nomark _))) (fun _ _ _ _ _ => pv 8)) pa_nil)) pe_int (nomark _))
        (pss_one (ps_expr (pe_bm PySem.F.plainAttrs_list PySem.F.slot_list_append PySem.F.type_list_append mt_append (pv 7) (pa_cons (pv 5) pa_nil)))) pss_nil)))
    (pss_one (ps_ret (pv 7)))))), ?_⟩
  obtain ⟨B, N, ps, kvs, qs, m1, m2, m3, m4, m5⟩ := hm
  have hpl : ps.length = t.length := m3.len.1
  have hql : qs.length = bs.length := prd_len m5
  have TO := MO.tb
  have pos : ∀ e ∈ t, 1 ≤ e.2.length := fun e he => (TO.vs e he).2.1
  have upto : ∀ i, waysFrom 1 (t.take i) ≤ 1000 := fun i => Nat.le_trans (ways_takeX t 1 i pos) MO.ws
  refine ⟨by show 0 ≤ sizeLine; decide, fun x0 o0 hx0 ho0 => ⟨by show 1 ≤ sizeLine; decide, fun R hR => ?_⟩⟩
  have s0 := (new_same hx0 (.frz o0 (.tup []))).trans (new_same hR (.lst [V.ref x0]))
  have r0 : upd (upd H x0 (.frz o0 (.tup []))) R (.lst [V.ref x0]) R = some (.lst ([x0].map V.ref)) := upd_same
  have p0 : RowN K (upd (upd H x0 (.frz o0 (.tup []))) R (.lst [V.ref x0])) x0 [] := seqT_same (new_same hR _) (.inl (.inr ⟨o0, upd_same⟩))
  have hR0 : H R = none := (new_none hR).1
  generalize upd (upd H x0 (.frz o0 (.tup []))) R (.lst [V.ref x0]) = H1 at s0 r0 p0
  clear hR hx0
  dsimp only [gName]
  refine for_row_cut (ys := ps.map V.ref) (H0 := H) (fun i σ H' => ∃ (R : Addr) (us : List Addr) (f2 f3 f4 f5 : Option V), σ = [some (.ref m), some (.ref R), f2, f3, f4, f5, none, none, none, none, none] ∧ H' R = some (.lst (us.map V.ref)) ∧ Paired (RowN K H') us (nrows (t.take i)) ∧ Same H H') (fun Q' z => ⟨_, rfl, ix_row (.inr (seqT_same s0 m1)) (by rfl) z⟩) (.inr m2)
    ⟨R, [x0], none, none, none, none, rfl, r0, .cons p0 .nil, s0⟩ (fun i σ H' ⟨_, _, _, _, _, _, _, _, _, s⟩ => s) ?_ ?_
  · clear r0 p0 s0 hR0
    rintro i x σ H2 hi ⟨R, us, f2, f3, f4, f5, rfl, hR, hU, s2⟩ hx
    obtain ⟨q, v, n, ws, rfl, e1, e2, e3⟩ := m3.at hx
    have e2' := seqT_same s2 e2
    refine .inl ⟨q, _, rfl, e2', rfl, .str n, _, rfl, .ref v, [], rfl, rfl, ?_⟩
    refine ⟨by show 0 ≤ sizeLine; decide, fun L hL => ?_⟩
    have sL := new_same hL (.lst [])
    have LR : L ≠ R := fun z => by
      rw [z, hR] at hL
      cases hL
    have hul := prd_len hU
    have total : (nrows (t.take i)).length * ws.length ≤ 1000 := by
      have h1 := upto (i + 1)
      have h2 : waysFrom 1 (t.take (i + 1)) = waysFrom 1 (t.take i) * ws.length := by
        rw [take_one e1, ways_put]
      rw [h2] at h1
      rw [nrows_len]
      exact h1
    refine ⟨_, rfl, R, rfl, ⟨_, SqL.of (sL _ _ hR)⟩, for_list (K := K) (a := R) (xs := us.map V.ref) (fun j σ H' => ∃ (Lg : Addr) (vs : List Addr) (f5 : Option V), σ = [some (.ref m), some (.ref R), some (.str n), some (.ref v), some (.ref Lg), f5, none, none, none, none, none] ∧
        H' Lg = some (.lst (vs.map V.ref)) ∧ Paired (RowN K H') vs (((nrows (t.take i)).take j).flatMap fun row => (List.range ws.length).map fun k => row ++ [k]) ∧ Same H2 H') ⟨L, [], _, rfl, upd_same, .nil, sL⟩ (fun j σ H' _ ⟨_, _, _, _, _, _, s⟩ => SqL.of (s _ _ hR)) ?_ ?_⟩
    · rintro j y σ H3 hj ⟨Lg, vs, f5, rfl, hLg, hV, s3⟩
      obtain ⟨p, ep, rfl⟩ : ∃ p, us[j]? = some p ∧ y = .ref p := by
        rw [List.getElem?_map] at hj
        obtain ⟨p, a, b⟩ := Option.map_eq_some_iff.mp hj
        exact ⟨p, a, b.symm⟩
      obtain ⟨row, er, hrow⟩ := prd_at hU ep
      have hrl : row.length ≤ 6 := by
        have := (nrows_ok (t.take i) row (List.mem_of_getElem? er)).1
        rw [List.length_take] at this
        have := TO.hi
        omega
      refine nm_cat ⟨_, rfl, ?_⟩
      refine lc_gr (n := (ws.map V.str).length) (fun k z R => ∃ p, z = .ref p ∧ RowN K R p (row ++ [k])) (fun _ => true) (fun k z R R' s ⟨p, e, h⟩ => ⟨p, e, seqT_same s h⟩) (fun Q' z => ⟨_, rfl, v, _, rfl, .inr (seqT_same (s2.trans s3) e3), z⟩) (by
          rw [List.length_map]
          have : 1 ≤ (nrows (t.take i)).length := by
            have := (List.getElem?_eq_some_iff.mp er).1
            omega
          exact Nat.le_trans (Nat.le_mul_of_pos_left _ this) total) (fun D kk H4 yes no AD s4 s5 hk hyes hno => ?_) (fun D H4 zs hD s4 hz hP => ?_)
      · refine ⟨rfl, ?_⟩
        unfold tYes
        refine iteT ⟨_, rfl, _, rfl, by show 1 ≤ sizeLine; decide, fun z o hz ho => ?_⟩
        have s6 := new_same hz (.frz o (.tup [V.int ((kk : Nat) : Int)]))
        obtain ⟨acc, hacc⟩ := AD
        refine ⟨p, z, _, _, rfl, rfl, seqT_same (s3.trans (s4.trans s6)) hrow, .inl (.inr ⟨o, upd_same⟩), le_line (by rw [List.length_map]; show row.length + 1 ≤ 1000; omega), fun e => ?_, fun _ e => (by cases e), fun _ _ y hy => ?_⟩
        · refine hyes rfl _ _ s6 ⟨z, rfl, ?_⟩
          have : row = [] := List.map_eq_nil_iff.mp e
          rw [this]
          exact .inl (.inr ⟨o, rm_new (alive_of hacc) hz⟩)
        · refine hyes rfl _ _ (s6.trans (new_same hy _)) ⟨y, rfl, ?_⟩
          have := rm_new (o := .tup (row.map (fun (n : Nat) => V.int n) ++ [V.int ((kk : Nat) : Int)])) (alive_of (s6 _ _ hacc)) hy
          unfold RowN
          rw [List.map_append]
          exact .inl (.inl this)
      · obtain ⟨xs, rfl, hxs⟩ := refs_of (T := RowN K (rmL [D] H4)) (g := fun k => row ++ [k]) hP
        have hxs : Paired (RowN K H4) xs ((List.range ws.length).map fun k => row ++ [k]) := by
          rw [List.filter_eq_self.mpr (fun _ _ => rfl), List.length_map] at hxs
          exact rowsN_same rm_le hxs
        have jlt : j < (nrows (t.take i)).length := (List.getElem?_eq_some_iff.mp er).1
        have lv := prd_len hV
        rw [fm_len (c := ws.length) (fun x _ => by rw [List.length_map, List.length_range]), List.length_take] at lv
        have lx := prd_len hxs
        rw [List.length_map, List.length_range] at lx
        refine ⟨Lg, D, _, _, rfl, rfl, s4 _ _ hLg, hz, le_line ?_, fun z hz2 => ?_⟩
        · rw [List.length_map, List.length_map, lv, lx]
          have : (min j (nrows (t.take i)).length + 1) * ws.length ≤ (nrows (t.take i)).length * ws.length := Nat.mul_le_mul_right _ (by omega)
          rw [Nat.succ_mul] at this
          omega
        · have s6 := new_same hz2 (.lst (vs.map V.ref ++ xs.map V.ref))
          refine ⟨z, vs ++ xs, _, rfl, by rw [upd_same, List.map_append], ?_, (s3.trans s4).trans s6⟩
          rw [fm_next _ er]
          exact prd_app (rowsN_same (s4.trans s6) hV) (rowsN_same s6 hxs)
    · rintro σ H3 ⟨Lg, vs, f5, rfl, hLg, hV, s3⟩
      rw [List.length_map, hul, List.take_of_length_le (Nat.le_refl _)] at hV
      refine ⟨_, rfl, Lg, vs, _, _, _, _, rfl, hLg, ?_, s2.trans s3⟩
      rw [take_one e1, nrows_snoc]
      exact hV
  · rintro σ H2 ⟨R, us, f2, f3, f4, f5, rfl, hR, hU, s2⟩
    rw [List.length_map, hpl, List.take_of_length_le (Nat.le_refl _)] at hU
    have hul := prd_len hU
    have n1000 : (nrows t).length ≤ 1000 := by
      rw [nrows_len]
      exact MO.ws
    refine ⟨by show 0 ≤ sizeLine; decide, fun Kp hKp => ?_⟩
    have sK := new_same hKp (.lst [])
    have KR : Kp ≠ R := fun z => by
      rw [z, hR] at hKp
      cases hKp
    have hK0 : H Kp = none := s2.free hKp
    refine ⟨_, rfl, R, rfl, ⟨_, SqL.of (sK _ _ hR)⟩, for_list (K := K) (a := R) (xs := us.map V.ref) (fun j σ H' => ∃ (vs : List Addr) (f5 : Option V), σ = [some (.ref m), some (.ref R), f2, f3, f4, f5, none, some (.ref Kp), none, none, none] ∧
        H' Kp = some (.lst (vs.map V.ref)) ∧ Paired (RowN K H') vs (((nrows t).take j).filter (okN bs)) ∧ H' R = some (.lst (us.map V.ref)) ∧ Paired (RowN K H') us (nrows t) ∧ Same H H') ⟨[], _, rfl, upd_same, .nil, sK _ _ hR, rowsN_same sK hU, s2.trans sK⟩ (fun j σ H' _ ⟨_, _, _, _, _, z, _⟩ => SqL.of z) ?_ ?_⟩
    · clear hR hU s2 hKp sK
      rintro j y σ H3 hj ⟨vs, f5, rfl, hKp, hV, hR, hU, s3⟩
      obtain ⟨p, ep, rfl⟩ : ∃ p, us[j]? = some p ∧ y = .ref p := by
        rw [List.getElem?_map] at hj
        obtain ⟨p, a, b⟩ := Option.map_eq_some_iff.mp hj
        exact ⟨p, a, b.symm⟩
      obtain ⟨row, er, hrow⟩ := prd_at hU ep
      obtain ⟨rl, rv⟩ := nrows_ok t row (List.mem_of_getElem? er)
      refine nm_if_len ?_
      refine lc_gA (ys := qs.map V.ref) (fun i v R => True) (fun i => fitN (bs.getD i []) row) (fun i v R R' s h => h) (fun Q' z => ⟨_, rfl, ix_row (.inr (seqT_same s3 m1)) (by rfl) z⟩) (.inr (seqT_same s3 m4)) (by rw [List.length_map]; have := MO.ln; omega) (fun D i y H4 yes no AD s4 s5 hy hyes hno => ?_) (fun D H4 zs hD s4 hz hP => ?_)
      · obtain ⟨q, eq_, rfl⟩ : ∃ q, qs[i]? = some q ∧ y = .ref q := by
          rw [List.getElem?_map] at hy
          obtain ⟨p, a, b⟩ := Option.map_eq_some_iff.mp hy
          exact ⟨p, a, b.symm⟩
        obtain ⟨bn, eb, zs, b1, b2⟩ := prd_at m5 eq_
        have hbn := MO.bs bn (List.mem_of_getElem? eb)
        have hzl : zs.length = bn.length := prd_len b2
        have s34 := s3.trans s4
        rw [show bs.getD i [] = bn from getD_of eb] at hyes hno
        refine ⟨rfl, ?_⟩
        refine tt_len ?_
        refine lc_gA (ys := zs.map V.ref) (fun i v R => True) (fun j => !decide (row.getD (bn.getD j (0, 0)).1 0 = (bn.getD j (0, 0)).2)) (fun i v R R' s h => h) (fun Q' z => ⟨_, rfl, z⟩) (.inr (seqT_same s34 b1)) (by rw [List.length_map]; have := hbn.hi; omega) (fun D2 j2 y2 H5 yes2 no2 AD2 s6 s7 hy2 hyes2 hno2 => ?_) (fun D2 H5 zs2 hD2 s6 hz2 hP2 => ?_)
        · obtain ⟨z, ez, rfl⟩ : ∃ z, zs[j2]? = some z ∧ y2 = .ref z := by
            rw [List.getElem?_map] at hy2
            obtain ⟨p, a, b⟩ := Option.map_eq_some_iff.mp hy2
            exact ⟨p, a, b.symm⟩
          obtain ⟨pp, epp, hp⟩ := prd_at b2 ez
          obtain ⟨e, o1, o2⟩ := hbn.of pp (List.mem_of_getElem? epp)
          have plt : pp.1 < row.length := by
            have := (List.getElem?_eq_some_iff.mp o1).1
            omega
          have eg : row[pp.1]? = some (row.getD pp.1 0) := by rw [List.getD_eq_getElem?_getD, List.getElem?_eq_getElem plt] <;> rfl
          rw [show bn.getD j2 (0, 0) = pp from getD_of epp] at hyes2 hno2
          refine .inl ⟨z, _, rfl, seqT_same (s34.trans s6) hp, rfl, .int (pp.1 : Nat), _, rfl, .int (pp.2 : Nat), [], rfl, rfl, rfl, ?_⟩
          refine ⟨_, rfl, _, rfl, ix_row (.inr (seqT_same (s4.trans s6) hrow)) (at_of rfl (by rw [List.getElem?_map, eg] <;> rfl)) ⟨_, rfl, rfl, _, rfl, ?_⟩⟩
          rw [dec_int]
          cases hs : !decide (row.getD pp.1 0 = pp.2) with
          | true => exact iteT ⟨_, rfl, hyes2 hs _ _ (Same.refl _) trivial⟩
          | false => exact iteF (hno2 hs _ (Same.refl _))
        · refine ⟨D2, _, rfl, .inl (SqL.of hz2), rfl, _, rfl, ?_⟩
          rw [fit_cnt (b := bn) (row := row) (n := zs2.length) (by
            rw [prd_len hP2, List.length_map, hzl]
            exact cnt (s := fun p : Nat × Nat => !decide (row.getD p.1 0 = p.2)))]
          cases hs : fitN bn row with
          | true => exact iteT ⟨_, rfl, hyes hs _ _ s6 trivial⟩
          | false => exact iteF (hno hs _ s6)
      · refine ⟨D, _, rfl, .inl (SqL.of hz), rfl, _, rfl, ?_⟩
        rw [cnt0 (l := bs) (s := fun b => fitN b row) (n := zs.length) (by
          rw [prd_len hP, List.length_map, hql]
          exact cnt (s := fun b => fitN b row))]
        have hKp4 := s4 _ _ hKp
        have nx : ((nrows t).take (j + 1)).filter (okN bs) = ((nrows t).take j).filter (okN bs) ++ if okN bs row = true then [row] else [] := by
          rw [take_one er, List.filter_append]
          congr 1
          by_cases h : okN bs row = true
          · rw [if_pos h, List.filter_cons_of_pos h] <;> rfl
          · rw [if_neg h, List.filter_cons_of_neg h] <;> rfl
        have jlt : j < (nrows t).length := (List.getElem?_eq_some_iff.mp er).1
        have vl : vs.length ≤ j := by
          rw [prd_len hV]
          refine Nat.le_trans (List.length_filter_le _ _) ?_
          rw [List.length_take]
          omega
        show if okN bs row = true then _ else _
        cases hs : okN bs row with
        | true =>
          refine iteT ⟨_, rfl, .inl ⟨rfl, _, SqL.of hKp4⟩, _, rfl, Kp, _, _, rfl, rfl, hKp4, small1000 (by rw [List.length_map]; omega), ?_⟩
          refine ⟨vs ++ [p], _, rfl, by rw [upd_same, List.map_append] <;> rfl, ?_, by rw [upd_ne KR.symm]; exact s4 _ _ hR, rowsN_off hKp4 (rowsN_same s4 hU), fun b o z => ?_⟩
          · rw [nx, hs]
            exact rowsN_off hKp4 (prd_snoc (rowsN_same s4 hV) (seqT_same s4 hrow))
          · rw [upd_ne (ne_of_none z hK0)]
            exact s4 _ _ (s3 _ _ z)
        | false =>
          refine iteF ⟨vs, _, rfl, hKp4, ?_, s4 _ _ hR, rowsN_same s4 hU, s3.trans s4⟩
          rw [nx, hs, if_neg Bool.false_ne_true, List.append_nil]
          exact rowsN_same s4 hV
    · clear hR hU s2 hKp sK
      rintro σ H3 ⟨vs, f5, rfl, hKp, hV, hR, hU, s3⟩
      rw [List.length_map, hul, List.take_of_length_le (Nat.le_refl _)] at hV
      exact ⟨_, rfl, k Kp vs H3 s3 hK0 hKp hV⟩
end
end Q
set_option Elab.async false
set_option linter.all false
set_option maxRecDepth 100000
set_option maxHeartbeats 4000000
/-! ### _law_told_row, _law_known, _law_handed, _law_fitting -/
namespace Q
open PySem L2 XD
def told (t : Tbl) (row : List Nat) : List Pr := (List.range row.length).map fun i => tpr t (i, row.getD i 0)
structure KnOk (t : Tbl) (kn : NB) : Prop where
  hi : kn.length ≤ t.length
  nd : (kn.map (·.1)).Nodup
  of : ∀ p ∈ kn, ∃ e, t[p.1]? = some e ∧ p.2 < e.2.length
theorem KnOk.known {t : Tbl} (T : TabOk t) {kn : NB} (h : KnOk t kn) : Known t (kn.map (tpr t)) :=
  ⟨by rw [List.length_map]; exact h.hi, nd_told T h.nd h.of, of_told h.of⟩
def spToldN (K : PySem.W.Frag) : Sp := fun vs H Q _ => ∃ (m r : Addr) (t : Tbl) (bs : List NB) (row : List Nat), vs = [.ref m, .ref r] ∧ ModelAt K H m t bs ∧ t.length ≤ 6 ∧ RowN K H r row ∧ RowOk t row ∧ ∀ z H', Same H H' → LotAt K H' z (told t row) → Q (.ref z) H'
def spKnownN (K : PySem.W.Frag) : Sp := fun vs H Q _ => ∃ (a b m : Addr) (t : Tbl) (bs : List NB), vs = [.ref a, .ref m] ∧ Tape b H a ∧ ModelAt K H m t bs ∧ TabOk t ∧
  ∀ (D : Addr) (zs : List Addr) (kn : NB) (H' : Hp), H D = none → H' D = some (.lst (zs.map V.ref)) → Paired (prN K H') zs kn → KnOk t kn → Tape b H' a → Kept a H H' → Q (.ref D) H'
def spHandedN (K : PySem.W.Frag) : Sp := fun vs H Q _ => ∃ (a b m D : Addr) (t : Tbl) (bs : List NB) (zs : List Addr) (kn : NB), vs = [.ref a, .ref m, .ref D] ∧ Tape b H a ∧ ModelAt K H m t bs ∧ t.length ≤ 6 ∧ H D = some (.lst (zs.map V.ref)) ∧ Paired (prN K H) zs kn ∧ KnOk t kn ∧
  ∀ v d H', Dp K H' v d → FRule (kn.map (tpr t)) d → FaZ K H' v d → Tape b H' a → Kept a H H' → Q v H'
def spFitting (K : PySem.W.Frag) : Sp := fun vs H Q _ => ∃ (R D : Addr) (t : Tbl) (us zs : List Addr) (rows : List (List Nat)) (kn : NB), vs = [.ref R, .ref D] ∧ H R = some (.lst (us.map V.ref)) ∧ Paired (RowN K H) us rows ∧ rows.length ≤ 1000 ∧ (∀ row ∈ rows, RowOk t row) ∧ H D = some (.lst (zs.map V.ref)) ∧ Paired (prN K H) zs kn ∧ KnOk t kn ∧ t.length ≤ 6 ∧
  ∀ (E : Addr) (vs : List Addr) (H' : Hp), Same H H' → H' E = some (.lst (vs.map V.ref)) → Paired (RowN K H') vs (rows.filter (fitN kn)) → Q (.ref E) H'
theorem row_get {t : Tbl} {row : List Nat} (h : RowOk t row) {i : Nat} {e : Str × List Str} (he : t[i]? = some e) : row[i]? = some (row.getD i 0) ∧ row.getD i 0 < e.2.length := by
  have := (List.getElem?_eq_some_iff.mp he).1
  exact ⟨by rw [List.getD_eq_getElem?_getD, List.getElem?_eq_getElem (by rw [h.1]; exact this)] <;> rfl, h.2 i e he⟩
abbrev nTold : List Str := ["model", "row", "at"]
abbrev nHand : List Str := ["tape", "model", "known", "at", "word", "pairs", "pair"]
abbrev nFit : List Str := ["rows", "known", "row", "at", "word"]
abbrev scFitR : Scope := { kind := .function, names := [(".0", .local), ("row", .cell), ("len", .globalImplicit), ("known", .cell)], isGenerator := false, isCoroutine := false }
section
variable {P : Program} {w : World} {K : PySem.W.Frag} {mg : Str → Option Value} {base : Heap}
theorem scTold : FnScope nTold ["model", "row"] (defScope sToldRow) := ⟨rfl, rfl, rfl, by decide +kernel, rfl, by decide +kernel, by decide +kernel⟩
theorem ok_told {f : Addr} {fd : FuncData} (F : Fun K "_law_told_row" "_law_told_row" sToldRow f fd) (T : BtT mg) (T3 : mg "tuple" = none) : FnOk P w K mg base CX0 1 f fd ["model", "row"] (spToldN K) := by
  refine F.ok scTold (fun vs H Q E h => ?_) (fun cdv A outer s H vs Q E hr h => ?_)
  · obtain ⟨m, r, t, bs, row, rfl, _⟩ := h
    rfl
  obtain ⟨m, r, t, bs, row, rfl, hm, t6, hrow, rok, k⟩ := h
  have vt_ : PySem.bootBuiltins "tuple" = some (.type "tuple") := by decide +kernel
  refine ⟨_, pss_one (ps_ret (pe_callTy (call_tupK K rfl) rfl T3 vt_ (pa_cons (pe_lc (own := [("at", 2)]) (g := gName 2) (tt := tYes) (by rfl) scTold.nd (pi_range1 rfl T.range (pa_cons (pe_callB call_len_seq rfl T.len PySem.boot_len (pa_cons (pv 1) pa_nil)) pa_nil)) (blkOk_by (N := nTold) (sc := defScope sToldRow) (by decide +kernel))
      (fun _ _ _ _ _ => pg_name (i := 2) scTold.nd rfl (.inl rfl)) (fun _ _ _ _ _ => pts_nil)
      (fun _ _ _ _ _ => pe_tupZ (pa_cons (pe_ix (ix_both K rfl) (pe_ix (ix_both K rfl) (pe_ix (ix_both K rfl) (pv 0) pe_int (fun _ _ => rfl)) (pv 2) (fun _ _ => rfl)) pe_int (fun _ _ => rfl))
          (pa_cons (pe_ix (ix_both K rfl) (pe_ix (ix_both K rfl) (pe_ix (ix_both K rfl) (pe_ix (ix_both K rfl) (pv 0) pe_int (fun _ _ => rfl)) (pv 2) (fun _ _ => rfl)) pe_int (fun _ _ => rfl)) (pe_ix (ix_both K rfl) (pv 1) (pv 2) (fun _ _ => rfl)) (fun _ _ => rfl)) pa_nil)))) pa_nil))), ?_⟩
  obtain ⟨B, N, ps, kvs, qs, m1, m2, m3, m4, m5⟩ := hm
  refine ret_cb ?_
  refine lc_gr (Q := fun x H2 => rTupZ K [x] H2 Q) (n := (row.map fun (n : Nat) => V.int n).length) (fun i v R => ∃ z, v = .ref z ∧ SqT K R z [.str (tpr t (i, row.getD i 0)).1, .str (tpr t (i, row.getD i 0)).2]) (fun _ => true) (fun i v R R' s ⟨p, e, h⟩ => ⟨p, e, seqT_same s h⟩) (fun Q' z => ⟨_, rfl, r, _, rfl, .inr hrow, z⟩) (by rw [List.length_map, rok.1]; omega) (fun D i H' yes no AD s1 s2 hi hyes hno => ?_) (fun D H' zs hD s1 hz hP => ?_)
  · rw [List.length_map, rok.1] at hi
    have e0 : t[i]? = some t[i] := List.getElem?_eq_getElem hi
    generalize t[i] = e at e0
    obtain ⟨g1, g2⟩ := row_get rok e0
    obtain ⟨tp1, tp2⟩ := tpr_of (p := (i, row.getD i 0)) e0 g2
    obtain ⟨q3, v3, c1, c2, c3⟩ := m3.get e0
    have m1' := seqT_same s1 m1
    have m2' := seqT_same s1 m2
    have c2' := seqT_same s1 c2
    have c3' := seqT_same s1 c3
    obtain ⟨acc, hacc⟩ := AD
    refine ⟨rfl, ?_⟩
    unfold tYes
    refine iteT ⟨_, rfl, ix_row (.inr m1') (by rfl) ⟨_, rfl, ix_row (.inr m2') (at_of rfl c1) (ix_row (.inr c2') (by rfl) ⟨_, rfl, ix_row (.inr m1') (by rfl) ⟨_, rfl, ix_row (.inr m2') (at_of rfl c1) (ix_row (.inr c2') (by rfl) ⟨_, rfl, _, rfl, ix_row (.inr (seqT_same s1 hrow)) (at_of rfl (by rw [List.getElem?_map, g1] <;> rfl)) (ix_row (.inr c3') (at_of rfl (by rw [List.getElem?_map, tp2] <;> rfl)) ⟨by show 2 ≤ sizeLine; decide, fun x o hx ho => ?_⟩)⟩)⟩⟩)⟩⟩
    refine hyes rfl _ _ (new_same hx _) ⟨x, rfl, ?_⟩
    rw [tp1]
    exact .inl (.inr ⟨o, rm_new (alive_of hacc) hx⟩)
  · obtain ⟨xs, rfl, hxs⟩ := refs_of (T := fun z (e : Pr) => SqT K (rmL [D] H') z [.str e.1, .str e.2]) (g := fun i => tpr t (i, row.getD i 0)) hP
    rw [List.filter_eq_self.mpr (fun _ _ => rfl), List.length_map] at hxs
    refine ⟨D, _, rfl, .inl ⟨SqL.of hz, fun z o hz' _ => k z _ (s1.trans (new_same hz' _)) ⟨xs, .inl (.inr ⟨o, upd_same⟩), prd_imp (fun _ _ h => seqT_same (Same.trans rm_le (new_same hz' _)) h) hxs⟩⟩⟩
theorem scKnownN : FnScope ["tape", "model", "known", "at"] ["tape", "model"] (defScope sKnown) := ⟨rfl, rfl, rfl, by decide +kernel, rfl, by decide +kernel, by decide +kernel⟩
theorem ok_knownN {f : Addr} {fd : FuncData} (F : Fun K "_law_known" "_law_known" sKnown f fd) (T : BtT mg) (KD : Kn P w K mg base 2 "_law_draw" ["tape", "many"] spDrawT) (KC : Kn P w K mg base 3 "_law_chosen" ["tape", "things", "many"] (spChosen K)) : FnOk P w K mg base CX0 4 f fd ["tape", "model"] (spKnownN K) := by
  obtain ⟨fD, fdD, GD, kD, bD, mD⟩ := KD.ex
  obtain ⟨fC, fdC, GC, kC, bC, mC⟩ := KC.ex
  refine F.ok scKnownN (fun vs H Q E h => ?_) (fun cdv A outer s H vs Q E hr h => ?_)
  · obtain ⟨a, b, m, t, bs, rfl, _⟩ := h
    rfl
  obtain ⟨a, b, m, t, bs, rfl, ha, hm, TO, k⟩ := h
  refine ⟨_, pss_cons (ps_set (i := 2) scKnownN.nd rfl (.inl rfl) (pe_lst pa_nil))
    (pss_cons (ps_for PassesOwn.never rfl (pi_list (pe_call GC hr rfl mC kC bC .nil pass0 (pa_cons (pv 0) (pa_cons (pe_listRg rfl (by rfl) T.list (prg_1 (by rfl) T.range (pe_callB call_len_seq rfl T.len PySem.boot_len (pa_cons (pe_ix (ix_both K rfl) (pv 1) pe_int (fun _ _ => rfl)) pa_nil)))) (pa_cons (pe_call GD (hr.mono (by decide)) rfl mD kD bD .nil pass0 (pa_cons (pv 0) (pa_cons (pe_op op_add (pe_callB call_len_seq rfl T.len PySem.boot_len (pa_cons (pe_ix (ix_both K rfl) (pv 1) pe_int (fun _ _ => rfl)) pa_nil)) pe_int) pa_nil))) pa_nil))))) (pg_name (i := 3) scKnownN.nd rfl (.inl rfl))
      (pss_one (ps_expr (pe_bm PySem.F.plainAttrs_list PySem.F.slot_list_append PySem.F.type_list_append mt_append (pv 2) (pa_cons (pe_tupZ (pa_cons (pv 3) (pa_cons (pe_call GD (hr.mono (by decide)) rfl mD kD bD .nil pass0 (pa_cons (pv 0) (pa_cons (pe_callB call_len_seq rfl T.len PySem.boot_len (pa_cons (pe_ix (ix_both K rfl) (pe_ix (ix_both K rfl) (pe_ix (ix_both K rfl) (pv 1) pe_int (fun _ _ => rfl)) (pv 3) (fun _ _ => rfl)) pe_int (fun _ _ => rfl)) pa_nil)) pa_nil))) pa_nil))) pa_nil)))))
    (pss_one (ps_ret (pv 2)))), ?_⟩
  obtain ⟨B, N, ps, kvs, qs, m1, m2, m3, m4, m5⟩ := hm
  have hpl : ps.length = t.length := m3.len.1
  have TL := TO.lo
  have TH := TO.hi
  refine ⟨by show 0 ≤ sizeLine; decide, fun D hD => ?_⟩
  obtain ⟨Da, Db⟩ := ha.ne hD
  have sD := new_same hD (.lst [])
  have hD1 : upd H D (.lst []) D = some (.lst []) := upd_same
  refine ⟨_, rfl, _, rfl, ix_row (.inr (seqT_same sD m1)) (by rfl) ⟨B, _, rfl, .inr (seqT_same sD m2), _, rfl, RgOk.of_le (by decide) (by rw [List.length_map]; omega) (by decide) (by rw [List.length_map]; omega), fun L hL => ?_⟩⟩
  rw [List.length_map, hpl, rg_map]
  have sL := new_same hL (.lst ((List.range t.length).map fun (n : Nat) => V.int n))
  have s2 := sD.trans sL
  have F2 := ha.same s2
  refine ⟨_, rfl, _, rfl, ix_row (.inr (seqT_same s2 m1)) (by rfl) ⟨B, _, rfl, .inr (seqT_same s2 m2), _, _, rfl, rfl, a, b, _, rfl, F2, few200 (n := t.length + 1) (by omega) |> fun z => ?_, fun r H3 r0 r1 F3 k3 => ?_⟩⟩
  · rw [List.length_map, hpl]
    exact z
  rw [List.length_map, hpl] at r1
  have r2 : r < (t.length : Int) + 1 := by
    split at r1 <;> omega
  obtain ⟨n, rfl⟩ : ∃ n : Nat, r = (n : Int) := ⟨r.toNat, by omega⟩
  have k03 := (Kept.of_same s2).trans k3
  refine ⟨a, b, L, _, n, rfl, F3, lst_tp F2 k3 upd_same, by rw [List.length_map, List.length_range]; omega, by omega, fun A ys zs H4 hA0 hA hper hlen F4 k4 => ?_⟩
  obtain ⟨ats, rfl, nnd, nin⟩ := perm_inj nat_inj hper List.nodup_range
  rw [List.length_map, List.length_map, List.length_range] at hlen
  have d3 : H3 D = some (.lst []) := lst_tp F2 k3 (sL _ _ hD1)
  have AD : A ≠ D := fun z => by
    rw [z, d3] at hA0
    cases hA0
  have k04 := k03.trans k4
  have d4 := lst_tp F3 k4 d3
  refine ⟨A, rfl, ⟨_, SqL.of hA⟩, for_list (K := K) (a := A) (xs := ats.map fun (n : Nat) => V.int n) (fun j σ H' => ∃ (zs : List Addr) (kn : NB) (f3 : Option V), σ = [some (.ref a), some (.ref m), some (.ref D), f3] ∧
      H' A = some (.lst (ats.map fun (n : Nat) => V.int n)) ∧ H' D = some (.lst (zs.map V.ref)) ∧ Paired (prN K H') zs kn ∧ kn.map (·.1) = ats.take j ∧ (∀ p ∈ kn, ∃ e, t[p.1]? = some e ∧ p.2 < e.2.length) ∧ Tape b H' a ∧ Kept a H H')
    ⟨[], [], _, rfl, hA, d4, .nil, rfl, (fun p h => absurd h List.not_mem_nil), F4, k04⟩ (fun j σ H' _ ⟨_, _, _, _, z, _⟩ => SqL.of z) ?_ ?_⟩
  · clear hA d4 F4 k04 k4 d3 k3 F3 hper hD1 hL sL s2 F2 k03
    rintro j y σ H7 hj ⟨zs, kn, f3, rfl, hA, hD', hz, bm, bv, F7, k7⟩
    obtain ⟨at_, hat, rfl⟩ : ∃ z : Nat, ats[j]? = some z ∧ y = V.int (z : Nat) := by
      rw [List.getElem?_map] at hj
      obtain ⟨z, hz, e⟩ := Option.map_eq_some_iff.mp hj
      exact ⟨z, hz, e.symm⟩
    have hlt : at_ < t.length := List.mem_range.mp (nin _ (List.mem_of_getElem? hat))
    have e0 : t[at_]? = some t[at_] := List.getElem?_eq_getElem hlt
    have emem := List.getElem_mem hlt
    generalize t[at_] = e at e0 emem
    have m3' := m3.tp ha k7
    obtain ⟨q, v, c1, c2, c3⟩ := m3'.get e0
    have he := TO.vs e emem
    refine ⟨_, rfl, .inl ⟨rfl, _, SqL.of hD'⟩, _, rfl, _, rfl, _, rfl, ix_row (.inr (seqT_tp ha k7 m1)) (by rfl) ⟨_, rfl, ix_row (.inr (seqT_tp ha k7 m2)) (at_of rfl c1) (ix_row (.inr c2) (by rfl) ⟨v, _, rfl, .inr c3, a, b, _, rfl, F7, few200 (by rw [List.length_map]; omega), fun r8 H8 w0 w1 F8 k8 => ⟨by show 2 ≤ sizeLine; decide, fun x o hx ho => ?_⟩⟩)⟩⟩
    rw [List.length_map] at w1
    have w2 : r8 < (e.2.length : Int) := by
      split at w1 <;> omega
    obtain ⟨n8, rfl⟩ : ∃ n : Nat, r8 = (n : Int) := ⟨r8.toNat, by omega⟩
    have sx : Same H8 (upd H8 x (.frz o (.tup [.int (at_ : Nat), .int (n8 : Nat)]))) := new_same hx _
    have FA := F8.same sx
    have kA := (k7.trans k8).trans (Kept.of_same sx)
    have dA := sx _ _ (lst_tp F7 k8 hD')
    have aA := sx _ _ (lst_tp F7 k8 hA)
    have zA := prsN_same sx (prsN_tp F7 k8 hz)
    have xA : SqT K (upd H8 x (.frz o (.tup [.int (at_ : Nat), .int (n8 : Nat)]))) x [.int (at_ : Nat), .int (n8 : Nat)] := .inl (.inr ⟨o, upd_same⟩)
    generalize upd H8 x (.frz o (.tup [.int (at_ : Nat), .int (n8 : Nat)])) = HA at FA kA dA aA zA xA
    have bl2 : kn.length ≤ ats.length := by
      have h1 := congrArg List.length bm
      rw [List.length_map, List.length_take] at h1
      omega
    refine ⟨D, _, _, rfl, rfl, dA, small1000 (by rw [List.length_map, prd_len zA]; omega), zs ++ [x], kn ++ [(at_, n8)], _, rfl, by rw [upd_ne AD]; exact aA, ?_, ?_, ?_, ?_, FA.off Da Db, kA.new hD⟩
    · rw [upd_same, List.map_append] <;> rfl
    · exact prsN_off dA (prd_snoc zA xA)
    · rw [List.map_append, bm, take_one hat] <;> rfl
    · intro p hp
      rcases List.mem_append.mp hp with hp | hp
      · exact bv p hp
      · rw [List.mem_singleton.mp hp]
        exact ⟨e, e0, by show n8 < _; omega⟩
  · clear hA d4 F4 k04
    rintro σ H7 ⟨zs, kn, f3, rfl, hA, hD', hz, bm, bv, F7, k7⟩
    rw [List.length_map, List.take_of_length_le (Nat.le_refl _)] at bm
    have bl3 : kn.length = ats.length := by rw [← bm, List.length_map]
    exact ⟨_, rfl, k D zs kn H7 hD hD' hz ⟨by omega, by rw [bm]; exact nnd, bv⟩ F7 k7⟩
end
end Q
set_option Elab.async false
set_option linter.all false
set_option maxRecDepth 100000
set_option maxHeartbeats 4000000
/-! ### _law_handed, _law_fitting -/
namespace Q
open PySem L2 XD
section
variable {P : Program} {w : World} {K : PySem.W.Frag} {mg : Str → Option Value} {base : Heap}
theorem scHand : FnScope nHand ["tape", "model", "known"] (defScope sHanded) := ⟨rfl, rfl, rfl, by decide +kernel, rfl, by decide +kernel, by decide +kernel⟩
theorem ok_handedN {f : Addr} {fd : FuncData} (F : Fun K "_law_handed" "_law_handed" sHanded f fd) (T : BtT mg) (T3 : mg "tuple" = none) (KD : Kn P w K mg base 2 "_law_draw" ["tape", "many"] spDrawT) : FnOk P w K mg base CX0 3 f fd ["tape", "model", "known"] (spHandedN K) := by
  obtain ⟨fD, fdD, GD, kD, bD, mD⟩ := KD.ex
  refine F.ok scHand (fun vs H Q E h => ?_) (fun cdv A outer s H vs Q E hr h => ?_)
  · obtain ⟨a, b, m, D, t, bs, zs, kn, rfl, _⟩ := h
    rfl
  obtain ⟨a, b, m, D, t, bs, zs, kn, rfl, ha, hm, t6, hD, hz, KO, k⟩ := h
  have vt_ : PySem.bootBuiltins "tuple" = some (.type "tuple") := by decide +kernel
  have vl_ : PySem.bootBuiltins "list" = some (.type "list") := by decide +kernel
  refine ⟨_, pss_cons (ps_setLc (i := 5) (own := [("at", 3), ("word", 4)]) (g := gRow K 2 (gCons (gName 3) (gCons (gName 4) gNil))) (tt := tYes) (by rfl) scHand.nd rfl rfl (sw_true rfl rfl rfl (by decide +kernel)) (pi_row (pv 2)) (blkOk_by (N := nHand) (sc := defScope sHanded) (by decide +kernel))
      (fun _ _ _ _ _ => pg_row rfl (pgs_cons (pg_name (i := 3) scHand.nd rfl (.inl rfl)) (pgs_cons (pg_name (i := 4) scHand.nd rfl (.inl rfl)) pgs_nil))) (fun _ _ _ _ _ => pts_nil)
      (fun _ _ _ _ _ => pe_tupZ (pa_cons (pe_ix (ix_both K rfl) (pe_ix (ix_both K rfl) (pe_ix (ix_both K rfl) (pv 1) pe_int (fun _ _ => rfl)) (pv 3) (fun _ _ => rfl)) pe_int (fun _ _ => rfl))
          (pa_cons (pe_ix (ix_both K rfl) (pe_ix (ix_both K rfl) (pe_ix (ix_both K rfl) (pe_ix (ix_both K rfl) (pv 1) pe_int (fun _ _ => rfl)) (pv 3) (fun _ _ => rfl)) pe_int (fun _ _ => rfl)) (pv 4) (fun _ _ => rfl)) pa_nil))))
    (pss_cons (ps_if (pt_cmpR op_eq (pe_call GD hr rfl mD kD bD .nil pass0 (pa_cons (pv 0) (pa_cons pe_int pa_nil))) pe_int (nomark _))
      (pss_one (ps_ret (pe_lc (own := [("pair", 6)]) (g := gName 6) (tt := tYes) (by rfl) scHand.nd (pi_row (pv 5)) (blkOk_by (N := nHand) (sc := defScope sHanded) (by decide +kernel))
        (fun _ _ _ _ _ => pg_name (i := 6) scHand.nd rfl (.inl rfl)) (fun _ _ _ _ _ => pts_nil) (fun _ _ _ _ _ => pe_callTy (call_listK K rfl) rfl T.list vl_ (pa_cons (pv 6) pa_nil))))) pss_nil)
    (pss_one (ps_ret (pe_callTy (call_tupK K rfl) rfl T3 vt_ (pa_cons (pv 5) pa_nil))))), ?_⟩
  obtain ⟨B, N, ps, kvs, qs, m1, m2, m3, m4, m5⟩ := hm
  have hzl : zs.length = kn.length := prd_len hz
  have kl := KO.hi
  refine asg_lcX ?_
  refine lc_gA (ys := zs.map V.ref) (fun j v R => ∃ z, v = .ref z ∧ SqT K R z [.str (tpr t (kn.getD j (0, 0))).1, .str (tpr t (kn.getD j (0, 0))).2]) (fun _ => true) (fun j v R R' s ⟨q, e, h⟩ => ⟨q, e, seqT_same s h⟩) (fun Q' z => ⟨_, rfl, z⟩) (.inl (SqL.of hD)) (by rw [List.length_map]; omega) (fun D2 j y2 H2 yes2 no2 AD2 s3 s4 hy2 hyes2 hno2 => ?_) (fun D2 H2 zs2 hD2 s3 hz2 hP2 => ?_)
  · obtain ⟨z, ez, rfl⟩ : ∃ z, zs[j]? = some z ∧ y2 = .ref z := by
      rw [List.getElem?_map] at hy2
      obtain ⟨p, a, b⟩ := Option.map_eq_some_iff.mp hy2
      exact ⟨p, a, b.symm⟩
    obtain ⟨p, ep, hp⟩ := prd_at hz ez
    obtain ⟨e, o1, o2⟩ := KO.of p (List.mem_of_getElem? ep)
    obtain ⟨tp1, tp2⟩ := tpr_of o1 o2
    obtain ⟨q3, v3, c1, c2, c3⟩ := m3.get o1
    have m1' := seqT_same s3 m1
    have m2' := seqT_same s3 m2
    have c2' := seqT_same s3 c2
    have c3' := seqT_same s3 c3
    obtain ⟨acc, hacc⟩ := AD2
    refine .inl ⟨z, _, rfl, seqT_same s3 hp, rfl, .int (p.1 : Nat), _, rfl, .int (p.2 : Nat), [], rfl, rfl, rfl, ?_⟩
    dsimp only [tYes]
    refine iteT ?_
    refine ⟨_, rfl, ix_row (.inr m1') (by rfl) ⟨_, rfl, ix_row (.inr m2') (at_of rfl c1) (ix_row (.inr c2') (by rfl) ⟨_, rfl, ix_row (.inr m1') (by rfl) ⟨_, rfl, ix_row (.inr m2') (at_of rfl c1) (ix_row (.inr c2') (by rfl) ⟨_, rfl, ix_row (.inr c3') (at_of rfl (by rw [List.getElem?_map, tp2] <;> rfl)) ⟨by show 2 ≤ sizeLine; decide, fun x o hx ho => ?_⟩⟩)⟩⟩)⟩⟩
    refine hyes2 rfl _ _ (new_same hx _) ⟨x, rfl, ?_⟩
    rw [show kn.getD j (0, 0) = p from getD_of ep, tp1]
    exact .inl (.inr ⟨o, rm_new (alive_of hacc) hx⟩)
  obtain ⟨xs, rfl, hxs⟩ := refs_of (T := fun z (e : Pr) => SqT K (rmL [D2] H2) z [.str e.1, .str e.2]) (g := fun j => tpr t (kn.getD j (0, 0))) hP2
  have ef : ((List.range (zs.map V.ref).length).filter fun _ => true).map (fun j => tpr t (kn.getD j (0, 0))) = kn.map (tpr t) := by
    rw [List.filter_eq_self.mpr (fun _ _ => rfl), List.length_map, hzl]
    have := map_range kn (0, 0)
    conv => rhs; rw [← this]
    rw [List.map_map] <;> rfl
  rw [ef] at hxs
  have hxs : Paired (fun z (e : Pr) => SqT K H2 z [.str e.1, .str e.2]) xs (kn.map (tpr t)) := prd_imp (fun _ _ h => seqT_same rm_le h) hxs
  have F2 := ha.same s3
  have hx6 : xs.length ≤ 6 := by
    have := prd_len hxs
    rw [List.length_map] at this
    omega
  generalize kn.map (tpr t) = kr at hxs k
  have hxl := prd_len hxs
  refine ⟨_, rfl, a, b, 2, rfl, F2, by decide, fun r H3 r0 r1 F3 k3 => ?_⟩
  have d3 := lst_tp F2 k3 hz2
  have x3 : Paired (fun z (e : Pr) => SqT K H3 z [.str e.1, .str e.2]) xs kr := prd_imp (fun _ _ h => seqT_tp F2 k3 h) hxs
  have k03 := (Kept.of_same s3).trans k3
  refine ⟨rfl, _, rfl, ite2 (fun _ => ?_) (fun _ => ?_)⟩
  · refine ret_lc ?_
    refine lc_g (ys := xs.map V.ref) (fun i v R => ∃ q, v = .ref q ∧ R q = some (.lst [.str (kr.getD i d0).1, .str (kr.getD i d0).2])) (fun _ => true) (fun i v R R' s ⟨q, e, h⟩ => ⟨q, e, s _ _ h⟩) (fun Q' z => ⟨_, rfl, z⟩) (.inl (SqL.of d3)) (by rw [List.length_map]; omega) (fun Dl j y2 H' yes no AD sl1 sl2 hy2 hyes hno => ?_) (fun Dl Hf zs10 hDl sf hz10 hP10 => ?_)
    · obtain ⟨q, e1, rfl⟩ : ∃ q, xs[j]? = some q ∧ y2 = .ref q := by
        rw [List.getElem?_map] at hy2
        obtain ⟨p, a, b⟩ := Option.map_eq_some_iff.mp hy2
        exact ⟨p, a, b.symm⟩
      obtain ⟨e, ee, hqe⟩ := prd_at x3 e1
      refine ⟨rfl, ?_⟩
      unfold tYes
      refine iteT ⟨_, rfl, q, _, rfl, .inr (seqT_same sl1 hqe), fun l hl => hyes rfl _ _ (new_same hl _) ⟨l, rfl, ?_⟩⟩
      rw [rm_new AD hl, getD_of ee]
    · obtain ⟨ps10, rfl, hp10⟩ := refs_of (T := fun q (e : Pr) => rmL [Dl] Hf q = some (.lst [.str e.1, .str e.2])) (g := fun i => kr.getD i d0) hP10
      have ef : ((List.range (xs.map V.ref).length).filter fun _ => true).map (fun i => kr.getD i d0) = kr := by
        rw [List.filter_eq_self.mpr (fun _ _ => rfl), List.length_map, hxl]
        exact map_range kr d0
      rw [ef] at hp10
      have hp10 : Paired (fun q (e : Pr) => Hf q = some (.lst [.str e.1, .str e.2])) ps10 kr := prd_imp (fun _ _ z => rm_le _ _ z) hp10
      exact k (.ref Dl) (lstD kr) Hf (.lst (SqL.of hz10) (lst_dps hp10)) ⟨_, rfl, lst_pairs kr⟩ ⟨Dl, _, _, rfl, .inl (SqL.of hz10), rfl, lst_dps hp10⟩ (F3.same sf) (k03.trans (Kept.of_same sf))
  · refine ⟨_, rfl, D2, _, rfl, .inl ⟨SqL.of d3, fun y o hy ho => ?_⟩⟩
    have sy := new_same hy (.frz o (.tup (xs.map V.ref)))
    have hky : Paired (fun z (e : Pr) => SqT K (L2.upd H3 y (.frz o (.tup (xs.map V.ref)))) z [.str e.1, .str e.2]) xs kr := prd_imp (fun _ _ h => seqT_same sy h) x3
    have hyT : SqZ (L2.upd H3 y (.frz o (.tup (xs.map V.ref)))) y (xs.map V.ref) := ⟨o, upd_same, ho⟩
    exact k (.ref y) (.tuple (kr.map fun e => .tuple [.str e.1, .str e.2])) _ (.tup hyT.sqT (pairs_dps hky)) ⟨_, rfl, rule_pair kr⟩ ⟨y, _, _, rfl, .inr hyT, rfl, pairs_dps hky⟩ (F3.same sy) (k03.trans (Kept.of_same sy))
theorem scFit : FnScope nFit ["rows", "known"] (defScope sFitting) := ⟨rfl, rfl, rfl, by decide +kernel, rfl, by decide +kernel, by decide +kernel⟩
theorem ok_fitting {f : Addr} {fd : FuncData} (F : Fun K "_law_fitting" "_law_fitting" sFitting f fd) (T : BtT mg) : FnOk P w K mg base CX0 1 f fd ["rows", "known"] (spFitting K) := by
  refine F.ok scFit (fun vs H Q E h => ?_) (fun cdv A outer s H vs Q E hr h => ?_)
  · obtain ⟨R, D, t, us, zs, rows, kn, rfl, _⟩ := h
    rfl
  obtain ⟨R, D, t, us, zs, rows, kn, rfl, hR, hU, hrl, hok, hD, hz, KO, t6, k⟩ := h
  refine ⟨_, pss_one (ps_ret (pe_lc (own := [("row", 2)]) (g := gName 2) (by rfl) scFit.nd (pi_row (pv 0)) (blkOk_by (N := nFit) (sc := defScope sFitting) (by decide +kernel))
      (fun _ _ _ _ _ => pg_name (i := 2) scFit.nd rfl (.inr rfl))
      (fun _ _ _ _ _ => pts_one (pt_cmpR op_eq (pe_callB (call_lenK K rfl) rfl T.len PySem.boot_len (pa_cons (pe_lc (own := [("at", 3), ("word", 4)]) (g := gRow K 2 (gCons (gName 3) (gCons (gName 4) gNil))) (by rfl) scFit.nd (pi_rowK K rfl (pv 1)) (blkOk_by (N := nFit) (sc := scFitR) (by decide +kernel))
        (fun _ _ _ _ _ => pg_row rfl (pgs_cons (pg_name (i := 3) scFit.nd rfl (.inl rfl)) (pgs_cons (pg_name (i := 4) scFit.nd rfl (.inl rfl)) pgs_nil)))
        (fun _ _ _ _ _ => pts_one (pt_cmpR op_ne (pe_ix (ix_both K rfl) (pv 2) (pv 3) (fun _ _ => rfl)) (pv 4) (nomark _))) (fun _ _ _ _ _ => pv 3)) pa_nil)) pe_int (nomark _))) (fun _ _ _ _ _ => pv 2))), ?_⟩
  have hul := prd_len hU
  have hzl : zs.length = kn.length := prd_len hz
  have kl := KO.hi
  refine ret_lc ?_
  refine lc_gA (ys := us.map V.ref) (fun i v R => ∃ p, v = .ref p ∧ RowN K R p (rows.getD i [])) (fun i => fitN kn (rows.getD i [])) (fun i v R R' s ⟨p, e, h⟩ => ⟨p, e, seqT_same s h⟩) (fun Q' z => ⟨_, rfl, z⟩) (.inl (SqL.of hR)) (by rw [List.length_map]; omega) (fun E i y H4 yes no AD s4 s5 hy hyes hno => ?_) (fun E H4 zs4 hE s4 hz4 hP => ?_)
  · obtain ⟨p, ep, rfl⟩ : ∃ p, us[i]? = some p ∧ y = .ref p := by
      rw [List.getElem?_map] at hy
      obtain ⟨p, a, b⟩ := Option.map_eq_some_iff.mp hy
      exact ⟨p, a, b.symm⟩
    obtain ⟨row, er, hrow⟩ := prd_at hU ep
    have rok := hok row (List.mem_of_getElem? er)
    rw [show rows.getD i [] = row from getD_of er] at hyes hno
    obtain ⟨acc4, hacc4⟩ := AD
    refine ⟨rfl, ?_⟩
    refine tt_len ?_
    refine lc_gA (ys := zs.map V.ref) (fun i v R => True) (fun j => !decide (row.getD (kn.getD j (0, 0)).1 0 = (kn.getD j (0, 0)).2)) (fun i v R R' s h => h) (fun Q' z => ⟨_, rfl, z⟩) (.inl (SqL.of (s4 _ _ hD))) (by rw [List.length_map]; omega) (fun D2 j2 y2 H5 yes2 no2 AD2 s6 s7 hy2 hyes2 hno2 => ?_) (fun D2 H5 zs2 hD2 s6 hz2 hP2 => ?_)
    · obtain ⟨z, ez, rfl⟩ : ∃ z, zs[j2]? = some z ∧ y2 = .ref z := by
        rw [List.getElem?_map] at hy2
        obtain ⟨p, a, b⟩ := Option.map_eq_some_iff.mp hy2
        exact ⟨p, a, b.symm⟩
      obtain ⟨pp, epp, hp⟩ := prd_at hz ez
      obtain ⟨e, o1, o2⟩ := KO.of pp (List.mem_of_getElem? epp)
      obtain ⟨eg, _⟩ := row_get rok o1
      rw [show kn.getD j2 (0, 0) = pp from getD_of epp] at hyes2 hno2
      refine .inl ⟨z, _, rfl, seqT_same (s4.trans s6) hp, rfl, .int (pp.1 : Nat), _, rfl, .int (pp.2 : Nat), [], rfl, rfl, rfl, ?_⟩
      refine ⟨_, rfl, _, rfl, ix_row (.inr (seqT_same (s4.trans s6) hrow)) (at_of rfl (by rw [List.getElem?_map, eg] <;> rfl)) ⟨_, rfl, rfl, _, rfl, ?_⟩⟩
      rw [dec_int]
      cases hs : !decide (row.getD pp.1 0 = pp.2) with
      | true => exact iteT ⟨_, rfl, hyes2 hs _ _ (Same.refl _) trivial⟩
      | false => exact iteF (hno2 hs _ (Same.refl _))
    · refine ⟨D2, _, rfl, .inl (SqL.of hz2), rfl, _, rfl, ?_⟩
      rw [fit_cnt (b := kn) (row := row) (n := zs2.length) (by
        rw [prd_len hP2, List.length_map, hzl]
        exact cnt (s := fun p : Nat × Nat => !decide (row.getD p.1 0 = p.2)))]
      cases hs : fitN kn row with
      | true =>
        refine iteT ⟨_, rfl, hyes hs _ _ s6 ⟨p, rfl, ?_⟩⟩
        exact seqT_rm (s6 _ _ hacc4) (seqT_same (s4.trans s6) hrow)
      | false => exact iteF (hno hs _ s6)
  · obtain ⟨vs, rfl, hvs⟩ := refs_of (T := RowN K (rmL [E] H4)) (g := fun i => rows.getD i []) hP
    have ef : ((List.range (us.map V.ref).length).filter fun i => fitN kn (rows.getD i [])).map (fun i => rows.getD i []) = rows.filter (fitN kn) := by
      rw [List.length_map, hul]
      have := sel_map (l := rows) (d := []) (s := fitN kn) (f := id)
      rw [List.map_id] at this
      exact this
    rw [ef] at hvs
    exact k E vs H4 s4 hz4 (rowsN_same rm_le hvs)
end
end Q
set_option Elab.async false
set_option linter.all false
set_option maxRecDepth 100000
set_option maxHeartbeats 4000000
/-! ### what the rows of numbers tell is what fillings tells -/
namespace Q
open PySem L2 XD
theorem eAt_left {t1 : Tbl} {e : Str × List Str} {i : Nat} (h : i < t1.length) : eAt (t1 ++ [e]) i = eAt t1 i := by
  unfold eAt
  rw [List.getD_eq_getElem?_getD, List.getD_eq_getElem?_getD, List.getElem?_append_left h]
theorem eAt_last {t1 : Tbl} {e : Str × List Str} : eAt (t1 ++ [e]) t1.length = e := by
  unfold eAt
  rw [List.getD_eq_getElem?_getD, List.getElem?_append_right (Nat.le_refl _), Nat.sub_self] <;> rfl
theorem told_snoc {t1 : Tbl} {e : Str × List Str} {row : List Nat} {k : Nat} (h : row.length = t1.length) : told (t1 ++ [e]) (row ++ [k]) = told t1 row ++ [(e.1, e.2.getD k Str.empty)] := by
  unfold told
  rw [List.length_append, List.length_singleton, List.range_succ, List.map_append]
  congr 1
  · refine List.map_congr_left fun i hi => ?_
    have hi := List.mem_range.mp hi
    unfold tpr
    rw [eAt_left (by omega), List.getD_eq_getElem?_getD (l := row ++ [k]), List.getElem?_append_left hi, ← List.getD_eq_getElem?_getD]
  · show [tpr (t1 ++ [e]) (row.length, (row ++ [k]).getD row.length 0)] = _
    have : (row ++ [k]).getD row.length 0 = k := by
      rw [List.getD_eq_getElem?_getD, List.getElem?_append_right (Nat.le_refl _), Nat.sub_self] <;> rfl
    rw [this]
    unfold tpr
    show [((eAt (t1 ++ [e]) row.length).1, (eAt (t1 ++ [e]) row.length).2.getD k Str.empty)] = _
    rw [h, eAt_last]
theorem chs_told (t : Tbl) : chs t = (nrows t).map (told t) := by
  have key : ∀ (t2 t1 : Tbl) (rows : List (List Nat)), (∀ row ∈ rows, RowOk t1 row) → t2.foldl wider (rows.map (told t1)) = (t2.foldl widerN rows).map (told (t1 ++ t2)) := by
    intro t2
    induction t2 with
    | nil =>
      intro t1 rows _
      rw [List.append_nil] <;> rfl
    | cons e t2 ih =>
      intro t1 rows h
      have step : wider (rows.map (told t1)) e = (widerN rows e).map (told (t1 ++ [e])) := by
        unfold wider widerN
        rw [List.flatMap_map, List.map_flatMap]
        refine fm_congr fun row hr => ?_
        rw [List.map_map]
        have : e.2.map (fun v => told t1 row ++ [(e.1, v)]) = ((List.range e.2.length).map fun k => e.2.getD k Str.empty).map fun v => told t1 row ++ [(e.1, v)] := by rw [map_range]
        rw [this, List.map_map]
        refine List.map_congr_left fun k _ => ?_
        exact (told_snoc (h row hr).1).symm
      have ok2 : ∀ row ∈ widerN rows e, RowOk (t1 ++ [e]) row := fun x hx => by
        obtain ⟨y, hy, hx⟩ := List.mem_flatMap.mp hx
        obtain ⟨k, hk, rfl⟩ := List.mem_map.mp hx
        obtain ⟨h1, h2⟩ := h y hy
        have hk := List.mem_range.mp hk
        refine ⟨by rw [List.length_append, List.length_append, h1] <;> rfl, fun i f hf => ?_⟩
        by_cases hi : i < t1.length
        · rw [List.getElem?_append_left hi] at hf
          have := h2 i f hf
          rw [List.getD_eq_getElem?_getD, List.getElem?_append_left (by omega), ← List.getD_eq_getElem?_getD]
          exact this
        · rw [List.getElem?_append_right (by omega)] at hf
          have hi2 : i - t1.length = 0 := by
            have := (List.getElem?_eq_some_iff.mp hf).1
            rw [List.length_singleton] at this
            omega
          rw [hi2] at hf
          cases hf
          rw [List.getD_eq_getElem?_getD, List.getElem?_append_right (by omega), h1, hi2]
          exact hk
      rw [List.foldl_cons, List.foldl_cons, step, ih _ _ ok2, List.append_assoc] <;> rfl
  have := key t [] [[]] (fun row hr => by
    rw [List.mem_singleton.mp hr]
    exact ⟨rfl, fun i e he => by cases he⟩)
  exact this
theorem told_names {t : Tbl} {row : List Nat} (h : row ∈ nrows t) : (told t row).map (·.1) = t.map (·.1) := by
  have := chs_names t [[]] [] (fun x hx => by rw [List.mem_singleton.mp hx] <;> rfl) (told t row) (by
    show told t row ∈ chs t
    rw [chs_told]
    exact List.mem_map.mpr ⟨row, h, rfl⟩)
  rw [List.nil_append] at this
  exact this
theorem told_get {t : Tbl} {row : List Nat} (h : RowOk t row) {i : Nat} (hi : i < t.length) : (told t row)[i]? = some (tpr t (i, row.getD i 0)) := by
  unfold told
  rw [List.getElem?_map, List.getElem?_range (by rw [h.1]; exact hi)] <;> rfl
theorem tpr_eq {t : Tbl} (T : TabOk t) {p q : Nat × Nat} {e f : Str × List Str} (h1 : t[p.1]? = some e) (h2 : p.2 < e.2.length) (h3 : t[q.1]? = some f) (h4 : q.2 < f.2.length) (h : tpr t p = tpr t q) : p = q := by
  obtain ⟨a1, a2⟩ := tpr_of h1 h2
  obtain ⟨b1, b2⟩ := tpr_of h3 h4
  have hn : p.1 = q.1 := nameAt_inj T.nm.1 h1 h3 (by rw [← a1, ← b1, h])
  have ef : e = f := by
    rw [hn] at h1
    rw [h1] at h3
    exact Option.some.inj h3
  subst ef
  have nd := (T.vs e (List.mem_of_getElem? h1)).1.1
  have e5 : e.2[p.2]? = e.2[q.2]? := by rw [a2, b2, h]
  have : p.2 = q.2 := by
    rw [List.getElem?_eq_getElem h2, List.getElem?_eq_getElem h4] at e5
    exact (List.getElem_inj nd).mp (Option.some.inj e5)
  exact Prod.ext hn this
theorem mem_told {t : Tbl} (T : TabOk t) {row : List Nat} (h : RowOk t row) {p : Nat × Nat} (hp : ∃ e, t[p.1]? = some e ∧ p.2 < e.2.length) : tpr t p ∈ told t row ↔ row.getD p.1 0 = p.2 := by
  obtain ⟨e, h1, h2⟩ := hp
  have plt := (List.getElem?_eq_some_iff.mp h1).1
  constructor
  · intro hm
    obtain ⟨i, hi, z⟩ := List.mem_iff_getElem?.mp hm |>.elim fun i hi => (⟨i, trivial, hi⟩ : ∃ i, True ∧ (told t row)[i]? = some (tpr t p))
    have ilt : i < t.length := by
      have := (List.getElem?_eq_some_iff.mp z).1
      unfold told at this
      rw [List.length_map, List.length_range, h.1] at this
      exact this
    rw [told_get h ilt] at z
    have z := Option.some.inj z
    have e0 : t[i]? = some t[i] := List.getElem?_eq_getElem ilt
    have := tpr_eq T (p := (i, row.getD i 0)) e0 (h.2 i _ e0) h1 h2 z
    rw [← this]
  · intro z
    refine List.mem_of_getElem? (i := p.1) ?_
    rw [told_get h plt, z]
theorem within_told {t : Tbl} (T : TabOk t) {row : List Nat} (h : RowOk t row) {b : NB} (hb : ∀ p ∈ b, ∃ e, t[p.1]? = some e ∧ p.2 < e.2.length) : within (b.map (tpr t)) (told t row) = fitN b row := by
  unfold within fitN
  rw [List.all_map, Bool.eq_iff_iff, List.all_eq_true, List.all_eq_true]
  constructor
  · intro g p hp
    have := of_decide_eq_true (g p hp)
    exact decide_eq_true ((mem_told T h (hb p hp)).mp this)
  · intro g p hp
    have := of_decide_eq_true (g p hp)
    exact decide_eq_true ((mem_told T h (hb p hp)).mpr this)
theorem fills_told {t : Tbl} {bs : List NB} {kn : NB} (M : ModelOk t bs 1000) (KO : KnOk t kn) : fills (once ((rsOf t bs).map (bySeq t))) (kn.map (tpr t)) t = (((nrows t).filter (okN bs)).filter (fitN kn)).map (told t) := by
  have T := M.tb
  have O := form_ok (good_told M (Nat.le_refl _))
  have bt : ∀ b ∈ bs, ∀ e ∈ b.map (tpr t), ∃ ws, (e.1, ws) ∈ t := fun b hb e he => by
    obtain ⟨ws, h1, _⟩ := of_told (M.bs b hb).of e he
    exact ⟨ws, h1⟩
  rw [fills_eq T.nm.1 (fun r hr => by
    obtain ⟨b, hb, rfl⟩ := List.mem_map.mp (once_mem.mp hr)
    obtain ⟨b0, hb0, rfl⟩ := List.mem_map.mp hb
    have B := ban_told T (M.bs b0 hb0)
    exact ⟨B.ne, bySeq_sub B.nd t⟩), chs_told, List.filter_map, List.filter_filter]
  congr 1
  refine List.filter_congr fun row hr => ?_
  have rok := nrows_ok t row hr
  show okRow _ _ (told t row) = (fitN kn row && okN bs row)
  unfold okRow
  rw [all_let T.nm.1 (nd_told T KO.nd KO.of) (fun e he => by
    obtain ⟨ws, h1, _⟩ := of_told KO.of e he
    exact ⟨ws, h1⟩) (told_names hr), within_told T rok KO.of]
  congr 1
  unfold okN
  rw [Bool.eq_iff_iff, List.all_eq_true, List.all_eq_true]
  constructor
  · intro g b hb
    have := g (bySeq t (b.map (tpr t))) (once_mem.mpr (List.mem_map.mpr ⟨b.map (tpr t), List.mem_map.mpr ⟨b, hb, rfl⟩, rfl⟩))
    rw [within_bySeq (bt b hb), within_told T rok (M.bs b hb).of] at this
    exact this
  · intro g r hr
    obtain ⟨b, hb, rfl⟩ := List.mem_map.mp (once_mem.mp hr)
    obtain ⟨b0, hb0, rfl⟩ := List.mem_map.mp hb
    rw [within_bySeq (bt b0 hb0), within_told T rok (M.bs b0 hb0).of]
    exact g b0 hb0
/-- the words of a place that stand in a row -/
def foundAt (t : Tbl) (M : List (List Nat)) (i : Nat) : List Str := ((List.range (eAt t i).2.length).filter fun k => decide (0 < (M.filter fun row => decide (row.getD i 0 = k)).length)).map fun k => (eAt t i).2.getD k Str.empty
theorem poss_found {t : Tbl} (T : TabOk t) {M : List (List Nat)} (hM : ∀ row ∈ M, RowOk t row) {i : Nat} (hi : i < t.length) : possAt (M.map (told t)) t i = foundAt t M i := by
  have e0 : t[i]? = some t[i] := List.getElem?_eq_getElem hi
  have ea := eAt_of e0
  generalize t[i] = e at e0 ea
  have nd := (T.vs e (List.mem_of_getElem? e0)).1.1
  unfold possAt foundAt
  rw [e0, ea]
  show e.2.filter _ = _
  have hf := sel_map (l := e.2) (d := Str.empty) (s := fun v => decide ((e.1, v) ∈ (M.map (told t)).map fun row => row.getD i d0)) (f := id)
  rw [List.map_id] at hf
  rw [← hf]
  have : (List.range e.2.length).filter (fun k => decide ((e.1, e.2.getD k Str.empty) ∈ (M.map (told t)).map fun row => row.getD i d0)) = (List.range e.2.length).filter fun k => decide (0 < (M.filter fun row => decide (row.getD i 0 = k)).length) := by
    refine List.filter_congr fun k hk => ?_
    have hk := List.mem_range.mp hk
    refine decide_eq_decide.mpr ⟨fun h => ?_, fun h => ?_⟩
    · rw [List.map_map] at h
      obtain ⟨row, hr, z⟩ := List.mem_map.mp h
      have z : (told t row).getD i d0 = (e.1, e.2.getD k Str.empty) := z
      rw [List.getD_eq_getElem?_getD, told_get (hM row hr) hi] at z
      have tp : tpr t (i, k) = (e.1, e.2.getD k Str.empty) := by
        unfold tpr
        rw [show eAt t (i, k).1 = e from ea]
      have := tpr_eq T (p := (i, row.getD i 0)) (q := (i, k)) e0 ((hM row hr).2 i e e0) e0 hk (by rw [tp]; exact z)
      have := congrArg Prod.snd this
      exact List.length_pos_of_mem (List.mem_filter.mpr ⟨hr, decide_eq_true this⟩)
    · obtain ⟨row, hr⟩ := List.exists_mem_of_length_pos h
      obtain ⟨hr, z⟩ := List.mem_filter.mp hr
      have z := of_decide_eq_true z
      rw [List.map_map]
      refine List.mem_map.mpr ⟨row, hr, ?_⟩
      show (told t row).getD i d0 = _
      rw [List.getD_eq_getElem?_getD, told_get (hM row hr) hi, z]
      show tpr t (i, k) = _
      unfold tpr
      rw [show eAt t (i, k).1 = e from ea]
  rw [this]
  refine List.map_congr_left fun k _ => rfl
/-- each field with what is found -/
def allFound (t : Tbl) (M : List (List Nat)) : List (Str × List Str) := (List.range t.length).map fun i => ((eAt t i).1, foundAt t M i)
theorem all_found {t : Tbl} (T : TabOk t) {M : List (List Nat)} (hM : ∀ row ∈ M, RowOk t row) : allPoss (M.map (told t)) t = allFound t M := by
  unfold allPoss allFound
  refine List.map_congr_left fun i hi => ?_
  have hi := List.mem_range.mp hi
  rw [poss_found T hM hi]
  congr 1
  have e0 : t[i]? = some t[i] := List.getElem?_eq_getElem hi
  rw [eAt_of e0]
  unfold nmAt
  rw [List.getD_eq_getElem?_getD, List.getElem?_map, e0] <;> rfl
theorem found_take {t : Tbl} {M : List (List Nat)} {i : Nat} (hi : i < t.length) : (allFound t M).take (i + 1) = (allFound t M).take i ++ [((eAt t i).1, foundAt t M i)] := by
  refine take_one ?_
  unfold allFound
  rw [List.getElem?_map, List.getElem?_range hi] <;> rfl
theorem found_len {t : Tbl} {M : List (List Nat)} : (allFound t M).length = t.length := by
  unfold allFound
  rw [List.length_map, List.length_range]
theorem foundAt_le {t : Tbl} {M : List (List Nat)} {i : Nat} : (foundAt t M i).length ≤ (eAt t i).2.length := by
  unfold foundAt
  rw [List.length_map]
  refine Nat.le_trans (List.length_filter_le _ _) ?_
  rw [List.length_range]
  exact Nat.le_refl _
end Q
set_option Elab.async false
set_option linter.all false
set_option maxRecDepth 100000
set_option maxHeartbeats 4000000
/-! ### what the tape laws' checks rest on -/
namespace Q
open PySem L2 XD
/-- a def of the program, called by place and by (form, facts) turned -/
structure Kx2 (P : Program) (w : World) (K : PySem.W.Frag) (mg : Str → Option Value) (base : Heap) (k : Nat) (x : Str) (sp : Sp) : Prop where
  ex : ∃ f fd, FnOk P w K mg base (L2N.CX P w) k f fd ["form", "facts"] sp ∧ PySem.W.keepIn K (.ref f) = true ∧ Binds K fd ["form", "facts"] [] ∧ mg x = some (.ref f) ∧ KBn K fd ["form", "facts"] 0 ["facts", "form"] XW.rev2 XW.rev2
structure Kx3 (P : Program) (w : World) (K : PySem.W.Frag) (mg : Str → Option Value) (base : Heap) (k : Nat) (x : Str) (sp : Sp) : Prop where
  ex : ∃ f fd, FnOk P w K mg base (L2N.CX P w) k f fd ["form", "facts", "field"] sp ∧ PySem.W.keepIn K (.ref f) = true ∧ Binds K fd ["form", "facts", "field"] [] ∧ mg x = some (.ref f) ∧ KBn K fd ["form", "facts", "field"] 0 ["field", "facts", "form"] XW.rev3 XW.rev3
theorem if_tup {spS spG : Sp} {c : List V → Hp → VK → Prop} {tA : TA} {tl : TE} {u v : TS} {D : Ends} {σ : L2.St} {H : Hp} (h : tA σ H fun xs H1 => spG (xs ++ []) H1 (fun y H2 => tl σ H2 fun z H3 => c [z] H3 fun y2 H4 => spS [y, y2] H4 (fun r H5 => ∃ c, r = .bl c ∧ if (!c) = true then u D σ H5 else v D σ H5) E0) E0) :
    tIfS (tNot (tB (tCall spS [] E0 (tCons (tCall spG [] E0 tA) (tCons (tCB c (tCons tl tNil)) tNil))))) u v D σ H := h
/-- where the law stands: the model, the form -/
structure Std (K : PySem.W.Frag) (C : Addr) (H : Hp) (m x pf pr : Addr) (t : Tbl) (bs : List NB) : Prop where
  md : ModelAt K H m t bs
  ok : ModelOk t bs 1000
  fa : FormAt C H x pf pr
  tf : TabAt K H pf t
  rf : RulesAt K H pr (once ((rsOf t bs).map (bySeq t)))
theorem Std.same {K : PySem.W.Frag} {C : Addr} {H H' : Hp} {m x pf pr : Addr} {t : Tbl} {bs : List NB} (s : Same H H') (h : Std K C H m x pf pr t bs) : Std K C H' m x pf pr t bs := by
  obtain ⟨dx, hx⟩ := h.fa
  exact ⟨h.md.same s, h.ok, ⟨dx, s _ _ hx⟩, h.tf.same s, rulesAtS s h.rf⟩
structure Hnd (K : PySem.W.Frag) (H : Hp) (t : Tbl) (kn : NB) (v : V) (d : PyData) : Prop where
  ok : KnOk t kn
  dp : Dp K H v d
  fr : FRule (kn.map (tpr t)) d
  fz : FaZ K H v d
theorem Hnd.same {K : PySem.W.Frag} {H H' : Hp} {t : Tbl} {kn : NB} {v : V} {d : PyData} (s : Same H H') (h : Hnd K H t kn v d) : Hnd K H' t kn v d := ⟨h.ok, dp_same s h.dp, h.fr, h.fz.same s⟩
theorem ask_of {K : PySem.W.Frag} {C : Addr} {H : Hp} {m x pf pr : Addr} {t : Tbl} {bs : List NB} {kn : NB} {v : V} {d : PyData} (h : Std K C H m x pf pr t bs) (g : Hnd K H t kn v d) : Ask K C H x v pf pr t (once ((rsOf t bs).map (bySeq t))) d ∧ areFacts t d = true ∧ factsOf d = kn.map (tpr t) := by
  obtain ⟨a, f, o⟩ := known_facts h.ok.tb (g.ok.known h.ok.tb) g.fr
  exact ⟨⟨h.fa, h.tf, h.rf, form_ok (good_told h.ok (Nat.le_refl _)), g.dp, o, fun _ => g.fz⟩, a, f⟩
theorem lot_rm {K : PySem.W.Frag} {H : Hp} {D q : Addr} {acc : List V} {r : List Pr} (e : H D = some (.lst acc)) (h : LotAt K H q r) : LotAt K (rmL [D] H) q r := by
  obtain ⟨zs, h1, h2⟩ := h
  exact ⟨zs, seqT_rm e h1, prd_imp (fun _ _ z => seqT_rm e z) h2⟩
theorem ds_strs {ws : List Str} (h : ws.length ≤ 1000) : Ds 5 (.tuple (ws.map PyData.str)) := fun xs e => by
  cases e
  refine ⟨by rw [List.length_map]; exact h, fun x hx => ?_⟩
  obtain ⟨r, hr, rfl⟩ := List.mem_map.mp hx
  exact fun xs e => by cases e
theorem ds_lot {r : List Pr} (h : r.length ≤ 1000) : Ds 5 (ruleD r) := fun xs e => by
  cases e
  refine ⟨by rw [List.length_map]; exact h, fun x hx => ?_⟩
  obtain ⟨e, he, rfl⟩ := List.mem_map.mp hx
  intro xs e
  cases e
  refine ⟨Nat.le_of_ble_eq_true rfl, fun x hx => ?_⟩
  simp only [List.mem_cons, List.not_mem_nil, or_false] at hx
  rcases hx with rfl | rfl <;> exact fun xs e => by cases e
theorem dec_int2 (a b : Nat) : decide (V.int (a : Int) = V.int (b : Int)) = decide (a = b) := by
  rw [Bool.eq_iff_iff, decide_eq_true_eq, decide_eq_true_eq]
  exact ⟨fun h => nat_inj a b h, fun h => by rw [h]⟩
theorem open_next (l : List (Str × List Str)) (e : Str × List Str) : openOf (l ++ [e]) = openOf l ++ if 1 < e.2.length then [e.1] else [] := by
  unfold openOf
  rw [List.filter_append, List.map_append]
  congr 1
  by_cases h : 1 < e.2.length
  · rw [if_pos h, List.filter_cons_of_pos (by exact decide_eq_true h)] <;> rfl
  · rw [if_neg h, List.filter_cons_of_neg (by exact fun z => h (of_decide_eq_true z))] <;> rfl
theorem forced_next (l : List (Str × List Str)) (e : Str × List Str) : forcedOf (l ++ [e]) = forcedOf l ++ if e.2.length = 1 then [(e.1, e.2.getD 0 Str.empty)] else [] := by
  unfold forcedOf
  rw [List.filter_append, List.map_append]
  congr 1
  by_cases h : e.2.length = 1
  · rw [if_pos h, List.filter_cons_of_pos (by exact decide_eq_true h)] <;> rfl
  · rw [if_neg h, List.filter_cons_of_neg (by exact fun z => h (of_decide_eq_true z))] <;> rfl
theorem open_le (l : List (Str × List Str)) : (openOf l).length ≤ l.length := by
  unfold openOf
  rw [List.length_map]
  exact List.length_filter_le _ _
theorem forced_le (l : List (Str × List Str)) : (forcedOf l).length ≤ l.length := by
  unfold forcedOf
  rw [List.length_map]
  exact List.length_filter_le _ _
end Q
set_option Elab.async false
set_option linter.all false
set_option maxRecDepth 100000
set_option maxHeartbeats 4000000
/-! ### where a tape law stands between its turns -/
namespace Q
open PySem L2 XD
def spLaw (K : PySem.W.Frag) : Sp := fun vs H Q _ => ∃ (a : Addr) (ns : List Int), vs = [.ref a] ∧ SqL K H a (ns.map V.int) ∧ ns.length ≤ 63 ∧ ∀ H', Q (.bl true) H'
theorem rule_tp {K : PySem.W.Frag} {H H' : Hp} {a b p : Addr} {r : List Pr} (F : Tape b H a) (s : Kept a H H') (h : RuleAt K H p r) : RuleAt K H' p r := by
  obtain ⟨qs, h1, h2⟩ := h
  exact ⟨qs, sqZ_tp F s h1, prd_imp (fun _ _ z => seqT_tp F s z) h2⟩
theorem Std.tp {K : PySem.W.Frag} {C : Addr} {H H' : Hp} {a b m x pf pr : Addr} {t : Tbl} {bs : List NB} (F : Tape b H a) (s : Kept a H H') (h : Std K C H m x pf pr t bs) : Std K C H' m x pf pr t bs := by
  obtain ⟨dx, hx⟩ := h.fa
  obtain ⟨tp, tk, t1, t2, t3⟩ := h.tf
  obtain ⟨rp, r1, r2⟩ := h.rf
  obtain ⟨kv, e⟩ := F.dk
  have xa : x ≠ a := fun z => by
    rw [z, e] at hx
    cases hx
  exact ⟨h.md.tp F s, h.ok, ⟨dx, s _ _ xa hx⟩, ⟨tp, tk, sqZ_tp F s t1, t2.tp F s, t3⟩, ⟨rp, sqZ_tp F s r1, prd_imp (fun _ _ z => rule_tp F s z) r2⟩⟩
/-- where the law stands between its turns -/
structure LawT (K : PySem.W.Frag) (C : Addr) (H : Hp) (a b m x pf pr R : Addr) (t : Tbl) (bs : List NB) (us : List Addr) : Prop where
  tp : Tape b H a
  sd : Std K C H m x pf pr t bs
  ls : H R = some (.lst (us.map V.ref))
  rw_ : Paired (RowN K H) us ((nrows t).filter (okN bs))
theorem LawT.same {K : PySem.W.Frag} {C : Addr} {H H' : Hp} {a b m x pf pr R : Addr} {t : Tbl} {bs : List NB} {us : List Addr} (s : Same H H') (h : LawT K C H a b m x pf pr R t bs us) : LawT K C H' a b m x pf pr R t bs us :=
  ⟨h.tp.same s, h.sd.same s, s _ _ h.ls, rowsN_same s h.rw_⟩
theorem LawT.kept {K : PySem.W.Frag} {C : Addr} {H H' : Hp} {a b m x pf pr R : Addr} {t : Tbl} {bs : List NB} {us : List Addr} (k : Kept a H H') (F : Tape b H' a) (h : LawT K C H a b m x pf pr R t bs us) : LawT K C H' a b m x pf pr R t bs us :=
  ⟨F, h.sd.tp h.tp k, lst_tp h.tp k h.ls, rowsN_tp h.tp k h.rw_⟩
end Q
set_option Elab.async false
set_option linter.all false
set_option maxRecDepth 100000
set_option maxHeartbeats 4000000
/-! ### _law_is_row, _law_are_facts, _law_is_field of k06 -/
namespace Q
open PySem L2 XD
theorem pe_isiK {X : Cx} {e1 : Expr} {t1 : TE} {T : Str} {tn : String} {p p2 pos : Pos} (K : PySem.W.Frag) (hK : X.K = K) (hi : X.mg "isinstance" = none) (hm : X.mg T = none) (hv : PySem.bootBuiltins T = some (.type tn)) (h1 : PE X e1 t1)
    (g1 : Gl X "isinstance" := by rfl) (g2 : Gl X T := by rfl) (hn : T ≠ "__name__" := by decide) (hd : (T == ("__debug__" : Str)) = false := by decide)
    (he : starEach (e1 :: [.Name T p2]) X.env = (false, eval e1 X.env) :: starEach [.Name T p2] X.env := by rfl) (hpl : (backTo pos (starEach [.Name T p2] X.env)).any (·.1) = false := by rfl)
    (he2 : starEach (Expr.Name T p2 :: []) X.env = (false, eval (.Name T p2) X.env) :: starEach [] X.env := by rfl) :
    PE X (.Call (.Name "isinstance" p) [e1, .Name T p2] [] pos) (tCB (rIsi K) (tCons t1 (tCons (tC (.ty tn)) tNil))) := by
  subst hK
  exact pe_isi hi hm hv h1 g1 g2 hn hd he hpl he2
theorem range_one {j : Nat} : ∀ {n : Nat}, j < n → (List.range n).filter (fun i => decide (i = j)) = [j]
  | 0, h => absurd h (Nat.not_lt_zero _)
  | n + 1, h => by
    rw [List.range_succ, List.filter_append]
    by_cases e : j = n
    · subst e
      have : (List.range j).filter (fun i => decide (i = j)) = [] := List.filter_eq_nil_iff.mpr fun i hi => by
        have := List.mem_range.mp hi
        simp
        omega
      rw [this, List.nil_append, List.filter_cons_of_pos (by simp), List.filter_nil]
    · rw [range_one (by omega), List.filter_cons_of_neg (by simp; omega), List.filter_nil, List.append_nil]
theorem names_none {t : Tbl} {n : Str} (h : look n t = none) : (List.range t.length).filter (fun i => decide ((eAt t i).1 = n)) = [] := by
  have key : ∀ {t : Tbl}, look n t = none → ∀ e ∈ t, e.1 ≠ n := by
    intro t
    induction t with
    | nil => exact fun _ e he => absurd he List.not_mem_nil
    | cons a t ih =>
      obtain ⟨m, ws⟩ := a
      intro h e he
      have h : (if m = n then some ws else look n t) = none := h
      by_cases z : m = n
      · rw [if_pos z] at h
        cases h
      · rw [if_neg z] at h
        rcases List.mem_cons.mp he with rfl | he
        · exact z
        · exact ih h e he
  refine List.filter_eq_nil_iff.mpr fun i hi => ?_
  have hi := List.mem_range.mp hi
  have e0 : t[i]? = some t[i] := List.getElem?_eq_getElem hi
  rw [eAt_of e0]
  have := key h _ (List.getElem_mem hi)
  simpa using this
theorem names_one {t : Tbl} (nd : (t.map (·.1)).Nodup) {n : Str} {ws : List Str} (h : look n t = some ws) : ∃ j, t[j]? = some (n, ws) ∧ (List.range t.length).filter (fun i => decide ((eAt t i).1 = n)) = [j] := by
  obtain ⟨j, hj, e⟩ := List.mem_iff_getElem.mp (look_mem h)
  have ej : t[j]? = some (n, ws) := by rw [List.getElem?_eq_getElem hj, e]
  refine ⟨j, ej, ?_⟩
  rw [← range_one hj]
  refine List.filter_congr fun i hi => ?_
  have hi := List.mem_range.mp hi
  have e0 : t[i]? = some t[i] := List.getElem?_eq_getElem hi
  rw [eAt_of e0]
  refine decide_eq_decide.mpr ⟨fun z => nameAt_inj nd e0 ej z, fun z => ?_⟩
  subst z
  rw [ej] at e0
  rw [← Option.some.inj e0]
def isTup : PyData → Bool
  | .tuple _ => true
  | _ => false
def isLst : PyData → Bool
  | .list _ => true
  | _ => false
theorem kit_tup {K : PySem.W.Frag} {d : PyData} (h : ∀ kvs, d ≠ .dict kvs) : PySem.W.kitOne K (.type (tyName d)) (.type "tuple") = some (isTup d) := by
  cases d with
  | dict kvs => exact absurd rfl (h kvs)
  | none => exact kit_ty (a := "NoneType") (b := "tuple") (by show kitB "NoneType" "tuple" = some false; decide +kernel)
  | bool b => exact kit_ty (a := "bool") (b := "tuple") (by show kitB "bool" "tuple" = some false; decide +kernel)
  | int i => exact kit_ty (a := "int") (b := "tuple") (by show kitB "int" "tuple" = some false; decide +kernel)
  | str s => exact kit_ty (a := "str") (b := "tuple") (by show kitB "str" "tuple" = some false; decide +kernel)
  | list xs => exact kit_ty (a := "list") (b := "tuple") (by show kitB "list" "tuple" = some false; decide +kernel)
  | tuple xs => exact kit_ty (a := "tuple") (b := "tuple") (by show kitB "tuple" "tuple" = some true; decide +kernel)
theorem kit_lst {K : PySem.W.Frag} {d : PyData} (h : ∀ kvs, d ≠ .dict kvs) : PySem.W.kitOne K (.type (tyName d)) (.type "list") = some (isLst d) := by
  cases d with
  | dict kvs => exact absurd rfl (h kvs)
  | none => exact kit_ty (a := "NoneType") (b := "list") (by show kitB "NoneType" "list" = some false; decide +kernel)
  | bool b => exact kit_ty (a := "bool") (b := "list") (by show kitB "bool" "list" = some false; decide +kernel)
  | int i => exact kit_ty (a := "int") (b := "list") (by show kitB "int" "list" = some false; decide +kernel)
  | str s => exact kit_ty (a := "str") (b := "list") (by show kitB "str" "list" = some false; decide +kernel)
  | list xs => exact kit_ty (a := "list") (b := "list") (by show kitB "list" "list" = some true; decide +kernel)
  | tuple xs => exact kit_ty (a := "tuple") (b := "list") (by show kitB "tuple" "list" = some false; decide +kernel)
theorem isRow_or (d : PyData) : isRow d = (isTup d || isLst d) := by cases d <;> rfl
theorem stands_eq (ws : List Str) (d : PyData) : stands ws d = match d with
    | .str w => decide (w ∈ ws)
    | _ => false := by
  unfold stands
  cases d with
  | str n =>
    rw [Bool.eq_iff_iff, List.any_eq_true]
    show _ ↔ decide (n ∈ ws) = true
    rw [decide_eq_true_iff]
    constructor
    · rintro ⟨x, hx, e⟩
      obtain ⟨m, hm, rfl⟩ := List.mem_map.mp hx
      rw [PyData.eqv] at e
      rw [← of_decide_eq_true e]
      exact hm
    · intro h
      exact ⟨.str n, List.mem_map.mpr ⟨n, h, rfl⟩, by rw [PyData.eqv]; simp⟩
  | _ =>
    show _ = false
    rw [List.any_eq_false]
    intro x hx
    obtain ⟨m, hm, rfl⟩ := List.mem_map.mp hx
    simp [PyData.eqv]
theorem len_ne1 (n : Nat) : (!decide (V.int (n : Int) = V.int 1)) = !decide (n = 1) := by
  congr 1
  rw [Bool.eq_iff_iff, decide_eq_true_eq, decide_eq_true_eq]
  exact ⟨fun h => by have := V.int.inj h; omega, fun h => by rw [h] <;> rfl⟩
theorem len_ne2 (n : Nat) : (!decide (V.int (n : Int) = V.int 2)) = !decide (n = 2) := by
  congr 1
  rw [Bool.eq_iff_iff, decide_eq_true_eq, decide_eq_true_eq]
  exact ⟨fun h => by have := V.int.inj h; omega, fun h => by rw [h] <;> rfl⟩
def spLIsRow (K : PySem.W.Frag) : Sp := fun vs H Q _ => ∃ (v : V) (d : PyData), vs = [v] ∧ Dp K H v d ∧ ∀ H', Same H H' → Q (.bl (isRow d)) H'
def spLAre (K : PySem.W.Frag) : Sp := fun vs H Q _ => ∃ (m : Addr) (v : V) (t : Tbl) (bs : List NB) (d : PyData), vs = [.ref m, v] ∧ ModelAt K H m t bs ∧ TabOk t ∧ Dp K H v d ∧ ∀ H', Same H H' → Q (.bl (areFacts t d)) H'
def isName (t : Tbl) (d : PyData) : Bool := match d with
  | .str n => decide (n ∈ t.map (·.1))
  | _ => false
def spIsField (K : PySem.W.Frag) : Sp := fun vs H Q _ => ∃ (m : Addr) (v : V) (t : Tbl) (bs : List NB) (d : PyData), vs = [.ref m, v] ∧ ModelAt K H m t bs ∧ TabOk t ∧ Dp K H v d ∧ ∀ H', Same H H' → Q (.bl (isName t d)) H'
abbrev nAre : List Str := ["model", "thing", "seen", "pair", "name", "words", "found"]
section
variable {P : Program} {w : World} {K : PySem.W.Frag} {mg : Str → Option Value} {base : Heap}
theorem scLIsRow : FnScope ["thing"] ["thing"] (defScope sLIsRow) := ⟨rfl, rfl, rfl, by decide +kernel, rfl, by decide +kernel, by decide +kernel⟩
theorem ok_lisrow {f : Addr} {fd : FuncData} (F : Fun K "_law_is_row" "_law_is_row" sLIsRow f fd) (T : Bs mg) : FnOk P w K mg base CX0 1 f fd ["thing"] (spLIsRow K) := by
  refine F.ok scLIsRow (fun vs H Q E h => ?_) (fun cdv A outer s H vs Q E hr h => ?_)
  · obtain ⟨v, d, rfl, _⟩ := h
    rfl
  obtain ⟨v, d, rfl, hd, k⟩ := h
  have vl : PySem.bootBuiltins "list" = some (.type "list") := by decide +kernel
  have vt : PySem.bootBuiltins "tuple" = some (.type "tuple") := by decide +kernel
  refine ⟨_, pss_one (ps_ret (pe_or (pe_isi T.isi T.tup vt (pv 0)) (pe_one (pe_isi T.isi T.list vl (pv 0))))), ?_⟩
  refine ⟨_, rfl, _, _, _, _, _, rfl, .ty _, tyD hd, kit_tup (dp_no_dict hd), _, rfl, ?_⟩
  have q := k H (Same.refl H)
  rw [isRow_or] at q
  cases e : isTup d with
  | true =>
    rw [e] at q
    exact iteT q
  | false =>
    rw [e, Bool.false_or] at q
    exact iteF ⟨_, rfl, _, _, _, _, _, rfl, .ty _, tyD hd, kit_lst (dp_no_dict hd), q⟩
theorem scLAre : FnScope nAre ["model", "thing"] (defScope sLAreFacts) := ⟨rfl, rfl, rfl, by decide +kernel, rfl, by decide +kernel, by decide +kernel⟩
theorem ok_lare {f : Addr} {fd : FuncData} (F : Fun K "_law_are_facts" "_law_are_facts" sLAreFacts f fd) (T : Bs mg) (KR : Kn P w K mg base 1 "_law_is_row" ["thing"] (spLIsRow K)) : FnOk P w K mg base CX0 2 f fd ["model", "thing"] (spLAre K) := by
  obtain ⟨fR, fdR, GR, kR, bR, mR⟩ := KR.ex
  refine F.ok scLAre (fun vs H Q E h => ?_) (fun cdv A outer s H vs Q E hr h => ?_)
  · obtain ⟨m, v, t, bs, d, rfl, _⟩ := h
    rfl
  obtain ⟨m, v, t, bs, d, rfl, hm, TO, hd, k⟩ := h
  have vs_ : PySem.bootBuiltins "str" = some (.type "str") := by decide +kernel
  refine ⟨_, pss_cons (ps_if (pt_not (pt_val (pe_call GR hr rfl mR kR bR .nil pass0 (pa_cons (pv 1) pa_nil)))) (pss_one (ps_ret pe_bl)) pss_nil)
    (pss_cons (ps_set (i := 2) scLAre.nd rfl (.inl rfl) (pe_lst pa_nil))
    (pss_cons (ps_for PassesOwn.never rfl (pi_row (pv 1)) (pg_name (i := 3) scLAre.nd rfl (.inr rfl))
      (pss_cons (ps_if (PW.pt (pw_or (pt_not (pt_val (pe_call GR hr rfl mR kR bR .nil pass0 (pa_cons (pv 3) pa_nil)))) (pw_or1 (pt_cmpR op_ne (pe_callB call_len_seq rfl T.len PySem.boot_len (pa_cons (pv 3) pa_nil)) pe_int (nomark _))))) (pss_one (ps_ret pe_bl)) pss_nil)
      (pss_cons (ps_setLc (i := 6) (own := [("name", 4), ("words", 5)]) (g := gRow K 2 (gCons (gName 4) (gCons (gName 5) gNil))) (by rfl) scLAre.nd rfl rfl (sw_true rfl rfl rfl (by decide +kernel)) (pi_row (pe_ix (ix_both K rfl) (pv 0) pe_int (fun _ _ => rfl))) (blkOk_by (N := nAre) (sc := defScope sLAreFacts) (by decide +kernel))
        (fun _ _ _ _ _ => pg_row rfl (pgs_cons (pg_name (i := 4) scLAre.nd rfl (.inl rfl)) (pgs_cons (pg_name (i := 5) scLAre.nd rfl (.inl rfl)) pgs_nil)))
        (fun _ _ _ _ _ => pts_one (PW.pt (pw_and (pt_val (pe_isiK K rfl T.isi T.str vs_ (pe_ix (ix_both K rfl) (pv 3) pe_int (fun _ _ => rfl)))) (pw_and1 (pt_cmpR op_eq (pv 4) (pe_ix (ix_both K rfl) (pv 3) pe_int (fun _ _ => rfl)) (nomark _))))))
        (fun _ _ _ _ _ => pv 5))
      (pss_cons (ps_if (PW.pt (pw_or (pt_cmpR op_ne (pe_callB call_len_seq rfl T.len PySem.boot_len (pa_cons (pv 6) pa_nil)) pe_int (nomark _)) (pw_or (pt_cmpR op_in_seq (pe_ix (ix_both K rfl) (pv 3) pe_int (fun _ _ => rfl)) (pv 2) (by with_unfolding_all rfl)) (pw_or (pt_not (pt_val (pe_isi T.isi T.str vs_ (pe_ix (ix_both K rfl) (pv 3) pe_int (fun _ _ => rfl)))))
          (pw_or1 (pt_cmpR op_notIn_seq (pe_ix (ix_both K rfl) (pv 3) pe_int (fun _ _ => rfl)) (pe_ix (ix_both K rfl) (pv 6) pe_int (fun _ _ => rfl)) (by with_unfolding_all rfl))))))) (pss_one (ps_ret pe_bl)) pss_nil)
      (pss_one (ps_expr (pe_bm PySem.F.plainAttrs_list PySem.F.slot_list_append PySem.F.type_list_append mt_append (pv 2) (pa_cons (pe_ix (ix_both K rfl) (pv 3) pe_int (fun _ _ => rfl)) pa_nil))))))))
    (pss_one (ps_ret pe_bl)))), ?_⟩
  refine ⟨_, rfl, v, d, rfl, hd, fun H1 s1 => ⟨_, rfl, ?_⟩⟩
  have isR : isRow d = (rowOf d).isSome := rfl
  rw [isR]
  cases er : rowOf d with
  | none =>
    refine iteT ?_
    have q := k H1 s1
    have e : areFacts t d = false := by
      unfold areFacts
      rw [er]
    rw [e] at q
    exact q
  | some fs =>
  refine iteF (nxt ?_)
  obtain ⟨p, ys, rfl, hys, ha⟩ := row_len (dp_same s1 hd) er
  have eA : areFacts t d = (decide (fs.length ≤ t.length) && goFacts t [] fs) := by
    unfold areFacts
    rw [er]
  have kf : goFacts t [] fs = false → ∀ H', Same H1 H' → Q (.bl false) H' := fun e H' s => by
    have q := k H' (s1.trans s)
    rw [eA, e, Bool.and_false] at q
    exact q
  have hm1 := hm.same s1
  obtain ⟨B, N, ps, kvs, qs, m1, m2, m3, m4, m5⟩ := hm1
  have hpl : ps.length = t.length := m3.len.1
  have TH := TO.hi
  have nd := TO.nm.1
  try dsimp only
  refine ⟨by show 0 ≤ sizeLine; decide, fun S hS => ?_⟩
  refine for_row (ys := ys) (H0 := H1) (fun i σ H' => ∃ (f3 f6 : Option V) (ss : List Str), σ = [some (.ref m), some (.ref p), some (.ref S), f3, none, none, f6] ∧ H' S = some (.lst (ss.map V.str)) ∧ ss.length = i ∧ ss.Nodup ∧ (∀ n ∈ ss, n ∈ t.map (·.1)) ∧ goFacts t [] fs = goFacts t ss.reverse (fs.drop i) ∧ Same H1 H') (fun Q' z => ⟨_, rfl, z⟩) hys
    ⟨none, none, [], rfl, upd_same, rfl, List.nodup_nil, fun n h => absurd h List.not_mem_nil, rfl, new_same hS _⟩ (fun i σ H' h => by obtain ⟨_, _, _, _, _, _, _, _, _, s⟩ := h; exact s) ?_ ?_
  · rintro i x σ H2 hi ⟨f3, f6, ss, rfl, hS2, hsl, hsn, hst, hg, s2⟩ hx
    obtain ⟨f, hf, hdx⟩ := dps_get ha hx
    have hil := (List.getElem?_eq_some_iff.mp hf).1
    have ed : fs.drop i = f :: fs.drop (i + 1) := by
      rw [List.drop_eq_getElem_cons hil]
      rw [List.getElem?_eq_getElem hil] at hf
      rw [Option.some.inj hf]
    rw [ed] at hg
    have bad : ∀ {c : Bool}, goFacts t ss.reverse (f :: fs.drop (i + 1)) = false → ∀ H', Same H2 H' → Q (.bl false) H' := fun e H' s => kf (hg.trans e) H' (s2.trans s)
    refine ⟨_, rfl, x, f, rfl, dp_same s2 hdx, fun H3 s3 => ⟨_, rfl, ?_⟩⟩
    have isF : isRow f = (rowOf f).isSome := rfl
    rw [isF]
    cases ef : rowOf f with
    | none => exact iteT (iteT (bad (c := true) (go_none (by unfold pairOf; rw [ef])) H3 s3))
    | some gs =>
    refine iteF ?_
    obtain ⟨pq, py, rfl, hpy, hpa⟩ := row_len (dp_same (s2.trans s3) hdx) ef
    have hpl2 := dps_len hpa
    refine ⟨_, rfl, pq, py, rfl, hpy, rfl, _, rfl, ?_⟩
    rw [len_ne2, hpl2]
    by_cases h2 : gs.length = 2
    · rw [decide_eq_true h2]
      refine iteF (nxt ?_)
      obtain ⟨da, db, rfl⟩ : ∃ a b, gs = [a, b] := match gs, h2 with
        | [a, b], _ => ⟨a, b, rfl⟩
      obtain ⟨va, vb, rfl⟩ : ∃ a b, py = [a, b] := match py, hpl2 with
        | [a, b], _ => ⟨a, b, rfl⟩
      have hva : Dp K H3 va da := by
        cases hpa with
        | cons a b => exact a
      have hvb : Dp K H3 vb db := by
        cases hpa with
        | cons a b =>
          cases b with
          | cons c d => exact c
      have ep : pairOf f = some (da, db) := by
        unfold pairOf
        rw [ef]
      clear hpa hpl2 h2 ef
      have s13 := s2.trans s3
      have hS3 := s3 _ _ hS2
      dsimp only
      refine asg_lcX ?_
      refine lc_gA (ys := ps.map V.ref) (fun j v R => ∃ z, v = .ref z ∧ SqT K R z ((eAt t j).2.map V.str)) (fun j => match da with | .str n => decide ((eAt t j).1 = n) | _ => false) (fun j v R R' s ⟨z, e, h⟩ => ⟨z, e, seqT_same s h⟩) (fun Q' z => ⟨_, rfl, ix_row (.inr (seqT_same s13 m1)) (by rfl) z⟩) (.inr (seqT_same s13 m2)) (by rw [List.length_map]; omega) (fun D2 j y H4 yes no AD s4 s5 hy hyes hno => ?_) (fun D2 H4 zs2 hD2 s4 hz2 hP2 => ?_)
      · obtain ⟨q3, v3, n, ws, rfl, e1, e2, e3⟩ := m3.at hy
        rw [eAt_of e1] at hyes hno
        obtain ⟨acc, hacc⟩ := AD
        have s14 := s13.trans s4
        have hva4 := dp_same s4 hva
        have hpy4 := sq_same s4 hpy
        refine .inl ⟨q3, _, rfl, seqT_same s14 e2, rfl, .str n, _, rfl, .ref v3, [], rfl, rfl, rfl, ?_⟩
        refine ⟨_, rfl, ix_row hpy4 (by rfl) ⟨_, _, _, _, _, rfl, .ty _, tyD hva4, kit_str (dp_no_dict hva4), _, rfl, ?_⟩⟩
        cases da with
        | str n2 =>
          cases hva4
          refine iteT ⟨_, rfl, _, rfl, ix_row hpy4 (by rfl) ⟨rfl, _, rfl, ?_⟩⟩
          by_cases en : n = n2
          · rw [show decide (V.str n = V.str n2) = true from decide_eq_true (by rw [en])]
            exact iteT ⟨_, rfl, hyes (decide_eq_true en) _ _ (Same.refl _) ⟨v3, rfl, seqT_rm hacc (seqT_same s14 e3)⟩⟩
          · rw [show decide (V.str n = V.str n2) = false from decide_eq_false (fun z => en (V.str.inj z))]
            exact iteF (hno (decide_eq_false en) _ (Same.refl _))
        | _ => exact iteF (hno rfl _ (Same.refl _))
      · rw [List.length_map, hpl] at hP2
        have hzl := prd_len hP2
        have s34 := s3.trans s4
        have hS4 := s4 _ _ hS3
        refine ⟨_, rfl, D2, _, rfl, .inl (SqL.of hz2), rfl, _, rfl, ?_⟩
        rw [len_ne1, hzl]
        cases da with
        | str n =>
          cases hl : look n t with
          | none =>
            rw [names_none hl]
            exact iteT (iteT (bad (c := true) (go_new ep hl) H4 s34))
          | some ws =>
            obtain ⟨j, ej, e1⟩ := names_one nd hl
            rw [e1] at hP2 ⊢
            refine iteF ?_
            obtain ⟨z, rfl, hz⟩ : ∃ z, zs2 = [V.ref z] ∧ SqT K H4 z (ws.map V.str) := by
              cases hP2 with
              | cons a b =>
                cases b
                obtain ⟨z, rfl, h⟩ := a
                rw [eAt_of ej] at h
                exact ⟨z, rfl, seqT_same rm_le h⟩
            have hpy4 := sq_same s4 hpy
            have hva4 := dp_same s4 hva
            have hvb4 := dp_same s4 hvb
            cases hva4
            refine ⟨_, rfl, ix_row hpy4 (by rfl) ⟨_, rfl, S, _, rfl, .inl (SqL.of hS4), rfl, flat_words _, _, rfl, ?_⟩⟩
            rw [if_neg Bool.false_ne_true, in_words]
            have nin : n ∈ t.map (·.1) := List.mem_map.mpr ⟨_, List.mem_of_getElem? ej, rfl⟩
            by_cases hin : n ∈ ss
            · rw [decide_eq_true hin]
              exact iteT (iteT (bad (c := true) (go_seen ep (by simpa using hin)) H4 s34))
            · rw [decide_eq_false hin]
              have gold := go_old (seen := ss.reverse) (fs := fs.drop (i + 1)) ep hl
              have hc : ss.reverse.contains n = false := by simpa using hin
              rw [hc] at gold
              refine iteF ⟨_, rfl, ix_row hpy4 (by rfl) ⟨_, _, _, _, _, rfl, .ty _, tyD hvb4, kit_str (dp_no_dict hvb4), _, rfl, ?_⟩⟩
              rw [stands_eq] at gold
              cases db with
              | str w0 =>
                cases hvb4
                dsimp only at gold
                refine iteF ⟨_, rfl, ix_row hpy4 (by rfl) ⟨_, rfl, ix_row (.inl (SqL.of hz2)) (by rfl) ⟨z, _, rfl, .inr hz, rfl, flat_words _, _, rfl, ?_⟩⟩⟩
                rw [if_pos rfl, in_words]
                by_cases hw : w0 ∈ ws
                · rw [decide_eq_true hw] at gold ⊢
                  refine iteF (nxt ?_)
                  have sl : ss.length < 1000 := by
                    have := List.Nodup.length_le_of_subset hsn (fun x hx => hst x hx)
                    rw [List.length_map] at this
                    omega
                  refine ⟨_, rfl, .inl ⟨rfl, _, SqL.of hS4⟩, _, rfl, ix_row hpy4 (by rfl) ⟨S, _, _, rfl, rfl, hS4, small1000 (by rw [List.length_map]; omega), _, _, ss ++ [n], rfl, by rw [upd_same, List.map_append] <;> rfl, by rw [List.length_append, hsl] <;> rfl, ?_, ?_, ?_, fun b u e => ?_⟩⟩
                  · rw [List.nodup_append]
                    refine ⟨hsn, List.nodup_cons.mpr ⟨List.not_mem_nil, List.nodup_nil⟩, fun a ha b hb => ?_⟩
                    rw [List.mem_singleton.mp hb]
                    exact fun z => hin (z ▸ ha)
                  · intro x hx
                    rcases List.mem_append.mp hx with hx | hx
                    · exact hst x hx
                    · rw [List.mem_singleton.mp hx]
                      exact nin
                  · rw [hg, gold, List.reverse_append] <;> rfl
                  · rw [upd_ne (ne_of_none e hS)]
                    exact s4 _ _ (s3 _ _ (s2 _ _ e))
                · rw [decide_eq_false hw] at gold ⊢
                  exact iteT (bad (c := true) gold H4 s34)
              | _ => exact iteT (iteT (bad (c := true) gold H4 s34))
        | _ =>
          have : ((List.range t.length).filter fun _ => false) = [] := List.filter_eq_nil_iff.mpr fun _ _ => Bool.false_ne_true
          rw [this]
          exact iteT (iteT (bad (c := true) (go_nostr ep rfl) H4 s34))
    · rw [decide_eq_false h2]
      refine iteT (bad (c := true) (go_none ?_) H3 s3)
      unfold pairOf
      rw [ef]
      match gs, h2 with
      | [], _ => rfl
      | [_], _ => rfl
      | [_, _], h => exact absurd rfl h
      | _ :: _ :: _ :: _, _ => rfl
  · rintro σ H2 ⟨f3, f6, ss, rfl, hS2, hsl, hsn, hst, hg, s2⟩
    have hyl := dps_len ha
    have q := k H2 (s1.trans s2)
    have sl := List.Nodup.length_le_of_subset hsn (fun x hx => hst x hx)
    rw [List.length_map] at sl
    rw [hyl, List.drop_length] at hg
    rw [eA, decide_eq_true (by omega), hg] at q
    exact q
theorem scIsField : FnScope ["model", "thing", "name", "words"] ["model", "thing"] (defScope sIsField) := ⟨rfl, rfl, rfl, by decide +kernel, rfl, by decide +kernel, by decide +kernel⟩
theorem ok_isfield {f : Addr} {fd : FuncData} (F : Fun K "_law_is_field" "_law_is_field" sIsField f fd) (T : Bs mg) : FnOk P w K mg base CX0 1 f fd ["model", "thing"] (spIsField K) := by
  refine F.ok scIsField (fun vs H Q E h => ?_) (fun cdv A outer s H vs Q E hr h => ?_)
  · obtain ⟨m, v, t, bs, d, rfl, _⟩ := h
    rfl
  obtain ⟨m, v, t, bs, d, rfl, hm, TO, hd, k⟩ := h
  have vs_ : PySem.bootBuiltins "str" = some (.type "str") := by decide +kernel
  refine ⟨_, pss_one (ps_ret (pe_and (pe_isi T.isi T.str vs_ (pv 1)) (pe_one (pe_cmpR op_in_seq (pv 1) (pe_lc (own := [("name", 2), ("words", 3)]) (g := gRow K 2 (gCons (gName 2) (gCons (gName 3) gNil))) (tt := tYes) (by rfl) scIsField.nd (pi_row (pe_ix (ix_both K rfl) (pv 0) pe_int (fun _ _ => rfl))) (blkOk_by (N := ["model", "thing", "name", "words"]) (sc := defScope sIsField) (by decide +kernel))
      (fun _ _ _ _ _ => pg_row rfl (pgs_cons (pg_name (i := 2) scIsField.nd rfl (.inl rfl)) (pgs_cons (pg_name (i := 3) scIsField.nd rfl (.inl rfl)) pgs_nil))) (fun _ _ _ _ _ => pts_nil) (fun _ _ _ _ _ => pv 2)) (by with_unfolding_all rfl))))), ?_⟩
  obtain ⟨B, N, ps, kvs, qs, m1, m2, m3, m4, m5⟩ := hm
  have hpl : ps.length = t.length := m3.len.1
  have TH := TO.hi
  refine ⟨_, rfl, _, _, _, _, _, rfl, .ty _, tyD hd, kit_str (dp_no_dict hd), _, rfl, ?_⟩
  cases d with
  | str n =>
    cases hd
    refine iteT ⟨_, rfl, ?_⟩
    refine lc_gA (ys := ps.map V.ref) (fun j v R => v = .str (eAt t j).1) (fun _ => true) (fun j v R R' s h => h) (fun Q' z => ⟨_, rfl, ix_row (.inr m1) (by rfl) z⟩) (.inr m2) (by rw [List.length_map]; omega) (fun D2 j y H4 yes no AD s4 s5 hy hyes hno => ?_) (fun D2 H4 zs2 hD2 s4 hz2 hP2 => ?_)
    · obtain ⟨q3, v3, n3, ws, rfl, e1, e2, e3⟩ := m3.at hy
      refine .inl ⟨q3, _, rfl, seqT_same s4 e2, rfl, .str n3, _, rfl, .ref v3, [], rfl, rfl, rfl, ?_⟩
      dsimp only [tYes]
      exact iteT ⟨_, rfl, hyes rfl _ _ (Same.refl _) (by rw [eAt_of e1])⟩
    · have ez : zs2 = (t.map (·.1)).map V.str := by
        have : ∀ {zs : List V} {is : List Nat}, Paired (fun z j => z = V.str (eAt t j).1) zs is → zs = (is.map fun j => (eAt t j).1).map V.str := by
          intro zs is h
          induction h with
          | nil => rfl
          | cons a b ih => rw [a, ih] <;> rfl
        rw [this hP2, List.filter_eq_self.mpr (fun _ _ => rfl), List.length_map, hpl]
        congr 1
        have := map_range t e0
        conv => rhs; rw [← this]
        rw [List.map_map] <;> rfl
      subst ez
      refine ⟨D2, _, rfl, .inl (SqL.of hz2), rfl, flat_words _, ?_⟩
      rw [if_neg Bool.false_ne_true, in_words]
      exact k _ s4
  | _ => exact iteF (k H (Same.refl H))
end
end Q
set_option Elab.async false
set_option linter.all false
set_option maxRecDepth 100000
set_option maxHeartbeats 4000000
/-! ### lots of rows as numbers: the mathematics -/
namespace Q
open PySem L2 XD
def maskL : List Bool → Nat
  | [] => 0
  | b :: l => (if b = true then 1 else 0) + 2 * maskL l
theorem mask_bit : ∀ (l : List Bool) (i : Nat), (maskL l).testBit i = l.getD i false
  | [], i => by
    show (0 : Nat).testBit i = _
    rw [Nat.zero_testBit] <;> rfl
  | b :: l, 0 => by
    show ((if b = true then 1 else 0) + 2 * maskL l).testBit 0 = b
    rw [Nat.testBit_zero]
    cases b
    · rw [if_neg Bool.false_ne_true]
      exact decide_eq_false (by omega)
    · rw [if_pos rfl]
      exact decide_eq_true (by omega)
  | b :: l, i + 1 => by
    show ((if b = true then 1 else 0) + 2 * maskL l).testBit (i + 1) = l.getD i false
    rw [Nat.testBit_add_one, ← mask_bit l i]
    congr 1
    split <;> omega
theorem mask_map {α : Type} (p : α → Bool) (rows : List α) (i : Nat) : (maskL (rows.map p)).testBit i = (rows[i]?.map p).getD false := by
  rw [mask_bit, List.getD_eq_getElem?_getD, List.getElem?_map]
theorem mask_and {α : Type} (p q : α → Bool) (rows : List α) : maskL (rows.map p) &&& maskL (rows.map q) = maskL (rows.map fun r => p r && q r) := by
  refine Nat.eq_of_testBit_eq fun i => ?_
  rw [Nat.testBit_and, mask_map, mask_map, mask_map]
  cases rows[i]? <;> rfl
theorem mask_full {α : Type} : ∀ rows : List α, maskL (rows.map fun _ => true) = 2 ^ rows.length - 1
  | [] => rfl
  | r :: rows => by
    show (if true = true then 1 else 0) + 2 * maskL (rows.map fun _ => true) = _
    rw [mask_full rows, if_pos rfl, List.length_cons, Nat.pow_succ]
    have : 0 < 2 ^ rows.length := Nat.pow_pos (by decide)
    omega
theorem mask_snoc (l : List Bool) (b : Bool) : maskL (l ++ [b]) = maskL l ||| (if b = true then 2 ^ l.length else 0) := by
  refine Nat.eq_of_testBit_eq fun i => ?_
  rw [Nat.testBit_or, mask_bit, mask_bit, List.getD_eq_getElem?_getD, List.getD_eq_getElem?_getD]
  have hz : (if b = true then 2 ^ l.length else 0 : Nat).testBit i = (b && decide (l.length = i)) := by
    cases b
    · rw [if_neg Bool.false_ne_true, Nat.zero_testBit] <;> rfl
    · rw [if_pos rfl, Nat.testBit_two_pow] <;> rfl
  rw [hz]
  by_cases h : i < l.length
  · rw [List.getElem?_append_left h, decide_eq_false (by omega), Bool.and_false, Bool.or_false]
  · rw [List.getElem?_append_right (by omega), List.getElem?_eq_none (l := l) (by omega)]
    by_cases e : l.length = i
    · subst e
      rw [Nat.sub_self, decide_eq_true rfl, Bool.and_true] <;> rfl
    · rw [List.getElem?_eq_none (by rw [List.length_singleton]; omega), decide_eq_false e, Bool.and_false] <;> rfl
theorem mask_zero : ∀ l : List Bool, maskL l = 0 ↔ l.any id = false
  | [] => ⟨fun _ => rfl, fun _ => rfl⟩
  | b :: l => by
    have ih := mask_zero l
    show (if b = true then 1 else 0) + 2 * maskL l = 0 ↔ (b || l.any id) = false
    cases b
    · rw [if_neg Bool.false_ne_true, Bool.false_or]
      exact ⟨fun h => ih.mp (by omega), fun h => by have := ih.mpr h; omega⟩
    · rw [if_pos rfl, Bool.true_or]
      exact ⟨fun h => by omega, fun h => by cases h⟩
/-- the lot of the rows that facts fit -/
def lotOf (rows : List (List Pr)) (f : List Pr) : Nat := maskL (rows.map (within f))
/-- the lot of a pair -/
def lotP (rows : List (List Pr)) (e : Pr) : Nat := maskL (rows.map fun row => decide (e ∈ row))
theorem lot_nil (rows : List (List Pr)) : lotOf rows [] = 2 ^ rows.length - 1 := mask_full rows
theorem lot_snoc (rows : List (List Pr)) (f : List Pr) (e : Pr) : lotOf rows (f ++ [e]) = lotOf rows f &&& lotP rows e := by
  unfold lotOf lotP
  rw [mask_and]
  congr 1
  refine List.map_congr_left fun row _ => ?_
  unfold within
  rw [List.all_append, List.all_cons, List.all_nil, Bool.and_true]
theorem lot_zero (rows : List (List Pr)) (f : List Pr) : decide (lotOf rows f = 0) = (rows.filter (within f)).isEmpty := by
  have h := mask_zero (rows.map (within f))
  rw [List.any_map] at h
  by_cases z : lotOf rows f = 0
  · have z2 := h.mp z
    rw [decide_eq_true z]
    have e : rows.filter (within f) = [] := List.filter_eq_nil_iff.mpr fun row hr hw => by
      have := List.any_eq_false.mp z2 row hr
      exact this hw
    rw [e] <;> rfl
  · rw [decide_eq_false z]
    cases e : rows.filter (within f) with
    | cons a b => rfl
    | nil =>
      refine absurd (h.mpr ?_) z
      refine List.any_eq_false.mpr fun row hr hw => ?_
      exact List.filter_eq_nil_iff.mp e row hr hw
/-- the lot of a pair while the rows are gone through: of the first i rows wholly, of the next one its first pairs -/
def lotI (rows : List (List Pr)) (i j : Nat) (e : Pr) : Nat := maskL ((rows.take i).map fun row => decide (e ∈ row)) ||| (if e ∈ (rows.getD i []).take j then 2 ^ i else 0)
theorem lotI_zero (rows : List (List Pr)) (e : Pr) : lotI rows 0 0 e = 0 := by
  unfold lotI
  rw [List.take_zero, List.take_zero, if_neg List.not_mem_nil, Nat.or_zero] <;> rfl
theorem lotI_row (rows : List (List Pr)) {i : Nat} {row : List Pr} (h : rows[i]? = some row) (e : Pr) : lotI rows i row.length e = lotI rows (i + 1) 0 e := by
  unfold lotI
  rw [getD_of h, List.take_length, List.take_zero, if_neg List.not_mem_nil, take_one h, List.map_append, List.map_singleton, mask_snoc, Nat.or_zero, List.length_map, List.length_take]
  have hi : i < rows.length := (List.getElem?_eq_some_iff.mp h).1
  rw [Nat.min_eq_left (Nat.le_of_lt hi)]
  congr 1
  by_cases z : e ∈ row
  · rw [if_pos z, decide_eq_true z, if_pos rfl]
  · rw [if_neg z, decide_eq_false z, if_neg Bool.false_ne_true]
theorem lotI_step (rows : List (List Pr)) {i j : Nat} {row : List Pr} {p : Pr} (h : rows[i]? = some row) (hp : row[j]? = some p) (e : Pr) : lotI rows i (j + 1) e = if e = p then lotI rows i j e ||| 2 ^ i else lotI rows i j e := by
  unfold lotI
  rw [getD_of h, take_one hp]
  by_cases z : e = p
  · subst z
    rw [if_pos rfl, if_pos (List.mem_append_right _ List.mem_cons_self)]
    by_cases y : e ∈ row.take j
    · rw [if_pos y, Nat.or_assoc, Nat.or_self]
    · rw [if_neg y, Nat.or_zero]
  · rw [if_neg z]
    by_cases y : e ∈ row.take j
    · rw [if_pos y, if_pos (List.mem_append_left _ y)]
    · rw [if_neg y, if_neg fun q => by
        rcases List.mem_append.mp q with q | q
        · exact y q
        · exact z (List.mem_singleton.mp q)]
theorem lotI_end (rows : List (List Pr)) (e : Pr) : lotI rows rows.length 0 e = lotP rows e := by
  unfold lotI lotP
  rw [List.take_length, List.take_zero, if_neg List.not_mem_nil, Nat.or_zero]
/-- the pairs of a table -/
def pairsT (t : Tbl) : List Pr := t.flatMap fun e => e.2.map fun v => (e.1, v)
theorem mem_pairsT {t : Tbl} {e : Pr} : e ∈ pairsT t ↔ ∃ ws, (e.1, ws) ∈ t ∧ e.2 ∈ ws := by
  unfold pairsT
  rw [List.mem_flatMap]
  constructor
  · rintro ⟨x, hx, he⟩
    obtain ⟨v, hv, rfl⟩ := List.mem_map.mp he
    exact ⟨x.2, hx, hv⟩
  · rintro ⟨ws, h1, h2⟩
    exact ⟨_, h1, List.mem_map.mpr ⟨e.2, h2, rfl⟩⟩
theorem os_bor (a b : Nat) : Builtin.bitOr (a : Int) (b : Int) = ((a ||| b : Nat) : Int) := by
  have nn : ∀ x : Int, Builtin.bitNot (Builtin.bitNot x) = x := fun x => by
    unfold Builtin.bitNot
    omega
  have lt : ∀ n : Nat, ¬ 0 ≤ Builtin.bitNot (n : Int) := fun n => by
    unfold Builtin.bitNot
    omega
  show Builtin.bitNot (Builtin.bitAnd (Builtin.bitNot a) (Builtin.bitNot b)) = _
  rw [PyProof.Rows.bitAnd_nn (lt a) (lt b), nn, nn, nn, Int.toNat_natCast, Int.toNat_natCast]
/-- facts more: what fits them too -/
theorem fills_fit {rs : List (List Pr)} {f : List Pr} {t : Tbl} (nd : (t.map (·.1)).Nodup) (hr : ∀ r ∈ rs, RSeq t r) (kd : (f.map (·.1)).Nodup) (kt : ∀ e ∈ f, ∃ ws, (e.1, ws) ∈ t) : fills rs f t = (fills rs [] t).filter (within f) := by
  rw [fills_eq nd hr, fills_eq nd hr, List.filter_filter]
  refine List.filter_congr fun row hrow => ?_
  have hn : row.map (·.1) = t.map (·.1) := by
    have := chs_names t [[]] [] (fun x hx => by rw [List.mem_singleton.mp hx] <;> rfl) row hrow
    rwa [List.nil_append] at this
  unfold okRow
  rw [all_let nd kd kt hn, all_let (kn := []) nd List.nodup_nil (fun _ z => absurd z List.not_mem_nil) hn]
  show _ = (within f row && (true && _))
  rw [Bool.true_and]
/-- the rows' pairs are the table's -/
theorem fills_pairs {rs : List (List Pr)} {f : List Pr} {t : Tbl} (nd : (t.map (·.1)).Nodup) (hr : ∀ r ∈ rs, RSeq t r) : ∀ row ∈ fills rs f t, ∀ e ∈ row, e ∈ pairsT t := by
  rw [fills_eq nd hr]
  intro row hrow
  exact chs_all (ok := fun e => e ∈ pairsT t) t [[]] (fun x hx => by rw [List.mem_singleton.mp hx]; exact fun e he => absurd he List.not_mem_nil) (fun x hx v hv => mem_pairsT.mpr ⟨x.2, hx, hv⟩) row (List.mem_filter.mp hrow).1
theorem putK_len2 {κ : Type} [DecidableEq κ] {kvs : List (κ × V)} {k : κ} {v y : V} (h : valV kvs k = some y) : (putK kvs k v).length = kvs.length := by
  unfold putK
  rw [if_pos (by rw [valV_any, h] <;> rfl), List.length_map]
end Q
set_option Elab.async false
set_option linter.all false
set_option maxRecDepth 100000
set_option maxHeartbeats 4000000
/-! A dict comprehension of two clauses whose keys are tuples of ints and texts. -/
namespace XK
open PySem PySem.Spec PyProof.Rows L2
abbrev twoD (k v ta ia : Expr) (fa : List Expr) (tb ib : Expr) (fb : List Expr) (sc : Scope) (pos : Pos) : Expr := .DictComp k v [⟨ta, ia, fa, 0⟩, ⟨tb, ib, fb, 0⟩] sc pos
theorem turn_outer (k v ta ia tb ib : Expr) (fa fb : List Expr) (sc : Scope) (pos : Pos) (it d : Value) (en : Env) :
    compTurn (twoD k v ta ia fa tb ib fb sc pos) 0 it d en = (do
      standAt ia.pos
      match ← pyNext it with
      | none => pure (.done .next)
      | some u =>
        letOwnedTupleGo ta it u
        assign ta en u
        let mut ok := true
        for c in fa do
          if ok then ok ← isTrue c en (eval c en)
        if ok then
          let y ← eval ib en
          standAt ib.pos
          let y ← foldedSetIterable ib en y
          let _ ← runOwn (.compStart (twoD k v ta ia fa tb ib fb sc pos) 1 (← holding [y] (pyIter y)) d en) en
        again (.compLoop (twoD k v ta ia fa tb ib fb sc pos) 0 it d en)) := by rfl
section
variable {prog : Program} {w : World} {A : Around} {R : Result → Shared → Prop} {s : Shared} {k v ta ia tb ib : Expr} {fa fb : List Expr} {sc : Scope} {pos : Pos} {it : Value} {en : Env}
/-- a turn's tests -/
abbrev testsOf (fs : List Expr) (en : Env) : Sem Bool := forIn fs true fun c r => if r = true then do let ok ← isTrue c en (eval c en); pure (ForInStep.yield ok) else pure (ForInStep.yield r)
/-- the first clause's loop -/
theorem outer_any {d : Value} (hs : ∀ y, foldedSetIterable ib en y = pure y) (J : Nat → Shared → Prop)
    (turn : ∀ n s, J n s → wpAny (model prog w) A (pyNext it) (fun r s1 => match r with
      | none => R (.ok .next) s1
      | some u => wpAny (model prog w) A (letOwnedTupleGo ta it u) (fun _ s2 => wpAny (model prog w) A (assign ta en u) (fun _ s3 => wpAny (model prog w) A (testsOf fa en) (fun ok s4 =>
            if ok = true then wpAny (model prog w) A (eval ib en) (fun y s5 => wpAny (model prog w) A (pyIter y) (fun it1 s6 =>
              codeAny (model prog w) A (.compStart (twoD k v ta ia fa tb ib fb sc pos) 1 it1 d en) (fun r z => match r with
                | .ok _ => ∃ m, m < n ∧ J m z
                | .error _ => False) s6) (notedBy (model prog w) A en fun e z => R (.error e) z) s5) (notedBy (model prog w) A en fun e z => R (.error e) z) s4
            else ∃ m, m < n ∧ J m s4) (notedBy (model prog w) A en fun e z => R (.error e) z) s3) (notedBy (model prog w) A en fun e z => R (.error e) z) s2) (notedBy (model prog w) A en fun e z => R (.error e) z) s1) (notedBy (model prog w) A en fun e z => R (.error e) z) s)
    (n : Nat) (h : J n s) : codeAny (model prog w) A (.compLoop (twoD k v ta ia fa tb ib fb sc pos) 0 it d en) R s := by
  refine codeAny_loop rfl J (fun n s hJ => ?_) n h
  show wpAny _ A ((compTurn (twoD k v ta ia fa tb ib fb sc pos) 0 it d en).onRaise (fun x => do noteFrame x en; theTreesLotGoes x)) _ _ s
  refine wpAny_noted ?_
  rw [turn_outer]
  refine wpAny_bind (wpAny_standAt (wpAny_bind (wpAny_mono (turn n s hJ) (fun r s1 a1 => ?_) fun _ _ z => z)))
  cases r with
  | none => exact wpAny_pure a1
  | some u =>
    refine wpAny_bind (wpAny_mono a1 (fun _ s2 a2 => ?_) fun _ _ z => z)
    refine wpAny_bind (wpAny_mono a2 (fun _ s3 a3 => wpAny_bind (wpAny_mono a3 (fun ok s4 a4 => ?_) fun _ _ z => z)) fun _ _ z => z)
    cases ok with
    | false => exact wpAny_pure ⟨rfl, a4⟩
    | true =>
      refine wpAny_bind (wpAny_mono a4 (fun y s5 a5 => ?_) fun _ _ z => z)
      refine wpAny_bind (wpAny_standAt (wpAny_bind (wpAny_of_eq (hs y) (wpAny_bind (wpAny_holding (wpAny_mono a5 (fun it1 s6 a6 => ?_) fun _ _ z => z))))))
      refine wpAny_bind (wpAny_runOwn ?_)
      rw [Around.mark_none]
      refine codeAny_mono a6 fun r z hr => ?_
      cases r with
      | error e => exact hr.elim
      | ok f =>
        first
          | exact wpAny_pure ⟨rfl, hr⟩
          | exact wpAny_bind (wpAny_pure (wpAny_pure ⟨rfl, hr⟩))
/-- the second clause's loop -/
theorem inner_any {D : Addr} (J : Nat → Shared → Prop)
    (turn : ∀ n s, J n s → wpAny (model prog w) A (pyNext it) (fun r s1 => match r with
      | none => R (.ok .next) s1
      | some u => wpAny (model prog w) A (letOwnedTupleGo tb it u) (fun _ s2 => wpAny (model prog w) A (assign tb en u) (fun _ s3 => wpAny (model prog w) A (testsOf fb en) (fun ok s4 =>
            if ok = true then wpAny (model prog w) A (eval k en) (fun kv s5 => wpAny (model prog w) A (eval v en) (fun vv s6 =>
              wpAny (model prog w) A (dictSet D kv vv) (fun _ s7 => ∃ m, m < n ∧ J m s7) (notedBy (model prog w) A en fun e z => R (.error e) z) s6) (notedBy (model prog w) A en fun e z => R (.error e) z) s5) (notedBy (model prog w) A en fun e z => R (.error e) z) s4
            else ∃ m, m < n ∧ J m s4) (notedBy (model prog w) A en fun e z => R (.error e) z) s3) (notedBy (model prog w) A en fun e z => R (.error e) z) s2) (notedBy (model prog w) A en fun e z => R (.error e) z) s1) (notedBy (model prog w) A en fun e z => R (.error e) z) s)
    (n : Nat) (h : J n s) : codeAny (model prog w) A (.compLoop (twoD k v ta ia fa tb ib fb sc pos) 1 it (.ref D) en) R s := by
  have e : compTurn (twoD k v ta ia fa tb ib fb sc pos) 1 it (.ref D) en = (do
      standAt ib.pos
      match ← pyNext it with
      | none => pure (.done .next)
      | some u =>
        letOwnedTupleGo tb it u
        assign tb en u
        let mut ok := true
        for c in fb do
          if ok then ok ← isTrue c en (eval c en)
        if ok then
          (do
            let kv ← eval k en
            let vv ← holding [kv] (eval v en)
            standAt { k.pos with endLine := v.pos.endLine, endCol := v.pos.endCol }
            holding [kv, vv] (dictSet D kv vv))
        again (.compLoop (twoD k v ta ia fa tb ib fb sc pos) 1 it (.ref D) en)) := by rfl
  refine codeAny_loop rfl J (fun n s hJ => ?_) n h
  show wpAny _ A ((compTurn (twoD k v ta ia fa tb ib fb sc pos) 1 it (.ref D) en).onRaise (fun x => do noteFrame x en; theTreesLotGoes x)) _ _ s
  refine wpAny_noted ?_
  rw [e]
  refine wpAny_bind (wpAny_standAt (wpAny_bind (wpAny_mono (turn n s hJ) (fun r s1 a1 => ?_) fun _ _ z => z)))
  cases r with
  | none => exact wpAny_pure a1
  | some u =>
    refine wpAny_bind (wpAny_mono a1 (fun _ s2 a2 => ?_) fun _ _ z => z)
    refine wpAny_bind (wpAny_mono a2 (fun _ s3 a3 => wpAny_bind (wpAny_mono a3 (fun ok s4 a4 => ?_) fun _ _ z => z)) fun _ _ z => z)
    cases ok with
    | false => exact wpAny_pure ⟨rfl, a4⟩
    | true =>
      exact wpAny_bind (wpAny_bind (wpAny_mono a4 (fun kv s5 a5 => wpAny_bind (wpAny_holding (wpAny_mono a5 (fun vv s6 a6 => wpAny_bind (wpAny_standAt (wpAny_holding (wpAny_mono a6 (fun _ s7 a7 => wpAny_pure ⟨rfl, a7⟩) fun _ _ z => z)))) fun _ _ z => z))) fun _ _ z => z))
/-- the second clause's start -/
theorem inner_start {d : Value} (h0 : codeAny (model prog w) A (.compLoop (twoD k v ta ia fa tb ib fb sc pos) 1 it d en) R s)
    (h : wpAny (model prog w) A (pyIter it) (fun x z => codeAny (model prog w) A (.compLoop (twoD k v ta ia fa tb ib fb sc pos) 1 x d en) R z) (notedBy (model prog w) A en fun e z => R (.error e) z) s) :
    codeAny (model prog w) A (.compStart (twoD k v ta ia fa tb ib fb sc pos) 1 it d en) R s := by
  refine codeAny_of_tree ?_
  show wpAny _ _ ((compStart (twoD k v ta ia fa tb ib fb sc pos) 1 it d en).onRaise (fun e => do noteFrame e en; standAt theWindowsPlace)) _ _ s
  refine wpAny_notedAt ?_
  unfold compStart
  show wpAny _ _ (ask >>= _) _ _ s
  refine wpAny_bind (wpAny_askSetting (wpAny_ite ?_))
  split
  · first
      | exact wpAny_pure (And.intro rfl h0)
      | exact wpAny_bind (wpAny_pure (wpAny_pure (And.intro rfl h0)))
  · first
      | exact wpAny_bind (wpAny_rule (wpAny_bind (wpAny_standAt (wpAny_bind (wpAny_mono h (fun _ _ q => wpAny_pure (And.intro rfl q)) fun _ _ e => e)))))
      | (refine wpAny_bind (wpAny_rule ?_); show wpAny _ _ (standAt ib.pos >>= _) _ _ s; exact wpAny_bind (wpAny_standAt (wpAny_bind (wpAny_mono h (fun _ _ q => wpAny_pure (And.intro rfl q)) fun _ _ e => e))))
end
section
variable {X : Cx}
/-- how {k: v for ta in ia if .. for tb in ib if ..} reads -/
def tDc2 (wi : TI) (g : TG) (tt : TT) (wj : TI) (gj : TG) (tj : TT) (tk tv : TE) (own sub : List Nat) : TE := fun σ H Q =>
  wi σ H fun J H1 => ∀ D, H1 D = none →
    ∃ W : Nat → Nat → Hp → Prop, (∃ m, W 0 m (upd H1 D (.dT []))) ∧ ∀ i m H, W i m H →
      (J.stop i H ∧ Q (.ref D) H) ∨
      (J.go i H ∧ ∃ Nx : Hp → Prop, (∀ H', Nx H' → ∃ m', m' < m ∧ W (i + 1) m' H') ∧
        ∀ x H', J.yld i H x H' → g x (wipe σ own) H' fun σ2 H2 => wipe σ2 own = wipe σ own ∧
          tt σ2 H2 fun b H3 => if b = true then
              wj σ2 H3 fun L H4 => ∃ V : Nat → Nat → Hp → Prop, (∃ n, V 0 n H4) ∧ ∀ j n H, V j n H →
                (L.stop j H ∧ Nx H) ∨
                (L.go j H ∧ ∃ Ny : Hp → Prop, (∀ H', Ny H' → ∃ n', n' < n ∧ V (j + 1) n' H') ∧
                  ∀ x H', L.yld j H x H' → gj x (wipe σ2 sub) H' fun σ3 H5 => wipe σ3 sub = wipe σ2 sub ∧
                    tj σ3 H5 fun b H6 => if b = true then
                        tk σ3 H6 fun y H7 => tv σ3 H7 fun z H8 => ∃ es k p, y = .ref p ∧ H8 p = some (.tup (k.map kV)) ∧ H8 D = some (.dT es) ∧ es.length < sizeLine ∧ Ny (upd H8 D (.dT (putK es k z)))
                      else Ny H6)
            else Nx H3)
theorem dc2_run {pins : List (Addr × Obj)} {s : Shared} {σ : L2.St} {H : Hp} {Q : VK} {k v ta ia tb ib : Expr} {fa fb : List Expr} {scope : Scope} {own : List (Str × Nat)} {sub : List Nat} {pos pos2 : Pos} {wi wj : TI} {g gj : TG} {tt tj : TT} {tk tv : TE}
    {use : Option (Value → Sem Unit)} {Qf : Value → Shared → Prop} (hu : X.A.units < cLine) (calm : X.calm = true) (hN : X.N.Nodup) (I : Inv X pins σ H s) (hi : PI X ta ia wi) (ok : BlkOk X.N X.env.scope scope own) (hsub : ∀ i ∈ sub, i ∈ own.map (·.2))
    (hg : ∀ (s : Shared) (H : Hp) (C : Addr) (cl : List (Str × Addr)) (fp : List Addr), PG (X.blk s H scope (compEnvC scope cl C X.env) fp) ta g)
    (ht : ∀ (s : Shared) (H : Hp) (C : Addr) (cl : List (Str × Addr)) (fp : List Addr), PTs (X.blk s H scope (compEnvC scope cl C X.env) fp) fa tt)
    (hj : ∀ (s : Shared) (H : Hp) (C : Addr) (cl : List (Str × Addr)) (fp : List Addr), PI (X.blk s H scope (compEnvC scope cl C X.env) fp) tb ib wj)
    (hgj : ∀ (s : Shared) (H : Hp) (C : Addr) (cl : List (Str × Addr)) (fp : List Addr), PG (X.blk s H scope (compEnvC scope cl C X.env) fp) tb gj)
    (htj : ∀ (s : Shared) (H : Hp) (C : Addr) (cl : List (Str × Addr)) (fp : List Addr), PTs (X.blk s H scope (compEnvC scope cl C X.env) fp) fb tj)
    (hk : ∀ (s : Shared) (H : Hp) (C : Addr) (cl : List (Str × Addr)) (fp : List Addr), PE (X.blk s H scope (compEnvC scope cl C X.env) fp) k tk)
    (hv : ∀ (s : Shared) (H : Hp) (C : Addr) (cl : List (Str × Addr)) (fp : List Addr), PE (X.blk s H scope (compEnvC scope cl C X.env) fp) v tv)
    (hs : ∀ x, foldedSetIterable ia X.env x = pure x) (hsj : ∀ en x, foldedSetIterable ib en x = pure x) (h : tDc2 wi g tt wj gj tj tk tv (own.map (·.2)) sub σ H Q)
    (fin : ∀ D C s2 m H2, Inv X pins σ H2 s2 → Q (.ref D) H2 → s2.heap.Ns C m → FpOk X pins H2 C → compPost (model X.prog X.w) X.A X.xe use Qf (.ref D) C (.ok .next) s2) :
    wpAny (model X.prog X.w) X.A (comprehension (twoD k v ta ia fa tb ib fb scope pos) scope X.env pos2 newDict false (eval ia X.env) use) Qf X.xe s := by
  have frees : ∀ y ∈ scope.names, y.2 = .free → ∃ c, X.env.cells.lookup y.1 = some c := fun y hy e =>
    (ok.free y hy e).elim (fun z => I.ok.has _ (.inl z)) (fun z => I.ok.has _ (.inr z))
  refine wpAny_comprehension_free (use := use) rfl hs (closure_ok frees) ok.kind (fun y hy e => by rw [ok.uniq y hy, e])
    (thn (hi.run pins s σ H _ I h) fun xv s1 hx => thn hx fun itv s2 h2 => ?_)
  obtain ⟨it, fp, tn, J, H2, rfl, I2, T, st2, f2, q⟩ := h2
  refine wpAny_newObj_type (newEnv_comp ?_)
  generalize hD : s2.heap.objs.size = D
  have nD : H2 D = none := I2.hok.fresh (Nat.le_of_eq hD)
  obtain ⟨W, ⟨m0, w0⟩, turn⟩ := q D nD
  generalize hs3 : ({ s2 with heap := s2.heap.push { cls := .type "dict", data := .dict #[] } } : Shared) = s3
  have h3 : s3.heap = s2.heap.push { cls := .type "dict", data := .dict #[] } := by
    rw [← hs3]
  have I3 : Inv X pins σ (upd H2 D (.dT [])) s3 := by
    rw [← hs3]
    refine I2.laid (t' := s2.toks) (fun b o e => Heap.get?_push_of_some _ e) (Nat.le_of_eq hD) ?_
    rw [← hD]
    exact dt_empty s2.heap I2.big
  have lt2 : ∀ b ∈ fp, b < s2.heap.objs.size := fun b hb =>
    (T.obj _ _ st2 b hb).elim fun o e => Heap.lt_size e.1
  have f3 : ∀ b ∈ fp, FpOk X pins (upd H2 D (.dT [])) b ∧ b < s3.heap.objs.size := by
    intro b hb
    have lt := lt2 b hb
    refine ⟨⟨?_, (f2 b hb).2⟩, by rw [h3, Heap.size_push]; exact Nat.lt_succ_of_lt lt⟩
    rw [upd_ne (by rw [← hD]; exact Nat.ne_of_lt lt)]
    exact (f2 b hb).1
  have st3 : tn 0 s3.heap := T.keep _ _ _ st2 fun b _ o e => by
    rw [h3]
    exact Heap.get?_push_of_some _ e
  have I4 := block_start I3 ok hN f3
  have pg := hg s3 (upd H2 D (.dT [])) s3.heap.objs.size (cellsFrom (s3.heap.objs.size + 1) scope.names (cloFrom X.env.cells scope.names [])) fp
  have pt := ht s3 (upd H2 D (.dT [])) s3.heap.objs.size (cellsFrom (s3.heap.objs.size + 1) scope.names (cloFrom X.env.cells scope.names [])) fp
  have pj := hj s3 (upd H2 D (.dT [])) s3.heap.objs.size (cellsFrom (s3.heap.objs.size + 1) scope.names (cloFrom X.env.cells scope.names [])) fp
  have pgj := hgj s3 (upd H2 D (.dT [])) s3.heap.objs.size (cellsFrom (s3.heap.objs.size + 1) scope.names (cloFrom X.env.cells scope.names [])) fp
  have ptj := htj s3 (upd H2 D (.dT [])) s3.heap.objs.size (cellsFrom (s3.heap.objs.size + 1) scope.names (cloFrom X.env.cells scope.names [])) fp
  have pk := hk s3 (upd H2 D (.dT [])) s3.heap.objs.size (cellsFrom (s3.heap.objs.size + 1) scope.names (cloFrom X.env.cells scope.names [])) fp
  have pv := hv s3 (upd H2 D (.dT [])) s3.heap.objs.size (cellsFrom (s3.heap.objs.size + 1) scope.names (cloFrom X.env.cells scope.names [])) fp
  show codeAny _ _ (.compStart (twoD k v ta ia fa tb ib fb scope pos) 0 (.ref it) (.ref D) (compEnvC scope (cellsFrom (s3.heap.objs.size + 1) scope.names (cloFrom X.env.cells scope.names [])) s3.heap.objs.size X.env))
    (compPost (model X.prog X.w) X.A X.xe use Qf (.ref D) s3.heap.objs.size) { s3 with heap := pushCells (s3.heap.push { cls := .type "dict", data := .dict #[] }) scope.names }
  have nfp : ∀ b ∈ fp, (upd H2 D (.dT [])) b = none := fun b hb => (f3 b hb).1.1
  generalize hce : compEnvC scope (cellsFrom (s3.heap.objs.size + 1) scope.names (cloFrom X.env.cells scope.names [])) s3.heap.objs.size X.env = ce at I4 pg pt pj pgj ptj pk pv ⊢
  have cL : ce.locals = s3.heap.objs.size := by
    subst hce
    rfl
  generalize hH3 : upd H2 D (.dT []) = H3 at I3 I4 pg pt pj pgj ptj pk pv w0 nfp f3
  generalize hs4 : ({ s3 with heap := pushCells (s3.heap.push { cls := .type "dict", data := .dict #[] }) scope.names } : Shared) = s4 at I4 ⊢
  have st4 : tn 0 s4.heap := T.keep _ _ _ st3 fun b _ o e => by
    rw [← hs4]
    exact pushCells_keeps _ _ _ _ (Heap.get?_push_of_some _ e)
  have stat : ∀ {σ' : L2.St} {H' : Hp} {s' : Shared}, Inv (X.blk s3 H3 scope ce fp) [] σ' H' s' → (∀ b ∈ fp, H' b = none) → ∀ b ∈ fp, FpOk (X.blk s3 H3 scope ce fp) [] H' b := by
    intro σ' H' s' Z hn b hb
    exact ⟨hn b hb, (Z.ok.exf b hb).1, Z.ok.exfs b hb, .inl hb, fun x c e => (Z.ok.exf b hb).2 x c e, fun p hp => absurd (show p ∈ ([] : List (Addr × Obj)) ++ [] from hp) (by simp)⟩
  have loop : codeAny (model X.prog X.w) X.A (.compLoop (twoD k v ta ia fa tb ib fb scope pos) 0 (.ref it) (.ref D) ce) (compPost (model X.prog X.w) X.A X.xe use Qf (.ref D) s3.heap.objs.size) s4 := by
    refine outer_any (hsj ce) (fun n s' => ∃ i H', Inv (X.blk s3 H3 scope ce fp) [] (wipe σ (own.map (·.2))) H' s' ∧ tn i s'.heap ∧ (∀ b ∈ fp, H' b = none) ∧ W i n H') ?_ m0 ⟨0, H3, I4, st4, nfp, w0⟩
    rintro n s5 ⟨i, H5, J5, st5, n5, w5⟩
    rcases turn i n H5 w5 with ⟨stop, qq⟩ | ⟨go, Nx, hNx, step⟩
    · refine thnF (T.done (X.blk s3 H3 scope ce fp) rfl rfl rfl calm i [] s5 _ H5 (fun _ _ => False) J5 (stat J5 n5) st5 stop) fun r s6 ⟨hr, J6⟩ => ?_
      subst hr
      have J7 : Inv X pins σ H5 s6 := I3.call' (ch := fp) J6.os J6.base J6.hok J6.bare fun b hb =>
        ⟨(f3 b hb).1.2.2.2.1, (f3 b hb).1.2.1, (f3 b hb).1.2.2.2.2.1, (f3 b hb).1.2.2.2.2.2⟩
      have nC : H5 s3.heap.objs.size = none := by
        have z : H5 ce.locals = none := J6.free
        rwa [cL] at z
      obtain ⟨m, hn, _⟩ := J6.loc
      have hn2 : s6.heap.Ns ce.locals m := hn
      rw [cL] at hn2
      exact fin D s3.heap.objs.size s6 m H5 J7 qq hn2 (I3.fpOk (Nat.le_refl _) nC)
    · refine thnF (T.item (X.blk s3 H3 scope ce fp) rfl rfl rfl calm i [] s5 _ H5 (fun _ _ => False) J5 (stat J5 n5) st5 go) fun r s6 ⟨u, hr, h6⟩ => ?_
      subst hr
      refine thnF h6 fun _ s7 ⟨x, H7, J7, r7, y7, st7, n7⟩ => ?_
      have K7 := J7.pinned (stat J7 n7) (T.obj _ _ st7)
      refine thnF (pg.run _ s7 _ H7 x u _ K7 r7 (step x H7 y7)) fun _ s8 ⟨σ8, H8, J8, hw8, q8⟩ => ?_
      refine thnF (pt.run _ s8 σ8 H8 _ J8 q8) fun b s9 ⟨H9, J9, q9⟩ => ?_
      -- the end of an outer turn, the slots being what the block began with or more
      have back : ∀ {σ9 : L2.St} {s' : Shared} {H' : Hp}, Inv (X.blk s3 H3 scope ce fp) ([] ++ pinsAt fp s7.heap) σ9 H' s' → (wipe σ (own.map (·.2))).length = σ9.length → (∀ (j : Nat) y, (wipe σ (own.map (·.2)))[j]? = some (some y) → σ9[j]? = some (some y)) → Nx H' →
          ∃ m, m < n ∧ ∃ i H', Inv (X.blk s3 H3 scope ce fp) [] (wipe σ (own.map (·.2))) H' s' ∧ tn i s'.heap ∧ (∀ b ∈ fp, H' b = none) ∧ W i m H' := by
        intro σ9 s' H' Z hl hkn nx
        obtain ⟨m', hm, w'⟩ := hNx H' nx
        have stands : ∀ b ∈ fp, ∀ o, s7.heap.get? b = some o → s'.heap.get? b = some o ∧ H' b = none := fun b hb o e =>
          let z := Z.pin (b, o) (List.mem_append_right _ (List.mem_append_right _ (mem_pinsAt hb e)))
          ⟨z.1, z.2.1⟩
        refine ⟨m', hm, i + 1, H', (Z.unpinned (pins := [])).weak hl hkn, T.keep _ _ _ st7 fun b hb o e => (stands b hb o e).1, fun b hb => ?_, w'⟩
        obtain ⟨o, e, _⟩ := T.obj _ _ st7 b hb
        exact (stands b hb o e).2
      have len8 : (wipe σ (own.map (·.2))).length = σ8.length := by
        rw [← hw8, wipe_length]
      have kn8 : ∀ (j : Nat) y, (wipe σ (own.map (·.2)))[j]? = some (some y) → σ8[j]? = some (some y) := by
        intro j y e
        rw [← hw8] at e
        exact (wipe_some e).1
      have kn9 : ∀ (j : Nat) y, (wipe σ (own.map (·.2)))[j]? = some (some y) → (wipe σ8 sub)[j]? = some (some y) := by
        intro j y e
        rw [← hw8] at e
        have e2 := wipe_some e
        rw [wipe_out fun z => e2.2 (hsub j z)]
        exact e2.1
      cases b with
      | false =>
        simp only [Bool.false_eq_true, if_false] at q9 ⊢
        exact back J9 len8 kn8 q9
      | true =>
        simp only [if_true] at q9 ⊢
        refine thnF (pj.run _ s9 σ8 H9 _ J9 q9) fun xv2 s10 hx2 => thnF hx2 fun itv2 s11 h11 => ?_
        obtain ⟨it2, fp2, tn2, L, H11, rfl, J11, T2, st11, f11, V, ⟨n1, w1⟩, turn2⟩ := h11
        have stat2 : ∀ {H' : Hp}, (∀ b ∈ fp2, H' b = none) → ∀ b ∈ fp2, FpOk (X.blk s3 H3 scope ce fp) ([] ++ pinsAt fp s7.heap) H' b := fun hn b hb => ⟨hn b hb, (f11 b hb).2⟩
        have loop2 : codeAny (model X.prog X.w) X.A (.compLoop (twoD k v ta ia fa tb ib fb scope pos) 1 (.ref it2) (.ref D) ce)
            (fun r z => match r with
              | .ok _ => ∃ m, m < n ∧ ∃ i H', Inv (X.blk s3 H3 scope ce fp) [] (wipe σ (own.map (·.2))) H' z ∧ tn i z.heap ∧ (∀ b ∈ fp, H' b = none) ∧ W i m H'
              | .error _ => False) s11 := by
          refine inner_any (fun l s' => ∃ j H', Inv (X.blk s3 H3 scope ce fp) ([] ++ pinsAt fp s7.heap) (wipe σ8 sub) H' s' ∧ tn2 j s'.heap ∧ (∀ b ∈ fp2, H' b = none) ∧ V j l H') ?_ n1
            ⟨0, H11, J11.weak (wipe_length _ _) (fun j y e => (wipe_some e).1), st11, fun b hb => (f11 b hb).1, w1⟩
          rintro l s12 ⟨j, H12, J12, st12, n12, w12⟩
          rcases turn2 j l H12 w12 with ⟨stop2, nx2⟩ | ⟨go2, Ny, hNy, step2⟩
          · refine thnF (T2.done (X.blk s3 H3 scope ce fp) rfl rfl rfl calm j _ s12 (wipe σ8 sub) H12 (fun _ _ => False) J12 (stat2 n12) st12 stop2) fun r s13 ⟨hr, J13⟩ => ?_
            subst hr
            exact back J13 (len8.trans (wipe_length σ8 sub).symm) kn9 nx2
          · refine thnF (T2.item (X.blk s3 H3 scope ce fp) rfl rfl rfl calm j _ s12 (wipe σ8 sub) H12 (fun _ _ => False) J12 (stat2 n12) st12 go2) fun r s13 ⟨u2, hr, h13⟩ => ?_
            subst hr
            refine thnF h13 fun _ s14 ⟨x2, H14, J14, r14, y14, st14, n14⟩ => ?_
            have K14 := J14.pinned (stat2 n14) (T2.obj _ _ st14)
            refine thnF (pgj.run _ s14 (wipe σ8 sub) H14 x2 u2 _ K14 r14 (step2 x2 H14 y14)) fun _ s15 ⟨σ15, H15, J15, hw15, q15⟩ => ?_
            refine thnF (ptj.run _ s15 σ15 H15 _ J15 q15) fun b2 s16 ⟨H16, J16, q16⟩ => ?_
            have back2 : ∀ {s' : Shared} {H' : Hp}, Inv (X.blk s3 H3 scope ce fp) (([] ++ pinsAt fp s7.heap) ++ pinsAt fp2 s14.heap) σ15 H' s' → Ny H' →
                ∃ m, m < l ∧ ∃ j H', Inv (X.blk s3 H3 scope ce fp) ([] ++ pinsAt fp s7.heap) (wipe σ8 sub) H' s' ∧ tn2 j s'.heap ∧ (∀ b ∈ fp2, H' b = none) ∧ V j m H' := by
              intro s' H' Z ny
              obtain ⟨m', hm, w'⟩ := hNy H' ny
              have stands : ∀ b ∈ fp2, ∀ o, s14.heap.get? b = some o → s'.heap.get? b = some o ∧ H' b = none := fun b hb o e =>
                let z := Z.pin (b, o) (List.mem_append_right _ (List.mem_append_right _ (mem_pinsAt hb e)))
                ⟨z.1, z.2.1⟩
              refine ⟨m', hm, j + 1, H', Z.unpinned.weak (by rw [← hw15, wipe_length]) (fun i y e => ?_), T2.keep _ _ _ st14 fun b hb o e => (stands b hb o e).1, fun b hb => ?_, w'⟩
              · rw [← hw15] at e
                exact (wipe_some e).1
              · obtain ⟨o, e, _⟩ := T2.obj _ _ st14 b hb
                exact (stands b hb o e).2
            cases b2 with
            | false =>
              simp only [Bool.false_eq_true, if_false] at q16 ⊢
              exact back2 J16 q16
            | true =>
              simp only [if_true] at q16 ⊢
              refine thnF (pk.run _ s16 σ15 H16 _ J16 q16) fun z s17 ⟨yk, H17, J17, r17, q17⟩ => ?_
              refine thnF (pv.run _ s17 σ15 H17 _ J17 q17) fun z2 s18 ⟨yv, H18, J18, r18, es, kk, p, ey, hp18, hD18, hz18, nx⟩ => ?_
              subst ey
              exact put_tup (X := X.blk s3 H3 scope ce fp) hu J18 hD18 hp18 hz18 r17 r18 fun s19 J19 => back2 J19 nx
        exact inner_start loop2 (T2.self X.A 0 _ _ _ st11 loop2)
  exact codeAny_compStart_dict loop (T.self X.A 0 _ _ _ st4 loop)
theorem pe_dc2 {k v ta ia tb ib : Expr} {fa fb : List Expr} {scope : Scope} {own : List (Str × Nat)} {sub : List Nat} {pos : Pos} {wi wj : TI} {g gj : TG} {tt tj : TT} {tk tv : TE} (hu : X.A.units < cLine) (calm : X.calm = true) (hN : X.N.Nodup) (hi : PI X ta ia wi) (ok : BlkOk X.N X.env.scope scope own) (hsub : ∀ i ∈ sub, i ∈ own.map (·.2))
    (hg : ∀ (s : Shared) (H : Hp) (C : Addr) (cl : List (Str × Addr)) (fp : List Addr), PG (X.blk s H scope (compEnvC scope cl C X.env) fp) ta g)
    (ht : ∀ (s : Shared) (H : Hp) (C : Addr) (cl : List (Str × Addr)) (fp : List Addr), PTs (X.blk s H scope (compEnvC scope cl C X.env) fp) fa tt)
    (hj : ∀ (s : Shared) (H : Hp) (C : Addr) (cl : List (Str × Addr)) (fp : List Addr), PI (X.blk s H scope (compEnvC scope cl C X.env) fp) tb ib wj)
    (hgj : ∀ (s : Shared) (H : Hp) (C : Addr) (cl : List (Str × Addr)) (fp : List Addr), PG (X.blk s H scope (compEnvC scope cl C X.env) fp) tb gj)
    (htj : ∀ (s : Shared) (H : Hp) (C : Addr) (cl : List (Str × Addr)) (fp : List Addr), PTs (X.blk s H scope (compEnvC scope cl C X.env) fp) fb tj)
    (hk : ∀ (s : Shared) (H : Hp) (C : Addr) (cl : List (Str × Addr)) (fp : List Addr), PE (X.blk s H scope (compEnvC scope cl C X.env) fp) k tk)
    (hv : ∀ (s : Shared) (H : Hp) (C : Addr) (cl : List (Str × Addr)) (fp : List Addr), PE (X.blk s H scope (compEnvC scope cl C X.env) fp) v tv)
    (hs : ∀ x, foldedSetIterable ia X.env x = pure x := by intro _; rfl) (hsj : ∀ en x, foldedSetIterable ib en x = pure x := by intro _ _; rfl) :
    PE X (.DictComp k v [⟨ta, ia, fa, 0⟩, ⟨tb, ib, fb, 0⟩] scope pos) (tDc2 wi g tt wj gj tj tk tv (own.map (·.2)) sub) := by
  constructor
  intro pins s σ H Q I h
  rw [arm_eval_DictComp]
  refine dc2_run hu calm hN I hi ok hsub hg ht hj hgj htj hk hv hs hsj h fun D C s2 m H2 I2 q hn f => ⟨m, hn, fun h3 sb => ?_⟩
  obtain ⟨f0, f1, f2, f3, f4, f5⟩ := f
  exact ⟨.ref D, H2, I2.turned (t' := s2.toks) (fun b o hb e => (sb.2 b hb).trans e) f0 f1 f3 f4 f5, rfl, q⟩
end
end XK
set_option Elab.async false
set_option linter.all false
set_option maxRecDepth 100000
set_option maxHeartbeats 4000000
/-! ### a dict comprehension of two clauses over lists or tuples that it leaves as they are -/
namespace Q
open PySem L2 XD
theorem dc2_g {K : PySem.W.Frag} {p : Addr} {ys : List V} {t0 tj : TE} {g gj : TG} {tk tv : TE} {own sub : List Nat} {σ : L2.St} {H : Hp} {Q : VK} (Pv : Addr → Nat → Hp → Prop)
    (ht : ∀ Q' : VK, Q' (.ref p) H → t0 σ H Q') (hq : SqL K H p ys ∨ SqT K H p ys) (h0 : ∀ D, H D = none → Pv D 0 (L2.upd H D (.dT []))) (hG : ∀ D i H', H D = none → Pv D i H' → Same H H')
    (turn : ∀ D i x H' (R : L2.St → Hp → Prop), H D = none → i < ys.length → Pv D i H' → ys[i]? = some x →
      (∀ (σ2 : L2.St) (H2 : Hp) (q : Addr) (us : List V) (Pj : Nat → Hp → Prop), (∀ Q' : VK, Q' (.ref q) H2 → tj σ2 H2 Q') → (SqL K H q us ∨ SqT K H q us) → Pj 0 H2 → (∀ j H', Pj j H' → Same H H') → (∀ H', Pj us.length H' → Pv D (i + 1) H') →
        (∀ j u H3, j < us.length → Pj j H3 → us[j]? = some u → gj u (wipe σ2 sub) H3 fun σ3 H4 => wipe σ3 sub = wipe σ2 sub ∧ tk σ3 H4 fun y H5 => tv σ3 H5 fun z H6 =>
          ∃ es k b, y = .ref b ∧ H6 b = some (.tup (k.map kV)) ∧ H6 D = some (.dT es) ∧ es.length < sizeLine ∧ Pj (j + 1) (L2.upd H6 D (.dT (putK es k z)))) → R σ2 H2) →
      g x (wipe σ own) H' fun σ2 H2 => wipe σ2 own = wipe σ own ∧ R σ2 H2)
    (hd : ∀ D H', H D = none → Pv D ys.length H' → Q (.ref D) H') : XK.tDc2 (iRow K t0) g tYes (iRow K tj) gj tYes tk tv own sub σ H Q := by
  -- the inner loop, over either kind of sequence
  have inner : ∀ {L : It} {us : List V} {G : Hp → Prop} {Pj : Nat → Hp → Prop} {D : Addr} {Nx : Hp → Prop} {σ2 : L2.St} {H2 : Hp}, (walk : Walk L us.length G (YAt us)) → (∀ j H', Pj j H' → G H') → Pj 0 H2 → (∀ H', Pj us.length H' → Nx H') →
      (∀ j u H3, j < us.length → Pj j H3 → us[j]? = some u → gj u (wipe σ2 sub) H3 fun σ3 H4 => wipe σ3 sub = wipe σ2 sub ∧ tk σ3 H4 fun y H5 => tv σ3 H5 fun z H6 =>
          ∃ es k b, y = .ref b ∧ H6 b = some (.tup (k.map kV)) ∧ H6 D = some (.dT es) ∧ es.length < sizeLine ∧ Pj (j + 1) (L2.upd H6 D (.dT (putK es k z)))) →
      ∃ V : Nat → Nat → Hp → Prop, (∃ n, V 0 n H2) ∧ ∀ j n H, V j n H → (L.stop j H ∧ Nx H) ∨ (L.go j H ∧ ∃ Ny : Hp → Prop, (∀ H', Ny H' → ∃ n', n' < n ∧ V (j + 1) n' H') ∧
        ∀ x H', L.yld j H x H' → gj x (wipe σ2 sub) H' fun σ3 H5 => wipe σ3 sub = wipe σ2 sub ∧ tYes σ3 H5 fun b H6 => if b = true then
          tk σ3 H6 fun y H7 => tv σ3 H7 fun z H8 => ∃ es k p, y = .ref p ∧ H8 p = some (.tup (k.map kV)) ∧ H8 D = some (.dT es) ∧ es.length < sizeLine ∧ Ny (L2.upd H8 D (.dT (putK es k z))) else Ny H6) := by
    intro L us G Pj D Nx σ2 H2 walk hG2 hP0 hN step
    refine ⟨fun j n H' => n = us.length - j ∧ j ≤ us.length ∧ Pj j H', ⟨us.length, by simp, Nat.zero_le _, hP0⟩, ?_⟩
    rintro j n H' ⟨rfl, hj, g2⟩
    by_cases hlt : j < us.length
    · refine .inr ⟨walk.goes j H' hlt (hG2 _ _ g2), Pj (j + 1), fun H5 p' => ⟨us.length - (j + 1), by omega, rfl, hlt, p'⟩, fun x H5 y => ?_⟩
      obtain ⟨rfl, hx⟩ := walk.yields j H' x H5 hlt (hG2 _ _ g2) y
      exact step j x _ hlt g2 hx
    · have e : j = us.length := by omega
      subst e
      exact .inl ⟨walk.stops H' (hG2 _ _ g2), hN H' g2⟩
  have all : ∀ {J : It} {G : Hp → Prop}, (walk : Walk J ys.length G (YAt ys)) → (∀ H', Same H H' → G H') → ∀ D, H D = none → ∃ W : Nat → Nat → Hp → Prop, (∃ m, W 0 m (L2.upd H D (.dT []))) ∧ ∀ i m H, W i m H →
      (J.stop i H ∧ Q (.ref D) H) ∨ (J.go i H ∧ ∃ Nx : Hp → Prop, (∀ H', Nx H' → ∃ m', m' < m ∧ W (i + 1) m' H') ∧ ∀ x H', J.yld i H x H' → g x (wipe σ own) H' fun σ2 H2 => wipe σ2 own = wipe σ own ∧
        tYes σ2 H2 fun b H3 => if b = true then iRow K tj σ2 H3 fun L H4 => ∃ V : Nat → Nat → Hp → Prop, (∃ n, V 0 n H4) ∧ ∀ j n H, V j n H → (L.stop j H ∧ Nx H) ∨ (L.go j H ∧ ∃ Ny : Hp → Prop, (∀ H', Ny H' → ∃ n', n' < n ∧ V (j + 1) n' H') ∧
          ∀ x H', L.yld j H x H' → gj x (wipe σ2 sub) H' fun σ3 H5 => wipe σ3 sub = wipe σ2 sub ∧ tYes σ3 H5 fun b H6 => if b = true then
            tk σ3 H6 fun y H7 => tv σ3 H7 fun z H8 => ∃ es k p, y = .ref p ∧ H8 p = some (.tup (k.map kV)) ∧ H8 D = some (.dT es) ∧ es.length < sizeLine ∧ Ny (L2.upd H8 D (.dT (putK es k z))) else Ny H6) else Nx H3) := by
    intro J G walk hG1 D hD
    refine ⟨fun i m H' => m = ys.length - i ∧ i ≤ ys.length ∧ Pv D i H', ⟨ys.length, by simp, Nat.zero_le _, h0 D hD⟩, ?_⟩
    rintro i m H' ⟨rfl, hi, g2⟩
    have hs := hG D i H' hD g2
    by_cases hlt : i < ys.length
    · refine .inr ⟨walk.goes i H' hlt (hG1 H' hs), Pv D (i + 1), fun H5 p' => ⟨ys.length - (i + 1), by omega, rfl, hlt, p'⟩, fun x H5 y => ?_⟩
      obtain ⟨rfl, hx⟩ := walk.yields i H' x H5 hlt (hG1 H' hs) y
      refine turn D i x _ (fun σ2 H2 => tYes σ2 H2 _) hD hlt g2 hx fun σ2 H2 q us Pj htj hqu hP0 hPG hPN step => ?_
      unfold tYes
      refine iteT ?_
      rcases hqu with hqu | hqu
      · exact .inl (htj _ ⟨q, rfl, ⟨us, (hPG 0 _ hP0).seq hqu⟩, inner walk_list (fun j H' h => (hPG j H' h).seq hqu) hP0 hPN step⟩)
      · exact .inr (htj _ ⟨q, rfl, ⟨us, seqT_same (hPG 0 _ hP0) hqu⟩, inner walk_tup (fun j H' h => seqT_same (hPG j H' h) hqu) hP0 hPN step⟩)
    · have e : i = ys.length := by omega
      subst e
      exact .inl ⟨walk.stops H' (hG1 H' hs), hd D H' hD g2⟩
  rcases hq with hq | hq
  · exact .inl (ht _ ⟨p, rfl, ⟨ys, hq⟩, all walk_list (fun H' s => s.seq hq)⟩)
  · exact .inr (ht _ ⟨p, rfl, ⟨ys, hq⟩, all walk_tup (fun H' s => seqT_same s hq)⟩)
end Q
set_option Elab.async false
set_option linter.all false
set_option maxRecDepth 100000
set_option maxHeartbeats 4000000
/-! ### the class Table: what it is, __init__ -/
namespace Q
open PySem L2 XD
/-- what the written part says of the class -/
structure Tc (K : PySem.W.Frag) (mg : Str → Option Value) (C : Addr) : Prop where
  cl : Cls K C
  nF : NoAttr K C "_fields"
  nR : NoAttr K C "_rows"
  nL : NoAttr K C "_lot_of"
  gT : mg "Table" = some (.ref C)
abbrev tbl3 (f z D : Addr) : List (Str × V) := [("_fields", .ref f), ("_rows", .ref z), ("_lot_of", .ref D)]
theorem lkT1 {f : Addr} : List.lookup ("_fields" : Str) [(("_fields" : Str), V.ref f)] = some (.ref f) := by
  have e : (("_fields" : Str) == "_fields") = true := by decide +kernel
  rw [List.lookup, e]
theorem lkT2F {f z : Addr} : List.lookup ("_fields" : Str) [(("_fields" : Str), V.ref f), (("_rows" : Str), V.ref z)] = some (.ref f) := by
  have e : (("_fields" : Str) == "_fields") = true := by decide +kernel
  rw [List.lookup, e]
theorem lkTR {f z D : Addr} : List.lookup ("_rows" : Str) (tbl3 f z D) = some (.ref z) := by
  have e : (("_rows" : Str) == "_fields") = false := by decide +kernel
  have e2 : (("_rows" : Str) == "_rows") = true := by decide +kernel
  unfold tbl3
  rw [List.lookup, e]
  show List.lookup ("_rows" : Str) [(("_rows" : Str), V.ref z), (("_lot_of" : Str), V.ref D)] = _
  rw [List.lookup, e2]
theorem lkTL {f z D : Addr} : List.lookup ("_lot_of" : Str) (tbl3 f z D) = some (.ref D) := by
  have e : (("_lot_of" : Str) == "_fields") = false := by decide +kernel
  have e1 : (("_lot_of" : Str) == "_rows") = false := by decide +kernel
  have e2 : (("_lot_of" : Str) == "_lot_of") = true := by decide +kernel
  unfold tbl3
  rw [List.lookup, e]
  show List.lookup ("_lot_of" : Str) [(("_rows" : Str), V.ref z), (("_lot_of" : Str), V.ref D)] = _
  rw [List.lookup, e1]
  show List.lookup ("_lot_of" : Str) [(("_lot_of" : Str), V.ref D)] = _
  rw [List.lookup, e2]
theorem lkTno {m : Str} {f z D : Addr} (h1 : (m == ("_fields" : Str)) = false) (h2 : (m == ("_rows" : Str)) = false) (h3 : (m == ("_lot_of" : Str)) = false) : List.lookup m (tbl3 f z D) = none := by
  unfold tbl3
  rw [List.lookup, h1]
  show List.lookup m [(("_rows" : Str), V.ref z), (("_lot_of" : Str), V.ref D)] = _
  rw [List.lookup, h2]
  show List.lookup m [(("_lot_of" : Str), V.ref D)] = _
  rw [List.lookup, h3]
  rfl
theorem pfT2 (f z : Addr) : putF "_rows" (.ref z) [("_fields", V.ref f)] = ([("_fields", V.ref f), ("_rows", V.ref z)] : List (Str × V)) := by
  show (if ("_fields" : Str) = "_rows" then [(("_fields" : Str), V.ref z)] else (("_fields" : Str), V.ref f) :: putF "_rows" (V.ref z) []) = _
  rw [if_neg (by decide +kernel)] <;> rfl
theorem pfT3 (f z D : Addr) : putF "_lot_of" (.ref D) [("_fields", V.ref f), ("_rows", V.ref z)] = tbl3 f z D := by
  show (if ("_fields" : Str) = "_lot_of" then [(("_fields" : Str), V.ref D), ("_rows", V.ref z)] else (("_fields" : Str), V.ref f) :: (if ("_rows" : Str) = "_lot_of" then [(("_rows" : Str), V.ref D)] else (("_rows" : Str), V.ref z) :: putF "_lot_of" (V.ref D) [])) = _
  rw [if_neg (by decide +kernel), if_neg (by decide +kernel)] <;> rfl
/-- a dict from pairs to lots -/
def LotD (H : Hp) (D : Addr) (t : Tbl) (f : Pr → Nat) : Prop := ∃ es : List (List Key × V), H D = some (.dT es) ∧ es.length ≤ 10000 ∧ ∀ e ∈ pairsT t, valV es (keyOf e) = some (.int (f e : Nat))
/-- a table stands at x -/
def TblAt (K : PySem.W.Frag) (C : Addr) (H : Hp) (x : Addr) (t : Tbl) (rows : List (List Pr)) : Prop := ∃ dx f z D : Addr, H x = some (.ins C dx (tbl3 f z D)) ∧ RowsAt K H z rows ∧ LotD H D t (lotP rows)
theorem LotD.same {H H' : Hp} {D : Addr} {t : Tbl} {f : Pr → Nat} (s : Same H H') (h : LotD H D t f) : LotD H' D t f := by
  obtain ⟨es, a, b⟩ := h
  exact ⟨es, s _ _ a, b⟩
theorem TblAt.same {K : PySem.W.Frag} {C : Addr} {H H' : Hp} {x : Addr} {t : Tbl} {rows : List (List Pr)} (s : Same H H') (h : TblAt K C H x t rows) : TblAt K C H' x t rows := by
  obtain ⟨dx, f, z, D, a, b, c⟩ := h
  exact ⟨dx, f, z, D, s _ _ a, b.same s, c.same s⟩
theorem RowsAt.sd {K : PySem.W.Frag} {H H' : Hp} {z : Addr} {rows : List (List Pr)} (s : Sd H H') (h : RowsAt K H z rows) : RowsAt K H' z rows := by
  obtain ⟨vs, a, b⟩ := h
  refine ⟨vs, seqT_sd s a, prd_imp (fun v row h => ?_) b⟩
  obtain ⟨p, qs, e, c, d⟩ := h
  exact ⟨p, qs, e, seqT_sd s c, prd_imp (fun q e h => s _ _ (by intro _ _ _ z; cases z) h) d⟩
theorem sd_rm {H : Hp} {x C dx : Addr} {fs : List (Str × V)} (h : H x = some (.ins C dx fs)) : Sd H (rmL [x] H) := fun b o n e => by
  rw [rm_at fun z => by
    rw [List.mem_singleton.mp z, h] at e
    exact n _ _ _ (Option.some.inj e).symm]
  exact e
theorem rows_lot {K : PySem.W.Frag} {H : Hp} {z : Addr} {rows : List (List Pr)} (h : RowsAt K H z rows) {i : Nat} {row : List Pr} (hi : rows[i]? = some row) : ∃ (vs : List V) (p : Addr) (qs : List Addr), SqT K H z vs ∧ vs.length = rows.length ∧ vs[i]? = some (.ref p) ∧ SqT K H p (qs.map V.ref) ∧ Paired (PairAt H) qs row := by
  obtain ⟨vs, a, b⟩ := h
  have hl := prd_len b
  have hlt : i < rows.length := (List.getElem?_eq_some_iff.mp hi).1
  have e1 : vs[i]? = some (vs[i]'(by omega)) := List.getElem?_eq_getElem (by omega)
  obtain ⟨row', e2, p, qs, e3, c, d⟩ := prd_at b e1
  rw [hi] at e2
  cases e2
  rw [e3] at e1
  exact ⟨vs, p, qs, a, hl, e1, c, d⟩
theorem fld_dc2 {K : PySem.W.Frag} {w wj : TI} {g gj : TG} {tt tj : TT} {tk tv t0 : TE} {own sub : List Nat} {u : TS} {D : Ends} {σ : L2.St} {H : Hp} {f : Str}
    (h : XK.tDc2 w g tt wj gj tj tk tv own sub σ H fun y H1 => t0 σ H1 fun x H2 => ∃ a C dx fs, x = .ref a ∧ H2 a = some (.ins C dx fs) ∧ Cls K C ∧ NoAttr K C f ∧ fs.length < 1000 ∧ u D σ (L2.upd H2 a (.ins C dx (putF f y fs)))) :
    tSeq (sFld K t0 (XK.tDc2 w g tt wj gj tj tk tv own sub) f) u D σ H := h
theorem small3 {l : List (Str × V)} (h : l.length ≤ 3) : l.length < 1000 := Nat.lt_of_le_of_lt h (by decide)
theorem small1000' {n : Nat} (h : n ≤ 10000) : n < sizeLine := Nat.lt_of_le_of_lt h (by decide)
theorem r62a' (n : Nat) : -(2 ^ 62 : Int) ≤ (n : Int) := by
  have : -(2 ^ 62 : Int) ≤ 0 := by decide
  omega
theorem r62b' {n : Nat} (h : n ≤ 1000) : (n : Int) < 2 ^ 62 := by
  have : (1000 : Int) < 2 ^ 62 := by decide
  omega
def spTInit (K : PySem.W.Frag) (C CT : Addr) : Sp := fun vs H Q _ => ∃ (x xf pf pr dx : Addr) (t : Tbl) (rs : List (List Pr)) (G : Hp), vs = [.ref x, .ref xf] ∧ H x = some (.ins CT dx []) ∧ G x = none ∧ Same G H ∧ FormAt C G xf pf pr ∧ TabAt K G pf t ∧ RulesAt K G pr rs ∧ FormOk t rs ∧ t.length ≤ 6 ∧
  ∀ H', Same G H' → TblAt K CT H' x t (fills rs [] t) → Q .non H'
abbrev nTI : List Str := ["self", "form", "name", "values", "value", "number", "pair"]
section
variable {P : Program} {w : World} {K : PySem.W.Frag} {mg : Str → Option Value} {base : Heap}
theorem scTI : FnScope nTI ["self", "form"] (defScope sTblInit) := ⟨rfl, rfl, rfl, by decide +kernel, rfl, by decide +kernel, by decide +kernel⟩
theorem ok_tinit {f C CT : Addr} {fd : FuncData} (F : Fun K "__init__" "Table.__init__" sTblInit f fd) (T : Tc K mg CT) (Z : Fk P w K mg base C) (Tr : mg "range" = none) (Tn : mg "len" = none)
    (KW : Kn P w K mg base 3 "rows_that_fit" ["form", "facts"] (spRowsFit K C)) : FnOk P w K mg base CX0 4 f fd ["self", "form"] (spTInit K C CT) := by
  obtain ⟨fW, fdW, GW, kW, bW, mW⟩ := KW.ex
  obtain ⟨fG, fdG, GG, bG, mG⟩ := Z.gf
  refine F.ok scTI (fun vs H Q E h => ?_) (fun cdv A outer s H vs Q E hr h => ?_)
  · obtain ⟨x, xf, pf, pr, dx, t, rs, G, rfl, _⟩ := h
    rfl
  have hr1 : Room 1 _ := hr.mono (by decide)
  have hu1 : (A.deeper (PyProof.Rows.envOfC "Table.__init__" (defScope sTblInit) s.heap.objs.size f cdv)).units + 1 < cLine := hu_of hr
  have hu0 : (A.deeper (PyProof.Rows.envOfC "Table.__init__" (defScope sTblInit) s.heap.objs.size f cdv)).units < cLine := by omega
  refine ⟨_, pss_cons (ps_fld (pv 0) (pe_meth0 (pv 1) Z.fc.cl mG GG hr1 bG .nil pass0) rfl)
    (pss_cons (ps_fld (pv 0) (pe_call GW hr rfl mW kW bW .nil pass0 (pa_cons (pv 1) (pa_cons (pe_tupZ pa_nil) pa_nil))) rfl)
    (pss_cons (ps_fld (pv 0) (XK.pe_dc2 (own := [("name", 2), ("values", 3), ("value", 4)]) (sub := [4]) (g := gRow K 2 (gCons (gName 2) (gCons (gName 3) gNil))) (gj := gName 4) (tt := tYes) (tj := tYes) hu0 (by rfl) scTI.nd (pi_row (pe_fld (pv 0) rfl)) (blkOk_by (N := nTI) (sc := defScope sTblInit) (by decide +kernel)) (by decide)
        (fun _ _ _ _ _ => pg_row rfl (pgs_cons (pg_name (i := 2) scTI.nd rfl (.inl rfl)) (pgs_cons (pg_name (i := 3) scTI.nd rfl (.inl rfl)) pgs_nil))) (fun _ _ _ _ _ => pts_nil)
        (fun _ _ _ _ _ => pi_rowK K rfl (pv 3)) (fun _ _ _ _ _ => pg_name (i := 4) scTI.nd rfl (.inl rfl)) (fun _ _ _ _ _ => pts_nil)
        (fun _ _ _ _ _ => pe_tup (pa_cons (pv 2) (pa_cons (pv 4) pa_nil))) (fun _ _ _ _ _ => pe_int)) rfl)
    (pss_one (ps_for PassesOwn.never rfl (pi_range1 rfl Tr (pa_cons (pe_callB call_len_seq rfl Tn PySem.boot_len (pa_cons (pe_fld (pv 0) rfl) pa_nil)) pa_nil)) (pg_name (i := 5) scTI.nd rfl (.inl rfl))
      (pss_one (ps_for PassesOwn.never rfl (pi_row (pe_ix (ix_both K rfl) (pe_fld (pv 0) rfl) (pv 5) (fun _ _ => rfl))) (pg_name (i := 6) scTI.nd rfl (.inl rfl))
        (pss_one (ps_daug hu1 (pe_fld (pv 0) rfl) (pv 6) (pe_op op_oneShl pe_int (pv 5)) iop_or (fun _ _ _ => rfl))))))))), ?_⟩
  obtain ⟨x, xf, pf, pr, dx, t, rs, G, rfl, hx, gx, sG, ⟨dxf, hxf⟩, hT, hR, O, h6, k⟩ := h
  have hne : ∀ {a : Addr} {o : HO}, G a = some o → a ≠ x := fun e z => by rw [z, gx] at e; cases e
  refine ⟨_, rfl, xf, dxf, _, rfl, sG _ _ hxf, noF, xf, pf, pr, rfl, ⟨dxf, sG _ _ hxf⟩, _, rfl, x, CT, dx, _, rfl, hx, T.cl, T.nF, Nat.zero_lt_succ _, ?_⟩
  have hx1 : L2.upd H x (.ins CT dx [(("_fields" : Str), V.ref pf)]) x = some (.ins CT dx [(("_fields" : Str), V.ref pf)]) := upd_same
  have s1 : Same G (L2.upd H x (.ins CT dx [(("_fields" : Str), V.ref pf)])) := fun b o e => by
    rw [upd_ne (hne e)]
    exact sG _ _ e
  show tSeq _ _ _ _ (L2.upd H x (.ins CT dx [(("_fields" : Str), V.ref pf)]))
  generalize L2.upd H x (.ins CT dx [(("_fields" : Str), V.ref pf)]) = H1 at s1 hx1
  refine ⟨_, rfl, by show 0 ≤ sizeLine; decide, fun u o hu od => ?_⟩
  have s2 := new_same hu (.frz o (.tup []))
  have ea : areFacts t (.tuple []) = true := by
    show (decide (0 ≤ t.length) && true) = true
    rw [decide_eq_true (Nat.zero_le _)] <;> rfl
  have s12 := s1.trans s2
  refine ⟨xf, pf, pr, .ref u, t, rs, .tuple [], rfl, ⟨dxf, s12 _ _ hxf⟩, hT.same s12, rulesAtS s12 hR, O, ea, ⟨u, [], [], rfl, .inr ⟨o, upd_same, od⟩, rfl, .nil⟩, fun z H2 s3 hz => ?_⟩
  have hx2 := s3 _ _ (s2 _ _ hx1)
  have sG2 := s12.trans s3
  have hz : RowsAt K H2 z (fills rs [] t) := hz
  refine ⟨_, rfl, x, CT, dx, _, rfl, hx2, T.cl, T.nR, small3 (by show 1 ≤ 3; decide), ?_⟩
  rw [pfT2]
  have hzB := hz.sd (sd_rm hx2)
  have bx : rmL [x] H2 x = none := if_pos (List.mem_singleton.mpr rfl)
  have sGB : Same G (rmL [x] H2) := fun b o e => by
    rw [rm_at fun z => hne e (List.mem_singleton.mp z)]
    exact sG2 _ _ e
  have sB3 : Same (rmL [x] H2) (L2.upd H2 x (.ins CT dx [(("_fields" : Str), V.ref pf), (("_rows" : Str), V.ref z)])) := fun b o e => by
    obtain ⟨e1, e2⟩ := rm_of e
    rw [upd_ne fun z => e1 (List.mem_singleton.mpr z)]
    exact e2
  have hx3 : L2.upd H2 x (.ins CT dx [(("_fields" : Str), V.ref pf), (("_rows" : Str), V.ref z)]) x = some (.ins CT dx [(("_fields" : Str), V.ref pf), (("_rows" : Str), V.ref z)]) := upd_same
  generalize L2.upd H2 x (.ins CT dx [(("_fields" : Str), V.ref pf), (("_rows" : Str), V.ref z)]) = H3 at sB3 hx3
  generalize rmL [x] H2 = B at hzB bx sGB sB3
  clear hz hx2 sG2 s3 s12 s2 s1 hx1 hu
  have nrow : (fills rs [] t).length ≤ 1000 := Nat.le_trans (fills_len _ _ 1 (Nat.le_refl 1)) O.ws
  have hprs := fills_pairs (f := []) O.nd O.rq
  generalize fills rs [] t = rows at hzB nrow hprs k
  have hT3 := hT.same (sGB.trans sB3)
  obtain ⟨ps0, tk, hpz, hTR, _, _⟩ := hT3
  have htl : (ps0.map V.ref).length = t.length := by rw [List.length_map, hTR.len.1]
  dsimp only
  refine fld_dc2 ?_
  refine dc2_g (ys := ps0.map V.ref) (fun D i H' => Same H3 H' ∧ ∃ es : List (List Key × V), H' D = some (.dT es) ∧ es.length ≤ i * 1000 ∧ ∀ e ∈ pairsT (t.take i), valV es (keyOf e) = some (.int 0)) (fun Q' q => ⟨_, rfl, x, CT, dx, _, _, rfl, hx3, T.cl, T.nF, lkT2F, q⟩) (.inr hpz.sqT)
    (fun D hD => ⟨new_same hD _, [], upd_same, Nat.zero_le _, fun e he => absurd he (by rw [List.take_zero]; exact List.not_mem_nil)⟩) (fun D i H' _ h => h.1) (fun D i y H4 R hD hi hP hy step => ?_) (fun D H4 hD hP => ?_)
  · obtain ⟨s34, es, hes, hl, hv⟩ := hP
    obtain ⟨q1, v1, n, vals, rfl, e1, e2, e3⟩ := hTR.at hy
    have hmem := List.mem_of_getElem? e1
    refine .inl ⟨q1, _, rfl, seqT_same s34 e2, rfl, .str n, _, rfl, .ref v1, [], rfl, rfl, rfl, ?_⟩
    refine step _ _ v1 (vals.map V.str) (fun j H' => Same H3 H' ∧ ∃ es : List (List Key × V), H' D = some (.dT es) ∧ es.length ≤ i * 1000 + j ∧ (∀ e ∈ pairsT (t.take i), valV es (keyOf e) = some (.int 0)) ∧ ∀ v ∈ vals.take j, valV es (keyOf (n, v)) = some (.int 0))
      (fun Q' q => ⟨_, rfl, q⟩) (.inr e3) ⟨s34, es, hes, hl, hv, fun v hv => absurd hv (by rw [List.take_zero]; exact List.not_mem_nil)⟩ (fun j H' h => h.1) (fun H' h => ?_) (fun j u H5 hj h hu => ?_)
    · obtain ⟨s, es, hes, hl, h1, h2⟩ := h
      have hvn := (O.vn _ hmem).2
      refine ⟨s, es, hes, by rw [List.length_map] at hl; have hvn : vals.length ≤ 1000 := hvn; omega, fun e he => ?_⟩
      rw [List.length_map, List.take_length] at h2
      unfold pairsT at he
      rw [take_one e1, List.flatMap_append] at he
      rcases List.mem_append.mp he with he | he
      · exact h1 e he
      · rw [List.flatMap_cons, List.flatMap_nil, List.append_nil] at he
        obtain ⟨v, hv, rfl⟩ := List.mem_map.mp he
        exact h2 v hv
    · obtain ⟨s35, es, hes, hl, h1, h2⟩ := h
      obtain ⟨val, ev, rfl⟩ : ∃ val, vals[j]? = some val ∧ u = .str val := by
        rw [List.getElem?_map] at hu
        obtain ⟨p, a, b⟩ := Option.map_eq_some_iff.mp hu
        exact ⟨p, a, b.symm⟩
      rw [List.length_map] at hj
      have hvn : vals.length ≤ 1000 := (O.vn _ hmem).2
      refine ⟨rfl, _, rfl, _, rfl, by show 2 ≤ sizeLine; decide, fun b hb => ?_⟩
      have sb := new_same hb (.tup [V.str n, V.str val])
      have hi6 : i < 6 := by rw [htl] at hi; omega
      refine ⟨es, keyOf (n, val), b, rfl, upd_same, sb _ _ hes, small1000' (by omega), fun c o e => ?_, _, upd_same, ?_, fun e he => ?_, fun v hv => ?_⟩
      · rw [upd_ne (ne_of_none e hD)]
        exact sb _ _ (s35 _ _ e)
      · have := length_putK es (keyOf (n, val)) (.int 0)
        omega
      · rw [valV_put]
        by_cases z : keyOf e = keyOf (n, val)
        · rw [if_pos z]
        · rw [if_neg z]
          exact h1 e he
      · rw [valV_put]
        by_cases z : keyOf (n, v) = keyOf (n, val)
        · rw [if_pos z]
        · rw [if_neg z]
          rw [take_one ev] at hv
          rcases List.mem_append.mp hv with hv | hv
          · exact h2 v hv
          · rw [List.mem_singleton.mp hv] at z
            exact absurd rfl z
  · obtain ⟨s34, es, hes, hl, hv⟩ := hP
    rw [htl] at hl hv
    rw [List.take_length] at hv
    have hx4 := s34 _ _ hx3
    have hDx : D ≠ x := fun z => by rw [z, hx3] at hD; cases hD
    have bD : B D = none := by
      cases q : B D with
      | none => rfl
      | some o => rw [sB3 _ _ q] at hD; cases hD
    refine ⟨_, rfl, x, CT, dx, _, rfl, hx4, T.cl, T.nL, small3 (by show 2 ≤ 3; decide), ?_⟩
    rw [pfT3]
    have s5 : Same B (L2.upd H4 x (.ins CT dx (tbl3 pf z D))) := fun b o e => by
      rw [upd_ne (ne_of_none e bx)]
      exact s34 _ _ (sB3 _ _ e)
    have hx5 : L2.upd H4 x (.ins CT dx (tbl3 pf z D)) x = some (.ins CT dx (tbl3 pf z D)) := upd_same
    have hL5 : LotD (L2.upd H4 x (.ins CT dx (tbl3 pf z D))) D t (lotI rows 0 0) := ⟨es, by rw [upd_ne hDx]; exact hes, by omega, fun e he => by rw [hv e he, lotI_zero] <;> rfl⟩
    generalize L2.upd H4 x (.ins CT dx (tbl3 pf z D)) = H5 at s5 hx5 hL5
    have hzB' := hzB
    obtain ⟨ws, hws, hwr⟩ := hzB'
    have hwl := prd_len hwr
    refine ⟨_, rfl, x, CT, dx, _, _, rfl, hx5, T.cl, T.nR, lkTR, z, ws, rfl, .inr (seqT_same s5 hws), _, rfl, r62a' _, r62b' (by rw [hwl]; exact nrow), ?_⟩
    rw [Int.toNat_natCast, hwl]
    refine for_range (lo := 0) (n := rows.length) (fun i σ H' => ∃ f5 f6 : Option V, σ = [some (.ref x), some (.ref xf), none, none, none, f5, f6] ∧ Same B H' ∧ H' x = some (.ins CT dx (tbl3 pf z D)) ∧ LotD H' D t (lotI rows i 0)) ⟨none, none, rfl, s5, hx5, hL5⟩ ?_ ?_
    · rintro i σ H6 hi ⟨f5, f6, rfl, s6, hx6, hL6⟩
      have ei : (0 : Int) + (i : Int) = ((i : Nat) : Int) := by omega
      rw [ei]
      obtain ⟨row, hrow⟩ : ∃ row, rows[i]? = some row := ⟨_, List.getElem?_eq_getElem hi⟩
      obtain ⟨vs, p, qs, g1, g2, g3, g4, g5⟩ := rows_lot hzB hrow
      have hql := prd_len g5
      refine for_row (ys := qs.map V.ref) (H0 := B) (fun j σ H' => ∃ f6 : Option V, σ = [some (.ref x), some (.ref xf), none, none, none, some (.int (i : Nat)), f6] ∧ Same B H' ∧ H' x = some (.ins CT dx (tbl3 pf z D)) ∧ LotD H' D t (lotI rows i j))
        (fun Q' q => ⟨_, rfl, x, CT, dx, _, _, rfl, hx6, T.cl, T.nR, lkTR, _, rfl, ix_row (.inr (seqT_same s6 g1)) (at_of rfl g3) q⟩) (.inr g4) ⟨f6, rfl, s6, hx6, hL6⟩ (fun j σ H' h => by obtain ⟨_, _, h, _⟩ := h; exact h) ?_ ?_
      · rintro j y σ H7 hj ⟨f6, rfl, s7, hx7, es, hes, hl, hv⟩ hy
        obtain ⟨qa, eqa, rfl⟩ : ∃ qa, qs[j]? = some qa ∧ y = .ref qa := by
          rw [List.getElem?_map] at hy
          obtain ⟨p, a, b⟩ := Option.map_eq_some_iff.mp hy
          exact ⟨p, a, b.symm⟩
        obtain ⟨e, ee, hpe⟩ := prd_at g5 eqa
        have hpe7 := hpe.same s7
        have ein := hprs row (List.mem_of_getElem? hrow) e (List.mem_of_getElem? ee)
        have hg := DGet.t (a := D) (k := keyOf e) hes hpe7
        rw [hv e ein] at hg
        refine ⟨_, rfl, x, CT, dx, _, _, rfl, hx7, T.cl, T.nL, lkTL, _, rfl, D, _, rfl, hg, _, rfl, i, rfl, rfl, by omega, _, _, rfl, rfl, _, DPut.t (k := keyOf e) hes hpe7 (small1000' hl), ?_⟩
        have ep : ((2 : Int) ^ i) = ((2 ^ i : Nat) : Int) := by rw [Int.natCast_pow] <;> rfl
        rw [ep]
        dsimp only
        rw [os_bor]
        refine ⟨_, rfl, fun b o q => ?_, ?_, _, upd_same, ?_, fun e2 he2 => ?_⟩
        · rw [upd_ne (ne_of_none q bD)]
          exact s7 _ _ q
        · rw [upd_ne (Ne.symm hDx)]
          exact hx7
        · rw [putK_len2 (hv e ein)]
          exact hl
        · rw [valV_put, lotI_step rows hrow ee]
          by_cases z : e2 = e
          · subst z
            rw [if_pos rfl, if_pos rfl]
          · rw [if_neg (fun q => z (keyOf_inj q)), if_neg z]
            exact hv e2 he2
      · rintro σ H7 ⟨f6, rfl, s7, hx7, hL7⟩
        rw [List.length_map, hql] at hL7
        refine ⟨_, _, rfl, s7, hx7, ?_⟩
        obtain ⟨es, a, b, c⟩ := hL7
        exact ⟨es, a, b, fun e he => by rw [c e he, lotI_row rows hrow]⟩
    · rintro σ H6 ⟨f5, f6, rfl, s6, hx6, es, a, b, c⟩
      exact k H6 (sGB.trans s6) ⟨dx, pf, z, D, hx6, hzB.same s6, es, a, b, fun e he => by rw [c e he, lotI_end]⟩
end
end Q
set_option Elab.async false
set_option linter.all false
set_option maxRecDepth 100000
set_option maxHeartbeats 2000000
/-! itertools.combinations(list, r), at the library's level -/
namespace XQ
open PySem PySem.Spec
open Sem (wp)
open AutoSeq1 (wpAny_loadPart')
theorem mro_cmb : mroOf (.type "itertools.combinations") = pure [.type "itertools.combinations", .type "object"] := by rw [mroOf_type]; kernel_rfl
theorem lookup_cmb_new : typeLookup (.type "itertools.combinations") "__new__" = pure (some (.builtin "itertools.combinations.__new__")) := by rw [typeLookup_type, builtinLookup_eq_fast]; kernel_rfl
theorem slot_cmb_init : Slot "itertools.combinations" "__init__" "object.__init__" :=
  .of (owner := "object") (n := "__init__") (by rw [typeLookup_type, builtinLookup_eq_fast]; kernel_rfl) (by decide +kernel) (by decide +kernel) (by decide +kernel)
    (by first | exact .inl (by decide +kernel) | exact .inr (by decide +kernel)) (by rw [isSubtype_type]; kernel_rfl)
theorem sub_cmb : isSubtype (.type "itertools.combinations") (.type "itertools.combinations") = pure true := by rw [isSubtype_type]; kernel_rfl
theorem called_cmb : TypeCalled "itertools.combinations" "itertools.combinations.__new__" "object.__init__" :=
  ⟨by decide +kernel, by decide +kernel, ⟨_, _, mro_cmb⟩, madeBy_type mro_cmb lookup_cmb_new (by decide +kernel), by decide +kernel, sub_cmb, slot_cmb_init⟩
theorem typeCall_cmb_2 (a b : Value) : checkTypeCall "itertools.combinations" ⟨[a, b], []⟩ = pure () := by kernel_rfl
theorem newCall_cmb_2 (a b : Value) : checkBuiltinCall "itertools.combinations.__new__" ⟨[.type "itertools.combinations", a, b], []⟩ = pure () := by kernel_rfl
theorem entry_cmb_new : entryFor table "itertools.combinations.__new__" = some Builtin.«itertools.combinations.__new__» := entryFor_of_tree (by kernel_rfl)
theorem slot_cmb_iter : Slot "itertools.combinations" "__iter__" "itertools.combinations.__iter__" :=
  .of (owner := "itertools.combinations") (n := "__iter__") (by rw [typeLookup_type, builtinLookup_eq_fast]; kernel_rfl) (by decide +kernel) (by decide +kernel) (by decide +kernel)
    (by first | exact .inl (by decide +kernel) | exact .inr (by decide +kernel)) sub_cmb
theorem slot_cmb_next : Slot "itertools.combinations" "__next__" "itertools.combinations.__next__" :=
  .of (owner := "itertools.combinations") (n := "__next__") (by rw [typeLookup_type, builtinLookup_eq_fast]; kernel_rfl) (by decide +kernel) (by decide +kernel) (by decide +kernel)
    (by first | exact .inl (by decide +kernel) | exact .inr (by decide +kernel)) sub_cmb
theorem entry_cmb_iter : entryFor table "itertools.combinations.__iter__" = some Builtin.«dict_keyiterator.__iter__» :=
  entryFor_alias (id' := "dict_keyiterator.__iter__") (by kernel_rfl) (by first | rfl | decide +kernel | (unfold String.splitOn; simp +decide [String.splitOnAux])) (by decide +kernel) (by kernel_rfl)
theorem entry_cmb_next : entryFor table "itertools.combinations.__next__" = some Builtin.«itertools.combinations.__next__» := entryFor_of_tree (by kernel_rfl)
theorem owner_cmb : Manifest.owners.lookup (String.ofList ['s', 'n', 'o', 'i', 't', 'a', 'n', 'i', 'b', 'm', 'o', 'c', '.', 's', 'l', 'o', 'o', 't', 'r', 'e', 't', 'i'].reverse) = some Manifest.sig_itertools_combinations := by kernel_rfl
theorem args_cmb_iter (a : Value) : argsOk "itertools.combinations.__iter__" ⟨[a], []⟩ := by
  unfold argsOk; rw [signature?_of (id := "itertools.combinations.__iter__") (n := ['_', '_', 'r', 'e', 't', 'i', '_', '_']) (o := ['s', 'n', 'o', 'i', 't', 'a', 'n', 'i', 'b', 'm', 'o', 'c', '.', 's', 'l', 'o', 'o', 't', 'r', 'e', 't', 'i']) (by kernel_rfl) owner_cmb]; kernel_rfl
theorem args_cmb_next (a : Value) : argsOk "itertools.combinations.__next__" ⟨[a], []⟩ := by
  unfold argsOk; rw [signature?_of (id := "itertools.combinations.__next__") (n := ['_', '_', 't', 'x', 'e', 'n', '_', '_']) (o := ['s', 'n', 'o', 'i', 't', 'a', 'n', 'i', 'b', 'm', 'o', 'c', '.', 's', 'l', 'o', 'o', 't', 'r', 'e', 't', 'i']) (by kernel_rfl) owner_cmb]; kernel_rfl
theorem noDict_cmb : typeHasDict (.type "itertools.combinations") = false := by decide +kernel
def nums (idx : List Nat) : List Value := idx.map fun (i : Nat) => rawInt i
def flds (P : Addr) (st : Int) (old : Value) (idx : List Nat) : Array Value := ([.ref P, rawInt st, old] ++ nums idx).toArray
/-- the object: the pool, how far (0 ahead of the first, 1, 2 at the end), what was handed out last, the places -/
abbrev IsCmb (h : Heap) (it P : Addr) (st : Int) (old : Value) (idx : List Nat) : Prop := h.get? it = some { cls := .type "itertools.combinations", dict := none, data := .fields (flds P st old idx), slots := #[] }
abbrev IsPool (h : Heap) (P : Addr) (its : List Value) : Prop := h.get? P = some { cls := .type "tuple", data := .seq its.toArray }
/-- the model's own step -/
def nextC (n : Nat) (indices : List Nat) : Option (List Nat) :=
  let r := indices.length
  match (List.range r).reverse.find? fun i => indices.getD i 0 != i + n - r with
  | none => none
  | some i => some (indices.take i ++ (List.range (r - i)).map (indices.getD i 0 + 1 + ·))
section
variable {prog : Program} {w : World} {A : Around} {E : Value → Shared → Prop} {s : Shared}
theorem get_nums {it P : Addr} {st : Int} {old : Value} {idx : List Nat} {Q : List Nat → Shared → Prop} (hit : IsCmb s.heap it P st old idx) (h : Q idx s) : wpAny (model prog w) A (Builtin.Itertools.itNumbersFrom (.ref it) 3) Q E s := by
  unfold Builtin.Itertools.itNumbersFrom
  refine wpAny_bind (wpAny_load hit ?_)
  refine wpAny_pure ?_
  have e : ((flds P st old idx).toList.drop 3).map (fun | .int n _ => n.toNat | _ => 0) = idx := by
    unfold flds nums
    show ((nums idx).map _) = idx
    unfold nums
    rw [List.map_map]
    have : ∀ l : List Nat, l.map ((fun v : Value => match v with | .int n _ => n.toNat | _ => 0) ∘ fun (i : Nat) => rawInt i) = l := fun l => by
      induction l with
      | nil => rfl
      | cons a l ih => rw [List.map_cons, ih]; rfl
    exact this idx
  exact e.symm ▸ h
theorem get_state {it P : Addr} {st : Int} {old : Value} {idx : List Nat} {Q : Int → Shared → Prop} (hit : IsCmb s.heap it P st old idx) (h : Q st s) : wpAny (model prog w) A (Builtin.Itertools.itIntField (.ref it) 1) Q E s := by
  unfold Builtin.Itertools.itIntField
  refine wpAny_bind (wpAny_field hit rfl (x := rawInt st) (by simp [flds]) ?_)
  exact wpAny_pure h
theorem get_pool {P : Addr} {its : List Value} {Q : Array Value → Shared → Prop} (hP : IsPool s.heap P its) (h : Q its.toArray s) : wpAny (model prog w) A (Builtin.Itertools.itPoolItems (.ref P)) Q E s := by
  unfold Builtin.Itertools.itPoolItems
  refine wpAny_bind (wpAny_seqItems hP rfl ?_)
  exact wpAny_pure h
theorem set_nums {it P : Addr} {st : Int} {old : Value} {idx next : List Nat} {Q : Unit → Shared → Prop} (hit : IsCmb s.heap it P st old idx) (hl : next.length ≤ 1000)
    (h : ∀ h', IsCmb h' it P st old next → Heap.SameBut it s.heap h' → Q () { s with heap := h' }) : wpAny (model prog w) A (Builtin.Itertools.itSetNumbersFrom (.ref it) 3 next) Q E s := by
  unfold Builtin.Itertools.itSetNumbersFrom
  have e : ((flds P st old idx).extract 0 3 ++ (next.map fun (n : Nat) => rawInt n).toArray) = flds P st old next := by
    unfold flds nums
    simp
  refine wpAny_updateFields hit rfl (h _ ?_ (Heap.SameBut.update ..)) ?_
  · refine (Heap.get?_update_self _ hit rfl).trans ?_
    show some ({ cls := .type "itertools.combinations", dict := none, data := .fields ((flds P st old idx).extract 0 3 ++ (next.map fun (n : Nat) => rawInt n).toArray), slots := #[] } : Obj) = _
    rw [e]
  · rw [e]
    unfold flds nums
    simp
    exact Nat.le_trans hl (by decide)
theorem set_fld {it P : Addr} {st st2 : Int} {old old2 : Value} {idx : List Nat} {k : Nat} {x : Value} {Q : Unit → Shared → Prop} (hit : IsCmb s.heap it P st old idx) (hk : k < 3) (e : (flds P st old idx).setIfInBounds k x = flds P st2 old2 idx)
    (h : ∀ h', IsCmb h' it P st2 old2 idx → Heap.SameBut it s.heap h' → Q () { s with heap := h' }) : wpAny (model prog w) A (setField (.ref it) k x) Q E s := by
  refine wpAny_setField_rec hit (by unfold flds; simp; omega) fun h' hit' sb => h h' ?_ sb
  rw [e] at hit'
  exact hit'
/-- the places are handed out: a new tuple -/
theorem hand {it P : Addr} {old : Value} {idx : List Nat} {its : List Value} {Q : Fin → Shared → Prop} (hit : IsCmb s.heap it P 1 old idx) (hP : IsPool s.heap P its) (hne : P ≠ it) (hl : idx.length ≤ 1000)
    (h : ∀ h', IsCmb h' it P 1 (.ref s.heap.objs.size) idx → IsPool h' s.heap.objs.size (idx.map fun i => its.toArray.getD i .none) → (∀ b o, b ≠ it → s.heap.get? b = some o → h'.get? b = some o) → Q (.done (.ret (.ref s.heap.objs.size))) { s with heap := h' }) :
    wpAny (model prog w) A (do
      let result ← (do
        let items ← Builtin.Itertools.itPoolItems (.ref P)
        newTuple (idx.map fun i => items.getD i .none))
      let before ← field (.ref it) 2
      setField (.ref it) 2 result
      letGo [before] [result]
      ret result) Q E s := by
  refine wpAny_bind (wpAny_bind (get_pool hP (wpAny_newTuple ?_ ?_)))
  · have hlt : it < s.heap.objs.size := Heap.lt_size hit
    have hit1 : IsCmb (s.heap.push { cls := .type "tuple", data := .seq (idx.map fun i => its.toArray.getD i .none).toArray }) it P 1 old idx := Heap.get?_push_of_some _ hit
    refine wpAny_bind (wpAny_field hit1 rfl (x := old) (by simp [flds]) ?_)
    refine wpAny_bind (set_fld (st2 := 1) (old2 := .ref s.heap.objs.size) hit1 (by decide) (by unfold flds; simp) fun h' hit' sb => ?_)
    refine wpAny_bind (wpAny_letGo (wpAny_pure ?_))
    refine h h' hit' ?_ fun b o hb e => sb.extBut _ _ hb (Heap.get?_push_of_some _ e)
    exact sb.extBut _ _ (Nat.ne_of_gt hlt) (Heap.get?_push_size _ rfl)
  · simp
    exact Nat.le_trans hl (by decide)
theorem next_first {it P : Addr} {old : Value} {idx : List Nat} {its : List Value} {Q : Option Value → Shared → Prop} (hit : IsCmb s.heap it P 0 old idx) (hP : IsPool s.heap P its) (hne : P ≠ it) (hl : idx.length ≤ 1000)
    (hQ : ∀ h', IsCmb h' it P 1 (.ref s.heap.objs.size) idx → IsPool h' s.heap.objs.size (idx.map fun i => its.toArray.getD i .none) → (∀ b o, b ≠ it → s.heap.get? b = some o → h'.get? b = some o) → Q (some (.ref s.heap.objs.size)) { s with heap := h' }) :
    wpAny (model prog w) A (pyNext (.ref it)) Q E s := by
  have hT : s.TypeIs (.ref it) "itertools.combinations" := ⟨_, hit, rfl⟩
  unfold pyNext
  refine wpAny_bind (wpAny_attempt (wpAny_callSpecial?_slot (name := Str.ofString "__next__") hT slot_cmb_next (wpAny_call_entry slot_cmb_next hT entry_cmb_next ?_ (args_cmb_next _))))
  show wpAny _ _ (field (.ref it) 0 >>= _) _ _ s
  refine wpAny_bind (wpAny_field hit rfl (x := .ref P) (by simp [flds]) ?_)
  show wpAny _ _ (Builtin.Itertools.itNumbersFrom (.ref it) 3 >>= _) _ _ s
  refine wpAny_bind (get_nums hit ?_)
  show wpAny _ _ (Builtin.Itertools.itIntField (.ref it) 1 >>= _) _ _ s
  refine wpAny_bind (get_state hit ?_)
  show wpAny _ _ (setField (.ref it) 1 (rawInt 1) >>= _) _ _ s
  refine wpAny_bind (set_fld (st2 := 1) (old2 := old) hit (by decide) (by unfold flds; simp) fun h1 hit1 sb1 => ?_)
  have hz : h1.objs.size = s.heap.objs.size := sb1.1
  refine hand (s := { s with heap := h1 }) hit1 (sb1.extBut _ _ hne hP) hne hl fun h' hit' hT' hk => ?_
  refine ⟨_, rfl, wpAny_pure ?_⟩
  simp only [hz] at hit' hT' ⊢
  exact hQ h' hit' hT' fun b o hb e => hk b o hb (sb1.extBut _ _ hb e)
theorem next_later {it P : Addr} {old : Value} {idx next : List Nat} {its : List Value} {Q : Option Value → Shared → Prop} (hit : IsCmb s.heap it P 1 old idx) (hP : IsPool s.heap P its) (hne : P ≠ it) (hl : next.length ≤ 1000) (hn : nextC its.length idx = some next)
    (hQ : ∀ h', IsCmb h' it P 1 (.ref s.heap.objs.size) next → IsPool h' s.heap.objs.size (next.map fun i => its.toArray.getD i .none) → (∀ b o, b ≠ it → s.heap.get? b = some o → h'.get? b = some o) → Q (some (.ref s.heap.objs.size)) { s with heap := h' }) :
    wpAny (model prog w) A (pyNext (.ref it)) Q E s := by
  have hT : s.TypeIs (.ref it) "itertools.combinations" := ⟨_, hit, rfl⟩
  unfold pyNext
  refine wpAny_bind (wpAny_attempt (wpAny_callSpecial?_slot (name := Str.ofString "__next__") hT slot_cmb_next (wpAny_call_entry slot_cmb_next hT entry_cmb_next ?_ (args_cmb_next _))))
  show wpAny _ _ (field (.ref it) 0 >>= _) _ _ s
  refine wpAny_bind (wpAny_field hit rfl (x := .ref P) (by simp [flds]) ?_)
  show wpAny _ _ (Builtin.Itertools.itNumbersFrom (.ref it) 3 >>= _) _ _ s
  refine wpAny_bind (get_nums hit ?_)
  show wpAny _ _ (Builtin.Itertools.itIntField (.ref it) 1 >>= _) _ _ s
  refine wpAny_bind (get_state hit ?_)
  show wpAny _ _ (Builtin.Itertools.itPoolItems (.ref P) >>= _) _ _ s
  refine wpAny_bind (get_pool hP ?_)
  show wpAny _ _ (match nextC its.toArray.size idx with | some next => _ | none => _) _ _ s
  rw [show its.toArray.size = its.length from rfl, hn]
  show wpAny _ _ (Builtin.Itertools.itSetNumbersFrom (.ref it) 3 next >>= _) _ _ s
  refine wpAny_bind (set_nums hit hl fun h1 hit1 sb1 => ?_)
  have hz : h1.objs.size = s.heap.objs.size := sb1.1
  refine hand (s := { s with heap := h1 }) hit1 (sb1.extBut _ _ hne hP) hne hl fun h' hit' hT' hk => ?_
  refine ⟨_, rfl, wpAny_pure ?_⟩
  simp only [hz] at hit' hT' ⊢
  exact hQ h' hit' hT' fun b o hb e => hk b o hb (sb1.extBut _ _ hb e)
theorem next_end {it P : Addr} {old : Value} {idx : List Nat} {its : List Value} {Q : Option Value → Shared → Prop} (hh : A.handled = none) (hit : IsCmb s.heap it P 1 old idx) (hP : IsPool s.heap P its) (hn : nextC its.length idx = none)
    (hQ : ∀ h', Heap.ExtBut it s.heap h' → Q none { s with heap := h' }) : wpAny (model prog w) A (pyNext (.ref it)) Q E s := by
  have hT : s.TypeIs (.ref it) "itertools.combinations" := ⟨_, hit, rfl⟩
  unfold pyNext
  refine wpAny_bind (wpAny_attempt (wpAny_callSpecial?_slot (name := Str.ofString "__next__") hT slot_cmb_next (wpAny_call_entry slot_cmb_next hT entry_cmb_next ?_ (args_cmb_next _))))
  show wpAny _ _ (field (.ref it) 0 >>= _) _ _ s
  refine wpAny_bind (wpAny_field hit rfl (x := .ref P) (by simp [flds]) ?_)
  show wpAny _ _ (Builtin.Itertools.itNumbersFrom (.ref it) 3 >>= _) _ _ s
  refine wpAny_bind (get_nums hit ?_)
  show wpAny _ _ (Builtin.Itertools.itIntField (.ref it) 1 >>= _) _ _ s
  refine wpAny_bind (get_state hit ?_)
  show wpAny _ _ (Builtin.Itertools.itPoolItems (.ref P) >>= _) _ _ s
  refine wpAny_bind (get_pool hP ?_)
  show wpAny _ _ (match nextC its.toArray.size idx with | some next => _ | none => _) _ _ s
  rw [show its.toArray.size = its.length from rfl, hn]
  show wpAny _ _ (setField (.ref it) 1 (rawInt 2) >>= _) _ _ s
  refine wpAny_bind (set_fld (st2 := 2) (old2 := old) hit (by decide) (by unfold flds; simp) fun h1 hit1 sb1 => ?_)
  show wpAny _ _ (newExc (.type "StopIteration") [] >>= _) _ _ _
  refine wpAny_bind ?_
  simp only [newExc, newTuple]
  refine wpAny_bind (wpAny_newObj_type ?_ (by size_fits))
  refine wpAny_bind (m := firstArgMember _ _) (wpAny_of_eq (a := Value.none) (by first | rfl | (simp only [firstArgMember]; rfl)) ?_)
  refine wpAny_newObj_type ?_ (by size_fits)
  simp only [raiseNew]
  refine wpAny_bind (wpAny_handled ?_)
  rw [show A.in1.handled = none from hh]
  refine wpAny_bind (wpAny_pure (wpAny_throw ?_))
  refine wpAny_bind (wpAny_isInstance (T := "StopIteration") (b := true) ⟨_, Heap.get?_push_size _ rfl, rfl⟩ isSubtype_stop ?_)
  exact wpAny_pure (hQ _ ((sb1.extBut.push _).push _))
theorem iter_cmb {it P : Addr} {st : Int} {old : Value} {idx : List Nat} {Q : Value → Shared → Prop} (hit : IsCmb s.heap it P st old idx) (h : Q (.ref it) s) : wpAny (model prog w) A (pyIter (.ref it)) Q E s := by
  have hT : s.TypeIs (.ref it) "itertools.combinations" := ⟨_, hit, rfl⟩
  refine wpAny_pyIter_slot hT slot_cmb_iter (wpAny_call_entry slot_cmb_iter hT entry_cmb_iter ?_ (args_cmb_iter _))
  show wpAny _ _ (ret (.ref it)) _ _ s
  exact wpAny_pure ⟨_, rfl, "itertools.combinations", _, hT, slot_cmb_next.lookup, h⟩
end
end XQ
set_option Elab.async false
set_option linter.all false
set_option maxRecDepth 100000
set_option maxHeartbeats 4000000
namespace XQ
open PySem PySem.Spec
open Sem (wp)
open AutoSeq1 (wpAny_loadPart')
theorem many_no {n : Nat} (h : n ≤ 1000) : ¬ ((Builtin.Itertools.itTooMany (n : Int)) = true) := by
  unfold Builtin.Itertools.itTooMany
  rw [decide_eq_true_eq]
  omega
theorem meets_cmb_new (l : Addr) (o : Obj) (items : Array Value) (n : Nat) (r : Nat) (t : Tok) (hc : o.cls = .type "list") (hd : o.data = .seq items n) (hr : r ≤ items.size) (hs : items.size ≤ 1000) :
    Meets (Builtin.«itertools.combinations.__new__» ⟨[.type "itertools.combinations", .ref l, .int (r : Int) t], []⟩)
      (fun _ R s => s.heap.get? l = some o ∧ ∀ h' : Heap, (∀ b o', s.heap.get? b = some o' → h'.get? b = some o') →
        R (.ok (.ret (.ref (h'.objs.size + 1)))) { s with heap := (h'.push { cls := .type "tuple", data := .seq items }).push { cls := .type "itertools.combinations", dict := none, data := .fields (flds h'.objs.size 0 .none (List.range r)), slots := #[] } }) :=
  .of_wp fun prog w A R s h => by
    obtain ⟨hp, g, dd, tk, os⟩ := s; obtain ⟨ht, h⟩ := h
    have hsub : isSubtype (.type "itertools.combinations") (.type ("itertools." ++ "combinations")) = pure true := by
      rw [show ("itertools." ++ "combinations" : String) = "itertools.combinations" by decide]
      exact sub_cmb
    have hdi := noDict_cmb
    have hsz : items.size ≤ sizeLine := Nat.le_trans hs (by decide)
    have ha : decide ((r : Int) < -(2 ^ 63 : Int)) = false := decide_eq_false (by omega)
    have hb : decide ((r : Int) ≥ (2 ^ 63 : Int)) = false := decide_eq_false (by omega)
    have hT : Shared.TypeIs ⟨hp, g, dd, tk, os⟩ (.ref l) "list" := ⟨o, ht, hc⟩
    repeat (first
      | wp_step
      | simp only [List.head?_cons, Option.some_or, List.getElem?_cons_succ, List.getElem?_cons_zero, List.length_cons, List.length_nil, List.forIn_nil]
      | (refine wpAny_collect_seq (hsz := hsz) l (.inl rfl) ht hc hd fun h' hk => ?_))
    rw [if_neg (by rw [ha, hb]; decide)]
    refine wpAny_pure ?_
    refine wpAny_bind (wpAny_collect_seq (hsz := hsz) l (.inl rfl) ht hc hd fun h' hk => ?_)
    rw [if_neg (show ¬ ((r : Int) < 0) by omega), if_neg (many_no (show r ≤ 1000 by omega))]
    refine wpAny_bind (wpAny_newTuple ?_ (by simpa using hsz))
    refine wpAny_pure ?_
    unfold Builtin.Itertools.itNewRecord
    refine wpAny_bind ?_
    have e0 : ¬ (r > items.toList.length) := by simpa using hr
    dsimp only
    rw [hdi, if_pos (by decide), if_neg (show ¬ ((r : Int).toNat > items.toList.length) by simpa using hr)]
    refine wpAny_newObj_type ?_ ?_
    · refine wpAny_pure ⟨_, rfl, ?_⟩
      have q := h h' hk
      have ez : (h'.push { cls := .type "tuple", data := .seq items }).objs.size = h'.objs.size + 1 := Heap.size_push ..
      simp only [Array.toArray_toList, ez, Int.toNat_natCast]
      exact q
    · refine Nat.le_trans (m := 1003) ?_ (by decide)
      have : r ≤ 1000 := by omega
      simp
      omega
section
variable {prog : Program} {w : World} {A : Around} {E : Value → Shared → Prop} {s : Shared}
theorem call_cmb {l : Addr} {o : Obj} {items : Array Value} {n : Nat} {r : Nat} {t : Tok} {Q : Value → Shared → Prop} (ho : s.heap.get? l = some o) (hc : o.cls = .type "list") (hd : o.data = .seq items n) (hr : r ≤ items.size) (hs : items.size ≤ 1000)
    (h : ∀ h0 h' : Heap, (∀ b o, s.heap.get? b = some o → h0.get? b = some o) → (∀ b o, h0.get? b = some o → h'.get? b = some o) → IsPool h' h0.objs.size items.toList → IsCmb h' (h0.objs.size + 1) h0.objs.size 0 .none (List.range r) → Q (.ref (h0.objs.size + 1)) { s with heap := h' }) :
    wpAny (model prog w) A (call (.type "itertools.combinations") [.ref l, .int (r : Int) t]) Q E s := by
  refine callType_new called_cmb (by decide +kernel) (typeCall_cmb_2 _ _) (newCall_cmb_2 _ _) (fun obj => F.args_object_init_3 obj _ _) entry_cmb_new (meets_cmb_new l o items n r t hc hd hr hs) ⟨ho, fun h' hk => ?_⟩
  have e1 : (h'.push { cls := .type "tuple", data := .seq items }).objs.size = h'.objs.size + 1 := Heap.size_push ..
  have g0 : IsCmb ((h'.push { cls := .type "tuple", data := .seq items }).push { cls := .type "itertools.combinations", dict := none, data := .fields (flds h'.objs.size 0 .none (List.range r)), slots := #[] }) (h'.objs.size + 1) h'.objs.size 0 .none (List.range r) := by
    have := Heap.get?_push_size (h'.push { cls := .type "tuple", data := .seq items }) (o := { cls := .type "itertools.combinations", dict := none, data := .fields (flds h'.objs.size 0 .none (List.range r)), slots := #[] }) rfl
    rw [e1] at this
    exact this
  refine ⟨⟨_, g0, rfl⟩, h h' _ hk (fun b o q => Heap.get?_push_of_some _ (Heap.get?_push_of_some _ q)) ?_ g0⟩
  have q : (h'.push { cls := .type "tuple", data := .seq items }).get? h'.objs.size = some { cls := .type "tuple", data := .seq items } := Heap.get?_push_size h' rfl
  have := Heap.get?_push_of_some { cls := .type "itertools.combinations", dict := none, data := .fields (flds h'.objs.size 0 .none (List.range r)), slots := #[] } q
  simpa using this
end
end XQ
set_option Elab.async false
set_option linter.all false
set_option maxRecDepth 100000
set_option maxHeartbeats 4000000
/-! lots of places, in the sequence in which they are tried: by their numbers; the one behind another one -/
namespace XC
/-- the lots of so many of a list, in its sequence -/
def subs {α : Type} : Nat → List α → List (List α)
  | 0, _ => [[]]
  | _ + 1, [] => []
  | r + 1, x :: xs => (subs r xs).map (x :: ·) ++ subs (r + 1) xs
/-- the lot of numbers below n that comes behind -/
def nextR (n : Nat) : List Nat → Option (List Nat)
  | [] => none
  | a :: as => match nextR n as with
    | some bs => some (a :: bs)
    | none => if a + as.length + 1 < n then some (List.range' (a + 1) (as.length + 1)) else none
/-- each one comes behind the one ahead; behind the last one comes e -/
def RunsTo {α : Type} (f : α → Option α) : List α → Option α → Prop
  | [], _ => True
  | [x], e => f x = e
  | x :: y :: l, e => f x = some y ∧ RunsTo f (y :: l) e
theorem runs_append {α : Type} {f : α → Option α} : ∀ {l m : List α}, RunsTo f l m.head? → RunsTo f m none → RunsTo f (l ++ m) none
  | [], _, _, h => h
  | [x], [], h, _ => h
  | [x], y :: m, h, g => ⟨h, g⟩
  | x :: y :: l, m, h, g => ⟨h.1, runs_append (l := y :: l) h.2 g⟩
theorem runs_map {α β : Type} {f : α → Option α} {g : β → Option β} {c : α → β} {e : Option β} : ∀ {l : List α}, RunsTo f l none → (∀ x ∈ l, ∀ y, f x = some y → g (c x) = some (c y)) → (∀ x ∈ l, f x = none → g (c x) = e) → RunsTo g (l.map c) e
  | [], _, _, _ => True.intro
  | [x], h, _, k => k x List.mem_cons_self h
  | x :: y :: l, h, j, k => ⟨j x List.mem_cons_self y h.1, runs_map (l := y :: l) h.2 (fun z hz => j z (List.mem_cons_of_mem _ hz)) (fun z hz => k z (List.mem_cons_of_mem _ hz))⟩
theorem subs_len {α : Type} : ∀ (r : Nat) (xs : List α), ∀ l ∈ subs r xs, l.length = r
  | 0, _, l, h => by
    rw [subs] at h
    rw [List.mem_singleton.mp h] <;> rfl
  | r + 1, [], l, h => by
    rw [subs] at h
    exact absurd h List.not_mem_nil
  | r + 1, x :: xs, l, h => by
    rw [subs] at h
    rcases List.mem_append.mp h with h | h
    · obtain ⟨m, hm, rfl⟩ := List.mem_map.mp h
      rw [List.length_cons, subs_len r xs m hm]
    · exact subs_len (r + 1) xs l h
theorem subs_head : ∀ (m r lo : Nat), (subs r (List.range' lo m)).head? = if r ≤ m then some (List.range' lo r) else none
  | m, 0, lo => by
    rw [subs, if_pos (Nat.zero_le _)] <;> rfl
  | 0, r + 1, lo => by
    rw [if_neg (by omega)]
    show (subs (r + 1) ([] : List Nat)).head? = none
    rw [subs] <;> rfl
  | m + 1, r + 1, lo => by
    rw [List.range'_succ, subs, List.head?_append, List.head?_map, subs_head m r (lo + 1)]
    by_cases h : r ≤ m
    · rw [if_pos h, if_pos (by omega), List.range'_succ] <;> rfl
    · rw [if_neg h, if_neg (by omega), subs_head m (r + 1) (lo + 1), if_neg (by omega)] <;> rfl
/-- the lots of numbers, one behind the other -/
theorem subs_runs (n : Nat) : ∀ (m r lo : Nat), lo + m = n → RunsTo (nextR n) (subs r (List.range' lo m)) none
  | m, 0, lo, _ => by
    rw [subs]
    exact rfl
  | 0, r + 1, lo, _ => by
    show RunsTo _ (subs (r + 1) ([] : List Nat)) none
    rw [subs]
    exact True.intro
  | m + 1, r + 1, lo, h => by
    rw [List.range'_succ, subs]
    refine runs_append ?_ (subs_runs n m (r + 1) (lo + 1) (by omega))
    rw [subs_head]
    refine runs_map (subs_runs n m r (lo + 1) (by omega)) (fun x _ y hy => ?_) (fun x hx hn => ?_)
    · show nextR n (lo :: x) = some (lo :: y)
      rw [nextR, hy]
    · show nextR n (lo :: x) = _
      rw [nextR, hn, subs_len r _ x hx]
      show (if lo + r + 1 < n then some (List.range' (lo + 1) (r + 1)) else none) = _
      by_cases z : r + 1 ≤ m
      · rw [if_pos z, if_pos (by omega)]
      · rw [if_neg z, if_neg (by omega)]
theorem subs_map {α β : Type} (f : α → β) : ∀ (r : Nat) (xs : List α), subs r (xs.map f) = (subs r xs).map (List.map f)
  | 0, xs => by rw [subs, subs] <;> rfl
  | r + 1, [] => by rw [List.map_nil, subs, subs] <;> rfl
  | r + 1, x :: xs => by
    rw [List.map_cons, subs, subs, subs_map f r xs, subs_map f (r + 1) xs, List.map_append, List.map_map, List.map_map] <;> rfl
/-- where the next number may begin -/
def stOf (lo : Nat) (idx : List Nat) : Nat := match idx.getLast? with
  | none => lo
  | some a => a + 1
/-- each lot with one number more, behind its last one -/
def grow (lo n : Nat) (ls : List (List Nat)) : List (List Nat) := ls.flatMap fun idx => (List.range' (stOf lo idx) (n - stOf lo idx)).map fun k => idx ++ [k]
theorem stOf_cons (lo a : Nat) (y : List Nat) : stOf lo (a :: y) = stOf (a + 1) y := by
  unfold stOf
  cases y with
  | nil => rfl
  | cons b y => rw [List.getLast?_cons_cons]; cases h : (b :: y).getLast? with
    | none => exact absurd (List.getLast?_eq_none_iff.mp h) (by simp)
    | some c => rfl
theorem stOf_any (lo lo2 a : Nat) (y : List Nat) : stOf lo (a :: y) = stOf lo2 (a :: y) := by rw [stOf_cons, stOf_cons]
theorem subs_one : ∀ xs : List Nat, subs 1 xs = xs.map fun k => [k]
  | [] => by rw [subs] <;> rfl
  | x :: xs => by rw [subs, subs_one xs, subs] <;> rfl
theorem grow_subs (n : Nat) : ∀ (m r lo : Nat), lo + m = n → grow lo n (subs r (List.range' lo m)) = subs (r + 1) (List.range' lo m)
  | m, 0, lo, h => by
    rw [subs, subs_one]
    show (List.range' lo (n - lo)).map (fun k => [] ++ [k]) ++ [] = _
    rw [List.append_nil, show n - lo = m by omega] <;> rfl
  | 0, r + 1, lo, _ => by
    show grow lo n (subs (r + 1) ([] : List Nat)) = subs (r + 2) ([] : List Nat)
    rw [subs, subs] <;> rfl
  | m + 1, r + 1, lo, h => by
    have i1 := grow_subs n m r (lo + 1) (by omega)
    have i2 := grow_subs n m (r + 1) (lo + 1) (by omega)
    rw [List.range'_succ]
    show grow lo n (subs (r + 1) (lo :: List.range' (lo + 1) m)) = subs (r + 2) (lo :: List.range' (lo + 1) m)
    rw [subs]
    conv => rhs; rw [subs, ← i1, ← i2]
    unfold grow
    rw [List.flatMap_append, List.flatMap_map, List.map_flatMap]
    congr 1
    · congr 1
      funext y
      rw [stOf_cons, List.map_map] <;> rfl
    · have key : ∀ l : List (List Nat), (∀ y ∈ l, y.length = r + 1) → (l.flatMap fun idx => (List.range' (stOf lo idx) (n - stOf lo idx)).map fun k => idx ++ [k]) = l.flatMap fun idx => (List.range' (stOf (lo + 1) idx) (n - stOf (lo + 1) idx)).map fun k => idx ++ [k] := by
        intro l
        induction l with
        | nil => exact fun _ => rfl
        | cons y l ih =>
          intro hl
          rw [List.flatMap_cons, List.flatMap_cons, ih fun z hz => hl z (List.mem_cons_of_mem _ hz)]
          have hy := hl y List.mem_cons_self
          cases y with
          | nil => cases hy
          | cons a y => rw [stOf_any lo (lo + 1)]
      exact key _ fun y hy => subs_len _ _ y hy
end XC
set_option Elab.async false
set_option linter.all false
set_option maxRecDepth 100000
set_option maxHeartbeats 4000000
/-! for lot in combinations(list, r): each lot a new tuple -/
namespace XQ
open PySem PySem.Spec PyProof.Rows L2
/-- the lots' places, in their sequence -/
abbrev lotsC (n r : Nat) : List (List Nat) := XC.subs r (List.range' 0 n)
def okC (n r : Nat) : Bool := decide ((lotsC n r).getD 0 [] = List.range r) && (decide (0 < (lotsC n r).length) && (List.range (lotsC n r).length).all fun i =>
  decide (nextC n ((lotsC n r).getD i []) = (lotsC n r)[i + 1]?) && (decide (((lotsC n r).getD i []).length ≤ 6 ∧ ((lotsC n r).getD i []).Nodup ∧ ((lotsC n r).getD i []).length = r) && ((lotsC n r).getD i []).all fun k => decide (k < n)))
theorem ok_all : (List.range 7).all (fun n => (List.range (n + 1)).all fun r => okC n r) = true := by decide +kernel
theorem lots_step (n : Nat) (hn : n < 7) (r : Nat) (hr : r ≤ n) : (lotsC n r).getD 0 [] = List.range r ∧ 0 < (lotsC n r).length ∧ ∀ i < (lotsC n r).length, nextC n ((lotsC n r).getD i []) = (lotsC n r)[i + 1]? ∧ (((lotsC n r).getD i []).length ≤ 6 ∧ ((lotsC n r).getD i []).Nodup ∧ ((lotsC n r).getD i []).length = r) ∧ ∀ k ∈ (lotsC n r).getD i [], k < n := by
  have h := List.all_eq_true.mp (List.all_eq_true.mp ok_all n (List.mem_range.mpr hn)) r (List.mem_range.mpr (by omega))
  unfold okC at h
  rw [Bool.and_eq_true, Bool.and_eq_true] at h
  obtain ⟨h1, h2, h3⟩ := h
  refine ⟨of_decide_eq_true h1, of_decide_eq_true h2, fun i hi => ?_⟩
  have q := List.all_eq_true.mp h3 i (List.mem_range.mpr hi)
  rw [Bool.and_eq_true, Bool.and_eq_true] at q
  obtain ⟨q1, q2, q3⟩ := q
  exact ⟨of_decide_eq_true q1, of_decide_eq_true q2, fun k hk => of_decide_eq_true (List.all_eq_true.mp q3 k hk)⟩
/-- the list at its start, so many of its items in each lot -/
def Itcm (xs : List V) (r : Nat) : It :=
  ⟨fun i _ => i < (lotsC xs.length r).length, fun i H v H' => ∃ (T : Addr) (o : Obj), v = .ref T ∧ H T = none ∧ o.dict = none ∧ H' = upd H T (.frz o (.tup (((lotsC xs.length r).getD i []).map fun k => xs.getD k .non))), fun i _ => (lotsC xs.length r).length ≤ i⟩
def CmbAt (it P : Addr) (its : List Value) (n r : Nat) (i : Nat) (h : Heap) : Prop :=
  IsPool h P its ∧ ((i = 0 ∧ IsCmb h it P 0 .none (List.range r)) ∨ ∃ (old : Value) (j : Nat), i = j + 1 ∧ j < (lotsC n r).length ∧ IsCmb h it P 1 old ((lotsC n r).getD j []))
theorem vals_get {xs : List V} {its : List Value} (rv : Vals xs its) {k : Nat} (hk : k < xs.length) : RelV (xs.getD k .non) (its.toArray.getD k .none) := by
  obtain ⟨u, hu, ru⟩ := rv.get (List.getElem?_eq_getElem hk)
  have e1 : xs.getD k .non = xs[k] := by rw [List.getD_eq_getElem?_getD, List.getElem?_eq_getElem hk] <;> rfl
  have e2 : its.toArray.getD k .none = u := by
    have hl := rv.length
    have hk2 : k < its.length := by omega
    have : its[k]? = some u := by simpa using hu
    simp [Array.getD, hk2]
    rw [List.getElem?_eq_getElem hk2] at this
    exact Option.some.inj this
  rw [e1, e2]
  exact ru
theorem vals_map {xs : List V} {its : List Value} (rv : Vals xs its) : ∀ {l : List Nat}, (∀ k ∈ l, k < xs.length) → Vals (l.map fun k => xs.getD k .non) (l.map fun k => its.toArray.getD k .none)
  | [], _ => .nil
  | k :: l, h => .cons (vals_get rv (h k List.mem_cons_self)) (vals_map rv fun j hj => h j (List.mem_cons_of_mem _ hj))
theorem turn_cmb {P : Program} {w : World} {K : PySem.W.Frag} {tg : Expr} {it PP : Addr} {xs : List V} {its : List Value} {r : Nat} (rv : Vals xs its) (hn : xs.length < 7) (hr : r ≤ xs.length) (hne : PP ≠ it) :
    Turn P w K tg (Itcm xs r) [it, PP] it (CmbAt it PP its xs.length r) where
  mem := by simp
  obj := fun i h st b hb => by
    obtain ⟨hP, st⟩ := st
    have e' : b = it ∨ b = PP := by simpa using hb
    rcases e' with rfl | rfl
    · rcases st with ⟨_, h1⟩ | ⟨_, _, _, _, h1⟩
      · exact ⟨_, h1, fun v q => nomatch q⟩
      · exact ⟨_, h1, fun v q => nomatch q⟩
    · exact ⟨_, hP, fun v q => nomatch q⟩
  keep := fun i h h' st k => by
    obtain ⟨hP, st⟩ := st
    refine ⟨k PP (by simp) _ hP, ?_⟩
    rcases st with ⟨e, h1⟩ | ⟨old, j, e, hj, h1⟩
    · exact .inl ⟨e, k it (by simp) _ h1⟩
    · exact .inr ⟨old, j, e, hj, k it (by simp) _ h1⟩
  item := by
    intro X hP hw hK hc i pins s σ H E I hf st hg
    subst hP hw hK
    obtain ⟨hP, st⟩ := st
    have hg : i < (lotsC xs.length r).length := hg
    obtain ⟨g0, gl, gs⟩ := lots_step xs.length hn r hr
    obtain ⟨_, ⟨gi2, _, _⟩, gi3⟩ := gs i hg
    have hlen : its.length = xs.length := rv.length.symm
    have fin : ∀ h' : Heap, IsCmb h' it PP 1 (.ref s.heap.objs.size) ((lotsC xs.length r).getD i []) → IsPool h' s.heap.objs.size (((lotsC xs.length r).getD i []).map fun k => its.toArray.getD k .none) → (∀ b o, b ≠ it → s.heap.get? b = some o → h'.get? b = some o) →
        ∃ u, some (Value.ref s.heap.objs.size) = some u ∧ wpAny (model X.prog X.w) X.A (letOwnedTupleGo tg (.ref it) u) (fun _ s2 => ∃ x H', Inv X pins σ H' s2 ∧ RelV x u ∧ (Itcm xs r).yld i H x H' ∧ CmbAt it PP its xs.length r (i + 1) s2.heap ∧ ∀ b ∈ [it, PP], H' b = none) E { s with heap := h' } := by
      intro h' hit' hT hk
      have hPl : PP < s.heap.objs.size := Heap.lt_size hP
      have hil : it < s.heap.objs.size := by
        rcases st with ⟨_, h1⟩ | ⟨_, _, _, _, h1⟩
        · exact Heap.lt_size h1
        · exact Heap.lt_size h1
      have hP' := hk _ _ hne hP
      have new : ∀ o : Obj, h'.get? s.heap.objs.size = some o → o = { cls := .type "tuple", data := .seq (((lotsC xs.length r).getD i []).map fun k => its.toArray.getD k .none).toArray } → ObjOk X.prog X.w (upd H s.heap.objs.size (.frz o (.tup (((lotsC xs.length r).getD i []).map fun k => xs.getD k .non)))) h' s.heap.objs.size (.frz o (.tup (((lotsC xs.length r).getD i []).map fun k => xs.getD k .non))) := fun o ho eo =>
        ⟨ho, by rw [List.length_map]; exact Nat.le_trans gi2 (by decide), _, vals_map rv gi3, ⟨_, hT, rfl, _, rfl⟩⟩
      have I1 : Inv X pins σ (upd H s.heap.objs.size (.frz _ (.tup (((lotsC xs.length r).getD i []).map fun k => xs.getD k .non)))) { s with heap := h' } :=
        I.turnedNew (t' := s.toks) (ch := [it, PP]) (fun b ob hb q => hk b ob (fun z => hb (by simp [z])) q) hf (Nat.le_refl _) (new _ hT rfl)
      refine ⟨_, rfl, go_of (s := { s with heap := h' }) (n := "itertools.combinations") hit' rfl rfl (by decide) ⟨.ref s.heap.objs.size, _, I1, rfl, ⟨_, _, rfl, I.hok.fresh (Nat.le_refl _), rfl, rfl⟩, ⟨hP', .inr ⟨_, i, rfl, hg, hit'⟩⟩, fun b hb => ?_⟩⟩
      have hb' : b < s.heap.objs.size := by
        have e' : b = it ∨ b = PP := by simpa using hb
        rcases e' with rfl | rfl
        · exact hil
        · exact hPl
      rw [upd_ne (Nat.ne_of_lt hb')]
      exact (hf b hb).1
    rcases st with ⟨rfl, h1⟩ | ⟨old, j, rfl, hj, h1⟩
    · rw [← g0] at h1
      exact next_first h1 hP hne (Nat.le_trans gi2 (by decide)) fun h' a b c => fin h' a b c
    · obtain ⟨gj, _, _⟩ := gs j hj
      refine next_later h1 hP hne (next := (lotsC xs.length r).getD (j + 1) []) (Nat.le_trans gi2 (by decide)) ?_ fun h' a b c => fin h' a b c
      rw [hlen, gj, List.getElem?_eq_getElem hg, List.getD_eq_getElem?_getD, List.getElem?_eq_getElem hg] <;> rfl
  done := by
    intro X hP hw hK hc i pins s σ H E I hf st hg
    subst hP hw hK
    obtain ⟨hP, st⟩ := st
    have hg : (lotsC xs.length r).length ≤ i := hg
    obtain ⟨g0, gl, gs⟩ := lots_step xs.length hn r hr
    obtain ⟨f0, f1, f2, f3, f4, f5⟩ := hf it (by simp)
    have hlen : its.length = xs.length := rv.length.symm
    rcases st with ⟨rfl, h1⟩ | ⟨old, j, rfl, hj, h1⟩
    · omega
    · obtain ⟨gj, _, _⟩ := gs j hj
      exact next_end (I.ok.hd hc) h1 hP (by rw [hlen, gj, List.getElem?_eq_none hg]) fun h' eb => ⟨rfl, I.turned (t' := s.toks) (fun b ob hb e => eb b ob hb e) f0 f1 f3 f4 f5⟩
  self := fun A i s Q E st h => by
    obtain ⟨_, st⟩ := st
    rcases st with ⟨_, h1⟩ | ⟨_, _, _, _, h1⟩
    · exact iter_cmb h1 h
    · exact iter_cmb h1 h
def iCmb (K : PySem.W.Frag) (ta : TA) : TI := fun σ H R => ta σ H fun vs H1 => ∃ (a : Addr) (r : Nat) (xs : List V), vs = [.ref a, .int (r : Int)] ∧ SqL K H1 a xs ∧ xs.length < 7 ∧ r ≤ xs.length ∧ R (Itcm xs r) H1
theorem pi_cmb {X : Cx} {tg e e2 : Expr} {ta : TA} {p pos : Pos} (hg : Gl X "combinations") (hm : X.mg "combinations" = some (.type "itertools.combinations")) (ha : PA X [e, e2] ta)
    (hs : starEach [e, e2] X.env = (false, eval e X.env) :: starEach [e2] X.env := by rfl) (hpl : (backTo pos (starEach [e2] X.env)).any (·.1) = false := by rfl) :
    PI X tg (.Call (.Name "combinations" p) [e, e2] [] pos) (iCmb X.K ta) := by
  refine ⟨fun pins s σ H R I h => ?_⟩
  refine Call_ (ld_glob I hg hm (PyProof.Rows.callWith_type1 (thn (ha.run pos pins s σ H _ I h) fun us s1 ⟨vs, H1, I1, r1, q1⟩ => ?_) hs hpl))
  obtain ⟨a, r, xs, ex, hq, hn, hr, q⟩ := q1
  subst ex
  cases r1 with
  | cons ra rr =>
    cases rr with
    | cons rb rr =>
      cases rr
      cases ra
      obtain ⟨t, rfl⟩ := rb
      obtain ⟨its, rv, ⟨o, n, ho, hc, hdn, hd⟩, hz⟩ := I1.list hq
      have hl := rv.length
      refine call_cmb ho hc hd (by simp; omega) (by simp; omega) fun h0 h' k0 k1 hP hit => iter_cmb hit ?_
      have I0 : Inv X pins σ H1 { s1 with heap := h0 } := I1.kept (t' := s1.toks) k0
      have I2 : Inv X pins σ H1 { s1 with heap := h' } := I0.kept (t' := s1.toks) k1
      have hP : IsPool h' h0.objs.size its := by simpa using hP
      refine ⟨h0.objs.size + 1, [h0.objs.size + 1, h0.objs.size], _, _, H1, rfl, I2, turn_cmb (PP := h0.objs.size) rv hn hr (Nat.ne_of_lt (Nat.lt_succ_self _)), ⟨hP, .inl ⟨rfl, hit⟩⟩, fun b hb => ?_, q⟩
      have hle : h0.objs.size ≤ b := by
        have e' : b = h0.objs.size + 1 ∨ b = h0.objs.size := by simpa using hb
        rcases e' with rfl | rfl
        · exact Nat.le_succ _
        · exact Nat.le_refl _
      exact I0.fpOk (s := { s1 with heap := h0 }) hle (I0.hok.fresh hle)
/-- the turns of such a loop -/
theorem for_cmb {xs : List V} {r : Nat} {g : TG} {tb : TS} {D : Ends} {σ : L2.St} {H : Hp} (Pv : Nat → L2.St → Hp → Prop) (h0 : Pv 0 σ H)
    (hs : ∀ i σ H, i < (lotsC xs.length r).length → Pv i σ H → ∀ (T : Addr) (o : Obj), H T = none → o.dict = none → g (.ref T) σ (upd H T (.frz o (.tup (((lotsC xs.length r).getD i []).map fun k => xs.getD k .non)))) fun σ2 H2 => tb { D with nx := Pv (i + 1), ct := Pv (i + 1), bk := D.nx } σ2 H2)
    (hd : ∀ σ H, Pv (lotsC xs.length r).length σ H → D.nx σ H) :
    ∃ W : Nat → Nat → L2.St → Hp → Prop, (∃ m, W 0 m σ H) ∧ ∀ i m σ H, W i m σ H →
      ((Itcm xs r).stop i H ∧ D.nx σ H) ∨ ((Itcm xs r).go i H ∧ ∃ N : L2.St → Hp → Prop, (∀ σ' H', N σ' H' → ∃ m', m' < m ∧ W (i + 1) m' σ' H') ∧ ∀ x H', (Itcm xs r).yld i H x H' → g x σ H' fun σ2 H2 => tb { D with nx := N, ct := N, bk := D.nx } σ2 H2) := by
  refine ⟨fun i m σ H => m = (lotsC xs.length r).length - i ∧ i ≤ (lotsC xs.length r).length ∧ Pv i σ H, ⟨_, rfl, Nat.zero_le _, h0⟩, ?_⟩
  rintro i m σ H ⟨rfl, hi, p⟩
  by_cases hlt : i < (lotsC xs.length r).length
  · refine .inr ⟨hlt, Pv (i + 1), fun σ' H' p' => ⟨(lotsC xs.length r).length - (i + 1), by omega, rfl, hlt, p'⟩, fun x H' y => ?_⟩
    obtain ⟨T, o, rfl, hT, od, rfl⟩ := y
    exact hs i σ H hlt p T o hT od
  · have e : i = (lotsC xs.length r).length := by omega
    subst e
    exact .inl ⟨Nat.le_refl _, hd σ H p⟩
end XQ
set_option Elab.async false
set_option linter.all false
set_option maxRecDepth 100000
set_option maxHeartbeats 4000000
/-! ### clash: the mathematics -/
namespace Q
open PySem L2 XD
/-! the mathematics -/
def lotAt (s : List Pr) (idx : List Nat) : List Pr := idx.map fun k => s.getD k d0
def lotsR (s : List Pr) (r : Nat) : List (List Pr) := (XQ.lotsC s.length r).map (lotAt s)
def lotsUp (s : List Pr) (n : Nat) : List (List Pr) := (List.range n).flatMap (lotsR s)
def noFill (rs : List (List Pr)) (t : Tbl) (lot : List Pr) : Bool := (fills rs lot t).isEmpty
def clashOf (rs : List (List Pr)) (f : List Pr) (t : Tbl) : Option (List Pr) := if (fills rs f t).isEmpty = true then some (((lotsUp (sorted t f) (sorted t f).length).find? (noFill rs t)).getD (sorted t f)) else none
def clashD : Option (List Pr) → PyData
  | none => .none
  | some l => ruleD l
theorem sorted_sub (f : List Pr) : ∀ t : Tbl, ((sorted t f).map (·.1)).Sublist (t.map (·.1))
  | [] => List.Sublist.slnil
  | e :: t => by
    have ih := sorted_sub f t
    unfold sorted at ih ⊢
    rw [List.filterMap_cons, List.map_cons]
    cases h : pick e.1 f with
    | none => exact .cons _ ih
    | some w => exact .cons₂ _ ih
theorem sorted_in {f : List Pr} {t : Tbl} {e : Pr} (h : e ∈ sorted t f) : e ∈ f := by
  unfold sorted at h
  obtain ⟨a, ha, he⟩ := List.mem_filterMap.mp h
  cases q : pick a.1 f with
  | none => rw [q] at he; cases he
  | some w =>
    rw [q] at he
    cases he
    have : ∀ {r : List Pr}, pick a.1 r = some w → (a.1, w) ∈ r := by
      intro r
      induction r with
      | nil => exact fun z => by cases z
      | cons x r ih =>
        obtain ⟨m, u⟩ := x
        intro z
        unfold pick at z
        by_cases e : m = a.1
        · rw [if_pos e] at z
          cases z
          rw [e]
          exact List.mem_cons_self
        · rw [if_neg e] at z
          exact List.mem_cons_of_mem _ (ih z)
    exact this q
/-- pairs that are facts of the form -/
structure Fcts (t : Tbl) (l : List Pr) : Prop where
  nd : (l.map (·.1)).Nodup
  hi : l.length ≤ t.length
  of : ∀ e ∈ l, ∃ ws, (e.1, ws) ∈ t ∧ e.2 ∈ ws
theorem fcts_sorted {t : Tbl} {d : PyData} (nd : (t.map (·.1)).Nodup) (h : areFacts t d = true) : Fcts t (sorted t (factsOf d)) := by
  refine ⟨(sorted_sub _ t).nodup nd, sorted_len, fun e he => ?_⟩
  have hm := sorted_in he
  cases er : rowOf d with
  | none =>
    unfold areFacts at h
    rw [er] at h
    cases h
  | some fs =>
    have g := (facts_go er h).2
    have ef : factsOf d = fs.map factOf := by
      unfold factsOf
      rw [er]
    rw [ef] at hm
    have key : ∀ {fs : List PyData} {seen : List Str}, goFacts t seen fs = true → ∀ e ∈ fs.map factOf, ∃ ws, look e.1 t = some ws ∧ e.2 ∈ ws := by
      intro fs
      induction fs with
      | nil => exact fun _ e he => absurd he List.not_mem_nil
      | cons f fs ih =>
        intro seen g e he
        obtain ⟨n, w, ws, e1, e2, e3, _, e5⟩ := go_cons g
        rcases List.mem_cons.mp he with rfl | he
        · have ef : factOf f = (n, w) := by
            unfold factOf
            rw [e1]
          rw [ef]
          exact ⟨ws, e2, e3⟩
        · exact ih e5 e he
    obtain ⟨ws, h1, h2⟩ := key g e hm
    exact ⟨ws, look_mem h1, h2⟩
theorem fcts_lot {t : Tbl} {s : List Pr} (F : Fcts t s) {idx : List Nat} (hn : idx.Nodup) (hi : ∀ k ∈ idx, k < s.length) (hl : idx.length ≤ s.length) : Fcts t (lotAt s idx) := by
  have g : ∀ {k : Nat}, (h : k < s.length) → s.getD k d0 = s[k] := fun h => by rw [List.getD_eq_getElem?_getD, List.getElem?_eq_getElem h] <;> rfl
  refine ⟨?_, by unfold lotAt; rw [List.length_map]; exact Nat.le_trans hl F.hi, fun e he => ?_⟩
  · unfold lotAt
    rw [List.map_map]
    unfold List.Nodup
    rw [List.pairwise_map]
    refine List.Pairwise.imp_of_mem (fun {a b} ha hb ne z => ne ?_) hn
    have z : (s.getD a d0).1 = (s.getD b d0).1 := z
    rw [g (hi a ha), g (hi b hb)] at z
    have h1 : (s.map (·.1))[a]'(by rw [List.length_map]; exact hi a ha) = (s.map (·.1))[b]'(by rw [List.length_map]; exact hi b hb) := by rw [List.getElem_map, List.getElem_map, z]
    exact (List.getElem_inj F.nd).mp h1
  · obtain ⟨k, hk, rfl⟩ := List.mem_map.mp he
    rw [g (hi k hk)]
    exact F.of _ (List.getElem_mem _)
theorem pairs_of : ∀ l : List Pr, Paired (fun g (e : Pr) => pairOf g = some (.str e.1, .str e.2)) (l.map fun e => .tuple [.str e.1, .str e.2]) l
  | [] => .nil
  | _ :: l => .cons rfl (pairs_of l)
theorem facts_rule {t : Tbl} {rs : List (List Pr)} {l : List Pr} (O : FormOk t rs) (F : Fcts t l) : areFacts t (ruleD l) = true ∧ factsOf (ruleD l) = l ∧ FOk (ruleD l) := by
  have hp := pairs_of l
  refine ⟨?_, ?_, fun fs ef f hf a b ep => ?_⟩
  · show (decide ((l.map fun e => PyData.tuple [.str e.1, .str e.2]).length ≤ t.length) && goFacts t [] (l.map fun e => .tuple [.str e.1, .str e.2])) = true
    rw [decide_eq_true (by rw [List.length_map]; exact F.hi), go_of O.nd hp F.nd (fun _ _ z => by cases z) F.of] <;> rfl
  · show (l.map fun e => PyData.tuple [.str e.1, .str e.2]).map factOf = l
    rw [List.map_map]
    conv => rhs; rw [← List.map_id l]
    rfl
  · cases ef
    obtain ⟨e, he, rfl⟩ := List.mem_map.mp hf
    cases ep
    obtain ⟨ws, h2, h3⟩ := F.of e he
    exact str_shaped ((O.ts _ h2).2 _ h3)
def spClash (K : PySem.W.Frag) (C CV : Addr) : Sp := fun vs H Q E => ∃ (x pf pr : Addr) (v : V) (t : Tbl) (rs : List (List Pr)) (d : PyData), vs = [.ref x, v] ∧ Ask K C H x v pf pr t rs d ∧ t.length ≤ 6 ∧ (areFacts t d = false → badAt CV H E) ∧
  (areFacts t d = true → ∀ r H', Same H H' → Dp K H' r (clashD (clashOf rs (factsOf d) t)) → Q r H')
theorem r62a (n : Nat) : -(2 ^ 62 : Int) ≤ (n : Int) := by
  have : -(2 ^ 62 : Int) ≤ 0 := by decide
  omega
theorem r62b {n : Nat} (h : n ≤ 1000) : (n : Int) < 2 ^ 62 := by
  have : (1000 : Int) < 2 ^ 62 := by decide
  omega
theorem find_none_snoc {α : Type} {l : List α} {x : α} {p : α → Bool} (h : l.find? p = none) (hx : p x = false) : (l ++ [x]).find? p = none := by
  rw [List.find?_append, h, Option.none_or, List.find?_cons_of_neg (by rw [hx]; exact Bool.false_ne_true)] <;> rfl
section
variable {K : PySem.W.Frag}
/-- the pairs that a lot of a list's items is -/
theorem lot_at {H : Hp} {qs : List Addr} {s : List Pr} (hq : Paired (fun q (e : Pr) => SqT K H q [.str e.1, .str e.2]) qs s) : ∀ {idx : List Nat}, (∀ k ∈ idx, k < s.length) →
    (idx.map fun k => (qs.map V.ref).getD k .non) = (idx.map fun k => qs.getD k 0).map V.ref ∧ Paired (fun q (e : Pr) => SqT K H q [.str e.1, .str e.2]) (idx.map fun k => qs.getD k 0) (lotAt s idx)
  | [], _ => ⟨rfl, .nil⟩
  | k :: idx, h => by
    obtain ⟨i1, i2⟩ := lot_at hq (idx := idx) fun j hj => h j (List.mem_cons_of_mem _ hj)
    have hk := h k List.mem_cons_self
    have hl := prd_len hq
    have e1 : qs[k]? = some (qs[k]'(by omega)) := List.getElem?_eq_getElem (by omega)
    obtain ⟨p, e2, h2⟩ := prd_at hq e1
    refine ⟨?_, .cons ?_ i2⟩
    · rw [List.map_cons, List.map_cons, List.map_cons, i1]
      congr 1
      rw [List.getD_eq_getElem?_getD, List.getElem?_map, e1, getD_of e1] <;> rfl
    · show SqT K H (qs.getD k 0) [.str (s.getD k d0).1, .str (s.getD k d0).2]
      rw [getD_of e1, getD_of e2]
      exact h2
end
end Q
set_option Elab.async false
set_option linter.all false
set_option maxRecDepth 100000
set_option maxHeartbeats 4000000
/-! ### Table.fitting, Table.clash -/
namespace Q
open PySem L2 XD
def noT (rows : List (List Pr)) (lot : List Pr) : Bool := (rows.filter (within lot)).isEmpty
def clashT (rows : List (List Pr)) (sq : List Pr) : Option (List Pr) := if noT rows sq = true then some (((lotsUp sq sq.length).find? (noT rows)).getD sq) else none
theorem lot_tru (rows : List (List Pr)) (f : List Pr) : (((lotOf rows f : Nat) : Int) != 0) = !noT rows f := by
  unfold noT
  rw [← lot_zero]
  by_cases z : lotOf rows f = 0
  · rw [z, decide_eq_true rfl] <;> rfl
  · rw [decide_eq_false z]
    have : ((lotOf rows f : Nat) : Int) ≠ 0 := by omega
    simp [z]
def spFit (K : PySem.W.Frag) (C : Addr) : Sp := fun vs H Q _ => ∃ (x p : Addr) (t : Tbl) (rows : List (List Pr)) (l : List Pr), vs = [.ref x, .ref p] ∧ TblAt K C H x t rows ∧ LotAt K H p l ∧ (∀ e ∈ l, e ∈ pairsT t) ∧ rows.length ≤ 1000 ∧ ∀ H', Same H H' → Q (.int (lotOf rows l : Nat)) H'
def spTClash (K : PySem.W.Frag) (C : Addr) : Sp := fun vs H Q _ => ∃ (x p : Addr) (t : Tbl) (rows : List (List Pr)) (sq : List Pr), vs = [.ref x, .ref p] ∧ TblAt K C H x t rows ∧ LotAt K H p sq ∧ (∀ e ∈ sq, e ∈ pairsT t) ∧ sq.length ≤ 6 ∧ rows.length ≤ 1000 ∧
  ∀ r H', Same H H' → Dp K H' r (clashD (clashT rows sq)) → Q r H'
abbrev nTF : List Str := ["self", "facts", "lot", "name", "value"]
abbrev nTC : List Str := ["self", "facts", "pairs", "size", "lot"]
theorem noFitting {f z D : Addr} : List.lookup ("fitting" : Str) (tbl3 f z D) = none := lkTno (by decide +kernel) (by decide +kernel) (by decide +kernel)
theorem noClash {f z D : Addr} : List.lookup ("clash" : Str) (tbl3 f z D) = none := lkTno (by decide +kernel) (by decide +kernel) (by decide +kernel)
section
variable {P : Program} {w : World} {K : PySem.W.Frag} {mg : Str → Option Value} {base : Heap}
theorem scTF : FnScope nTF ["self", "facts"] (defScope sTblFitting) := ⟨rfl, rfl, rfl, by decide +kernel, rfl, by decide +kernel, by decide +kernel⟩
theorem scTC : FnScope nTC ["self", "facts"] (defScope sTblClash) := ⟨rfl, rfl, rfl, by decide +kernel, rfl, by decide +kernel, by decide +kernel⟩
theorem ok_tfit {f C : Addr} {fd : FuncData} (F : Fun K "fitting" "Table.fitting" sTblFitting f fd) (T : Tc K mg C) (Tn : mg "len" = none) : FnOk P w K mg base CX0 1 f fd ["self", "facts"] (spFit K C) := by
  refine F.ok scTF (fun vs H Q E h => ?_) (fun cdv A outer s H vs Q E hr h => ?_)
  · obtain ⟨x, p, t, rows, l, rfl, _⟩ := h
    rfl
  have hu1 : (A.deeper (PyProof.Rows.envOfC "Table.fitting" (defScope sTblFitting) s.heap.objs.size f cdv)).units + 1 < cLine := hu_of hr
  refine ⟨_, pss_cons (ps_set (i := 2) scTF.nd rfl (.inl rfl) (pe_op op_sub (pe_op op_oneShl pe_int (pe_callB call_len_seq rfl Tn PySem.boot_len (pa_cons (pe_fld (pv 0) rfl) pa_nil))) pe_int))
    (pss_cons (ps_for PassesOwn.never rfl (pi_row (pv 1)) (pg_row rfl (pgs_cons (pg_name (i := 3) scTF.nd rfl (.inl rfl)) (pgs_cons (pg_name (i := 4) scTF.nd rfl (.inl rfl)) pgs_nil)))
      (pss_one (ps_set (i := 2) scTF.nd rfl (.inl rfl) (pe_op op_and (pv 2) (pe_dget hu1 (pe_fld (pv 0) rfl) (pe_tup (pa_cons (pv 3) (pa_cons (pv 4) pa_nil))) (fun _ _ => rfl))))))
    (pss_one (ps_ret (pv 2)))), ?_⟩
  obtain ⟨x, p, t, rows, l, rfl, ⟨dx, pf, z, D, hx, hz, es, hes, _, hv⟩, ⟨qs, hp, hqs⟩, hin, hn, k⟩ := h
  obtain ⟨ws, hws, hwr⟩ := hz
  have hwl := prd_len hwr
  refine ⟨_, rfl, x, C, dx, _, _, rfl, hx, T.cl, T.nR, lkTR, z, ws, rfl, .inr hws, ws.length, rfl, rfl, by omega, _, _, rfl, rfl, ?_⟩
  have e0 : ((2 : Int) ^ ws.length - 1) = ((lotOf rows [] : Nat) : Int) := by
    rw [lot_nil, hwl, Int.natCast_sub (Nat.pow_pos (by decide)), Int.natCast_pow] <;> rfl
  dsimp only
  rw [e0]
  have hql := prd_len hqs
  refine for_row (ys := qs.map V.ref) (H0 := H) (fun j σ H' => ∃ f3 f4 : Option V, σ = [some (.ref x), some (.ref p), some (.int (lotOf rows (l.take j) : Nat)), f3, f4] ∧ Same H H') (fun Q' q => ⟨_, rfl, q⟩) (.inr hp) ⟨none, none, rfl, Same.refl _⟩ (fun j σ H' h => by obtain ⟨_, _, _, h⟩ := h; exact h) ?_ ?_
  · rintro j y σ H1 hj ⟨f3, f4, rfl, s1⟩ hy
    obtain ⟨q, eq_, rfl⟩ : ∃ q, qs[j]? = some q ∧ y = .ref q := by
      rw [List.getElem?_map] at hy
      obtain ⟨p, a, b⟩ := Option.map_eq_some_iff.mp hy
      exact ⟨p, a, b.symm⟩
    obtain ⟨e, ee, hq⟩ := prd_at hqs eq_
    have ein := hin e (List.mem_of_getElem? ee)
    refine .inl ⟨q, _, rfl, seqT_same s1 hq, rfl, .str e.1, _, rfl, .str e.2, [], rfl, rfl, ?_⟩
    refine ⟨_, rfl, _, rfl, x, C, dx, _, _, rfl, s1 _ _ hx, T.cl, T.nL, lkTL, _, rfl, _, rfl, by show 2 ≤ sizeLine; decide, fun b hb => ?_⟩
    have sb := new_same hb (.tup [V.str e.1, V.str e.2])
    have hg := DGet.t (a := D) (b := b) (k := keyOf e) (sb _ _ (s1 _ _ hes)) upd_same
    rw [hv e ein] at hg
    refine ⟨D, _, rfl, hg, _, _, rfl, rfl, ?_⟩
    dsimp only
    rw [PySem.W.os_band, ← lot_snoc, ← take_one ee]
    exact ⟨_, _, rfl, s1.trans sb⟩
  · rintro σ H1 ⟨f3, f4, rfl, s1⟩
    rw [List.length_map, hql, List.take_length]
    exact ⟨_, rfl, k _ s1⟩
theorem ok_tclash {f fF C : Addr} {fd fdF : FuncData} (F : Fun K "clash" "Table.clash" sTblClash f fd) (T : Tc K mg C) (Tr : mg "range" = none) (Tn : mg "len" = none) (Tl : mg "list" = none) (Tt : mg "tuple" = none) (Tc_ : mg "combinations" = some (.type "itertools.combinations"))
    (GF : FnOk P w K mg base CX0 1 fF fdF ["self", "facts"] (spFit K C)) (bF : Binds K fdF ["self", "facts"] []) (mF : Meth K C "fitting" fF) : FnOk P w K mg base CX0 2 f fd ["self", "facts"] (spTClash K C) := by
  refine F.ok scTC (fun vs H Q E h => ?_) (fun cdv A outer s H vs Q E hr h => ?_)
  · obtain ⟨x, p, t, rows, sq, rfl, _⟩ := h
    rfl
  have vl_ : PySem.bootBuiltins "list" = some (.type "list") := by decide +kernel
  have vt_ : PySem.bootBuiltins "tuple" = some (.type "tuple") := by decide +kernel
  refine ⟨_, pss_cons (ps_if (pt_truth (pe_meth (pv 0) T.cl mF GF hr bF .nil pass0 (pa_cons (pv 1) pa_nil)) (fun _ => rfl)) (pss_one (ps_ret pe_non)) pss_nil)
    (pss_cons (ps_set (i := 2) scTC.nd rfl (.inl rfl) (pe_callTy (call_listK K rfl) rfl Tl vl_ (pa_cons (pv 1) pa_nil)))
    (pss_cons (ps_for PassesOwn.never rfl (pi_range1 rfl Tr (pa_cons (pe_callB call_len_seq rfl Tn PySem.boot_len (pa_cons (pv 2) pa_nil)) pa_nil)) (pg_name (i := 3) scTC.nd rfl (.inl rfl))
      (pss_one (ps_for PassesOwn.never rfl (XQ.pi_cmb rfl Tc_ (pa_cons (pv 2) (pa_cons (pv 3) pa_nil))) (pg_name (i := 4) scTC.nd rfl (.inl rfl))
        (pss_one (ps_if (pt_not (pt_truth (pe_meth (pv 0) T.cl mF GF hr bF .nil pass0 (pa_cons (pv 4) pa_nil)) (fun _ => rfl))) (pss_one (ps_ret (pv 4))) pss_nil)))))
    (pss_one (ps_ret (pe_callTy (call_tupK K rfl) rfl Tt vt_ (pa_cons (pv 2) pa_nil)))))), ?_⟩
  obtain ⟨x, p, t, rows, sq, rfl, hT, hL, hin, h6, hn, kr⟩ := h
  have hT0 := hT
  obtain ⟨dx, pf, z, D, hx, _⟩ := hT0
  refine ⟨_, rfl, x, dx, _, rfl, hx, noFitting, _, rfl, x, p, t, rows, sq, rfl, hT, hL, hin, hn, fun H1 s1 => ⟨_, rfl, ?_⟩⟩
  rw [lot_tru]
  unfold clashT at kr
  cases he : noT rows sq with
  | false =>
    rw [he, if_neg Bool.false_ne_true] at kr
    exact iteT (kr .non H1 s1 .non)
  | true =>
  rw [he, if_pos rfl] at kr
  refine iteF (nxt ?_)
  try dsimp only
  obtain ⟨qs, hz1, hz2⟩ := hL
  have hql := prd_len hz2
  have hxl : (qs.map V.ref).length = sq.length := by rw [List.length_map, hql]
  refine ⟨_, rfl, p, qs.map V.ref, rfl, .inr (seqT_same s1 hz1), fun L hL => ?_⟩
  have s3 := new_same hL (.lst (qs.map V.ref))
  have hz3 := prd_same (s1.trans s3) hz2
  have hL3 := upd_same (H := H1) (a := L) (o := .lst (qs.map V.ref))
  have hT3 := hT.same (s1.trans s3)
  have s13 := s1.trans s3
  have hx3 := s13 _ _ hx
  generalize L2.upd H1 L (.lst (qs.map V.ref)) = H3 at s3 hz3 hL3 hT3 s13 hx3
  try dsimp only
  refine ⟨_, rfl, L, _, rfl, .inl (SqL.of hL3), _, rfl, r62a _, r62b (by rw [hxl]; omega), ?_⟩
  rw [hxl, Int.toNat_natCast]
  refine for_range (lo := 0) (n := sq.length) (fun i σ H' => ∃ f3 f4 : Option V, σ = [some (.ref x), some (.ref p), some (.ref L), f3, f4] ∧ Same H3 H' ∧ (lotsUp sq i).find? (noT rows) = none) ⟨none, none, rfl, Same.refl _, rfl⟩ ?_ ?_
  · rintro i σ H4 hi ⟨f3, f4, rfl, s4, hn4⟩
    have ei : (0 : Int) + (i : Int) = ((i : Nat) : Int) := by omega
    rw [ei]
    refine ⟨_, rfl, _, rfl, L, i, _, rfl, s4.seq (SqL.of hL3), by rw [hxl]; omega, by rw [hxl]; omega, ?_⟩
    refine XQ.for_cmb (fun j σ H' => ∃ f4 : Option V, σ = [some (.ref x), some (.ref p), some (.ref L), some (.int (i : Nat)), f4] ∧ Same H3 H' ∧ (lotsUp sq i ++ (lotsR sq i).take j).find? (noT rows) = none) ⟨f4, rfl, s4, by rw [List.take_zero, List.append_nil]; exact hn4⟩ ?_ ?_
    · rintro j σ H5 hj ⟨f4, rfl, s5, hn5⟩ T' o hT' od
      rw [hxl] at hj ⊢
      obtain ⟨_, _, gs_⟩ := XQ.lots_step sq.length (by omega) i (by omega)
      obtain ⟨_, ⟨_, g2, g3⟩, g4⟩ := gs_ j hj
      generalize hidx : (XQ.lotsC sq.length i).getD j [] = idx at g2 g3 g4
      obtain ⟨l1, l2⟩ := lot_at (prd_same s5 hz3) g4
      rw [l1]
      have s6 := new_same hT' (.frz o (.tup ((idx.map fun k => qs.getD k 0).map V.ref)))
      have hT6 := upd_same (H := H5) (a := T') (o := .frz o (.tup ((idx.map fun k => qs.getD k 0).map V.ref)))
      have l3 := prd_same s6 l2
      generalize L2.upd H5 T' (.frz o (.tup ((idx.map fun k => qs.getD k 0).map V.ref))) = H6 at s6 hT6 l3
      have hlot : LotAt K H6 T' (lotAt sq idx) := ⟨_, .inl (.inr ⟨o, hT6⟩), l3⟩
      have eget : (lotsR sq i)[j]? = some (lotAt sq idx) := by
        unfold lotsR
        rw [List.getElem?_map, List.getElem?_eq_getElem hj, ← hidx, List.getD_eq_getElem?_getD, List.getElem?_eq_getElem hj] <;> rfl
      have lin : ∀ e ∈ lotAt sq idx, e ∈ pairsT t := fun e he => by
        obtain ⟨k', hk', rfl⟩ := List.mem_map.mp he
        refine hin _ ?_
        rw [List.getD_eq_getElem?_getD, List.getElem?_eq_getElem (g4 k' hk')]
        exact List.getElem_mem _
      have s36 := s5.trans s6
      refine ⟨_, rfl, x, dx, _, rfl, s36 _ _ hx3, noFitting, _, rfl, x, T', t, rows, lotAt sq idx, rfl, hT3.same s36, hlot, lin, hn, fun H7 s7 => ⟨_, rfl, ?_⟩⟩
      rw [lot_tru]
      dsimp only
      rw [Bool.not_not]
      cases hb : noT rows (lotAt sq idx) with
      | true =>
        refine iteT ⟨_, rfl, ?_⟩
        refine kr _ H7 ((s13.trans s5).trans (s6.trans s7)) ?_
        have e1 : (lotsUp sq sq.length).find? (noT rows) = some (lotAt sq idx) := by
          have e2 : lotsUp sq sq.length = lotsUp sq i ++ (lotsR sq i ++ ((List.range' (i + 1) (sq.length - (i + 1))).flatMap (lotsR sq))) := by
            unfold lotsUp
            rw [List.range_eq_range', show sq.length = i + (1 + (sq.length - (i + 1))) by omega, ← List.range'_append_1, List.flatMap_append, Nat.add_comm 1, List.range'_succ, List.flatMap_cons, ← List.range_eq_range', show 0 + i + 1 = i + 1 by omega, show 0 + i = i by omega]
            congr 4
            omega
          rw [e2, ← List.append_assoc, List.find?_append]
          have e3 : lotsR sq i = (lotsR sq i).take j ++ lotAt sq idx :: (lotsR sq i).drop (j + 1) := by
            have hj' : j < (lotsR sq i).length := (List.getElem?_eq_some_iff.mp eget).1
            have := List.take_append_drop j (lotsR sq i)
            rw [List.drop_eq_getElem_cons hj'] at this
            rw [List.getElem?_eq_getElem hj'] at eget
            rw [Option.some.inj eget] at this
            exact this.symm
          rw [e3, ← List.append_assoc, List.find?_append, hn5, Option.none_or, List.find?_cons_of_pos hb] <;> rfl
        rw [e1]
        exact dp_same s7 hlot.dp
      | false =>
        refine iteF ⟨_, rfl, s36.trans s7, ?_⟩
        rw [take_one eget, ← List.append_assoc]
        exact find_none_snoc hn5 hb
    · rintro σ H5 ⟨f4, rfl, s5, hn5⟩
      refine ⟨_, _, rfl, s5, ?_⟩
      rw [hxl, List.take_of_length_le (by unfold lotsR; rw [List.length_map]; exact Nat.le_refl _)] at hn5
      have : lotsUp sq (i + 1) = lotsUp sq i ++ lotsR sq i := by
        unfold lotsUp
        rw [List.range_succ, List.flatMap_append, List.flatMap_cons, List.flatMap_nil, List.append_nil]
      rw [this]
      exact hn5
  · rintro σ H4 ⟨f3, f4, rfl, s4, hn4⟩
    refine ⟨_, rfl, L, _, rfl, .inl ⟨s4.seq (SqL.of hL3), fun z' o hz' _ => ?_⟩⟩
    have s5 := new_same hz' (.frz o (.tup (qs.map V.ref)))
    refine kr _ _ ((s13.trans s4).trans s5) ?_
    rw [hn4]
    exact LotAt.dp ⟨qs, .inl (.inr ⟨o, upd_same⟩), prd_same (s4.trans s5) hz3⟩
end
end Q
set_option Elab.async false
set_option linter.all false
set_option maxRecDepth 100000
set_option maxHeartbeats 4000000
/-! ### clash -/
namespace Q
open PySem L2 XD
theorem find_same {α : Type} {p q : α → Bool} : ∀ {l : List α}, (∀ x ∈ l, p x = q x) → l.find? p = l.find? q
  | [], _ => rfl
  | x :: l, h => by
    have ih := find_same (l := l) fun y hy => h y (List.mem_cons_of_mem _ hy)
    have hx := h x List.mem_cons_self
    cases e : q x with
    | true => rw [List.find?_cons_of_pos (by rw [hx, e]), List.find?_cons_of_pos e]
    | false => rw [List.find?_cons_of_neg (by rw [hx, e]; exact Bool.false_ne_true), List.find?_cons_of_neg (by rw [e]; exact Bool.false_ne_true), ih]
theorem in_sorted {f : List Pr} {t : Tbl} (nd : (f.map (·.1)).Nodup) {e : Pr} (he : e ∈ f) (ht : ∃ ws, (e.1, ws) ∈ t) : e ∈ sorted t f := by
  obtain ⟨ws, hw⟩ := ht
  unfold sorted
  refine List.mem_filterMap.mpr ⟨_, hw, ?_⟩
  rw [show pick e.1 f = some e.2 from pick_of nd he] <;> rfl
/-- what a table tells of the facts is what the fillings tell -/
theorem clash_table {rs : List (List Pr)} {t : Tbl} {f : List Pr} (O : FormOk t rs) (FS : Fcts t (sorted t f)) (h6 : t.length ≤ 6) (nd : (f.map (·.1)).Nodup) (kt : ∀ e ∈ f, ∃ ws, (e.1, ws) ∈ t) : clashT (fills rs [] t) (sorted t f) = clashOf rs f t := by
  have same : ∀ l : List Pr, Fcts t l → noT (fills rs [] t) l = noFill rs t l := fun l F => by
    unfold noT noFill
    rw [fills_fit O.nd O.rq F.nd fun e he => (F.of e he).elim fun ws h => ⟨ws, h.1⟩]
  have e1 : noT (fills rs [] t) (sorted t f) = (fills rs f t).isEmpty := by
    unfold noT
    rw [fills_fit O.nd O.rq nd kt]
    congr 1
    refine List.filter_congr fun row _ => ?_
    rw [Bool.eq_iff_iff, within_iff, within_iff]
    exact ⟨fun h p hp => h p (in_sorted nd hp (kt p hp)), fun h p hp => h p (sorted_in hp)⟩
  unfold clashT clashOf
  rw [e1]
  cases h : (fills rs f t).isEmpty with
  | false => rw [if_neg Bool.false_ne_true, if_neg Bool.false_ne_true]
  | true =>
    rw [if_pos rfl, if_pos rfl]
    congr 2
    refine find_same fun lot hl => ?_
    unfold lotsUp at hl
    obtain ⟨r, hr, hl⟩ := List.mem_flatMap.mp hl
    have hr := List.mem_range.mp hr
    unfold lotsR at hl
    obtain ⟨idx, hi, rfl⟩ := List.mem_map.mp hl
    obtain ⟨j, hj, rfl⟩ := List.mem_iff_getElem.mp hi
    have hn7 : (sorted t f).length < 7 := by have := FS.hi; omega
    obtain ⟨_, _, gs⟩ := XQ.lots_step _ hn7 r (by omega)
    obtain ⟨_, ⟨_, g2, g3⟩, g4⟩ := gs j hj
    have eg : (XQ.lotsC (sorted t f).length r).getD j [] = (XQ.lotsC (sorted t f).length r)[j] := by rw [List.getD_eq_getElem?_getD, List.getElem?_eq_getElem hj] <;> rfl
    rw [eg] at g2 g3 g4
    exact same _ (fcts_lot FS g2 g4 (by omega))
abbrev nClash : List Str := ["form", "facts"]
section
variable {P : Program} {w : World} {K : PySem.W.Frag} {mg : Str → Option Value} {base : Heap}
theorem scClash : FnScope nClash ["form", "facts"] (defScope sClash) := ⟨rfl, rfl, rfl, by decide +kernel, rfl, by decide +kernel, by decide +kernel⟩
/-- what is known of the class Table -/
structure Tk (P : Program) (w : World) (K : PySem.W.Frag) (mg : Str → Option Value) (base : Heap) (C CT : Addr) : Prop where
  tc : Tc K mg CT
  mkt : ∃ fI fdI, Mk K CT fI ∧ FnOk P w K mg base CX0 4 fI fdI ["self", "form"] (spTInit K C CT) ∧ Binds K fdI ["self", "form"] []
  cl : ∃ fM fdM, FnOk P w K mg base CX0 2 fM fdM ["self", "facts"] (spTClash K CT) ∧ Binds K fdM ["self", "facts"] [] ∧ Meth K CT "clash" fM
theorem ok_clash {f C CT CV : Addr} {fd : FuncData} (F : Fun K "clash" "clash" sClash f fd) (Z : Fk P w K mg base C) (R : Bv K mg CV) (TK : Tk P w K mg base C CT)
    (KA : Kn P w K mg base 3 "are_facts" ["fields", "facts"] (spAreFacts K)) (KQ : Kn P w K mg base 1 "in_sequence" ["fields", "facts"] (spInSeq K)) : FnOk P w K mg base (L2N.CX P w) 6 f fd ["form", "facts"] (spClash K C CV) := by
  obtain ⟨fQ, fdQ, GQ, kQ, bQ, mQ⟩ := KQ.ex
  obtain ⟨fA, fdA, GA, kA, bA, mA⟩ := KA.ex
  obtain ⟨fM, fdM, GM, bM, mM⟩ := Z.gf
  obtain ⟨fI, fdI, MI, GI, bI⟩ := TK.mkt
  obtain ⟨fC, fdC, GC, bC, mC⟩ := TK.cl
  obtain ⟨fIv, qv, XV⟩ := R.v
  refine Fun_okN F scClash (fun vs H Q E h => ?_) (fun cdv A outer s H vs Q E hr h => ?_)
  · obtain ⟨x, pf, pr, v, t, rs, d, rfl, _⟩ := h
    rfl
  have hr1 : Room 1 _ := hr.mono (by decide)
  have hr2 : Room 2 _ := hr.mono (by decide)
  have hr3 : Room 3 _ := hr.mono (by decide)
  refine ⟨_, pss_cons (ps_if (pt_not (pt_val (pe_call GA hr3 rfl mA kA bA .nil pass0 (pa_cons (pe_meth0 (pv 0) Z.fc.cl mM GM hr1 bM .nil pass0) (pa_cons (pv 1) pa_nil))))) (pss_one (L2N.ps_raise rfl (L2N.takes_of rfl rfl rfl rfl) (XM.pmk XV R.gv hr (pa_cons pe_int pa_nil)))) pss_nil)
    (pss_one (ps_ret (pe_meth (pe_make MI GI hr rfl TK.tc.gT bI .nil pass0 (pa_cons (pv 0) pa_nil)) TK.tc.cl mC GC hr2 bC .nil pass0 (pa_cons (pe_call GQ hr1 rfl mQ kQ bQ .nil pass0 (pa_cons (pe_meth0 (pv 0) Z.fc.cl mM GM hr1 bM .nil pass0) (pa_cons (pv 1) pa_nil))) pa_nil)))), ?_⟩
  obtain ⟨x, pf, pr, v, t, rs, d, rfl, A0, h6, kbad, kyes⟩ := h
  obtain ⟨dx, hx⟩ := A0.fa
  refine ⟨_, rfl, x, dx, _, rfl, hx, noF, x, pf, pr, rfl, ⟨dx, hx⟩, _, rfl, pf, t, v, d, rfl, A0.tf, A0.dp, A0.fo, fun H1 s1 => ⟨_, rfl, ?_⟩⟩
  cases eA : areFacts t d with
  | false => exact iteT ⟨.int 1, rfl, fun dd hd => kbad eA dd H1 s1 hd⟩
  | true =>
  refine iteF (nxt ?_)
  try dsimp only
  have A1 := A0.same s1
  have O := A0.ok
  have FS := fcts_sorted O.nd eA
  obtain ⟨q, zs, gs, rfl, hq, er, hzs⟩ := A1.fz eA
  obtain ⟨ps, kvs, rfl, hF, hnd, _, hin⟩ := facts_good hzs (facts_go er eA).2
  have ef : factsOf d = gs.map factOf := by
    unfold factsOf
    rw [er]
  rw [← ef] at hF hnd hin
  refine ⟨_, rfl, fun y dy hy hdy hne => ?_⟩
  have s2 : Same H1 (L2.upd (L2.upd H1 dy (.own y)) y (.ins CT dy [])) := fun b o e => by
    rw [upd_ne (ne_of_none e hy), upd_ne (ne_of_none e hdy)]
    exact e
  refine ⟨y, x, pf, pr, dy, t, rs, H1, rfl, upd_same, hy, s2, A1.fa, A1.tf, A1.rf, O, h6, fun H3 s3 hTb => ⟨rfl, ?_⟩⟩
  have hTb0 := hTb
  obtain ⟨dy2, _, _, _, hy3, _⟩ := hTb0
  have A3 := A1.same s3
  obtain ⟨dx3, hx3⟩ := A3.fa
  refine ⟨y, dy2, _, rfl, hy3, noClash, _, rfl, x, dx3, _, rfl, hx3, noF, x, pf, pr, rfl, ⟨dx3, hx3⟩, _, rfl, pf, q, t, ps, kvs, factsOf d, rfl, A3.tf, hq.elim (fun z => .inl (s3.seq z)) (fun z => .inr (z.same s3)), hF.same s3, hnd, fun z H4 s4 hz => ?_⟩
  refine ⟨y, z, t, fills rs [] t, sorted t (factsOf d), rfl, hTb.same s4, rule_lot hz, fun e he => mem_pairsT.mpr (FS.of e he), Nat.le_trans FS.hi h6, Nat.le_trans (fills_len _ _ 1 (Nat.le_refl 1)) O.ws, fun r H5 s5 hd => kyes eA r H5 (((s1.trans s3).trans s4).trans s5) ?_⟩
  rw [clash_table O FS h6 hnd (fun e he => ?_)] at hd
  · exact hd
  · obtain ⟨ws, h1, _⟩ := hin e he
    exact ⟨ws, look_mem h1⟩
end
end Q
set_option Elab.async false
set_option linter.all false
set_option maxRecDepth 100000
set_option maxHeartbeats 4000000
/-! ### two_ways -/
namespace Q
open PySem L2 XD
theorem op_neDK {X : Cx} (K : PySem.W.Frag) (h : X.K = K) (hu : X.A.units + 64 < cLine) : OpR X (compareOp .NotEq) (rNeD K) := by
  subst h
  exact op_neD hu
/-- the first row and the first one that differs at the place -/
def twoOf (rows : List (List Pr)) (i : Nat) : Option (List Pr × List Pr) := match rows with
  | [] => none
  | r0 :: _ => (rows.find? fun row => !decide (row.getD i d0 = r0.getD i d0)).map fun row => (r0, row)
def twoD : Option (List Pr × List Pr) → PyData
  | none => .none
  | some p => .tuple [ruleD p.1, ruleD p.2]
def spTwo (K : PySem.W.Frag) (C CV CB : Addr) : Sp := fun vs H Q E => ∃ (x pf pr : Addr) (v u : V) (t : Tbl) (rs : List (List Pr)) (d du : PyData), vs = [.ref x, v, u] ∧ Ask K C H x v pf pr t rs d ∧ Dp K H u du ∧ SeqAt.shaped du = true ∧ (areFacts t d = false → badAt CV H E) ∧
  (areFacts t d = true → (∀ n, du = .str n → n ∉ t.map (·.1)) → ∀ dd H', Same H H' → H' dd = none → E (.ref CB) (some dd) (L2.upd H' dd (.xd [("name", u)]))) ∧
  (areFacts t d = true → ∀ i n ws, du = .str n → t[i]? = some (n, ws) → ∀ r H', Same H H' → Dp K H' r (twoD (twoOf (fills rs (factsOf d) t) i)) → Q r H')
theorem for_row_two {K : PySem.W.Frag} {p : Addr} {ys : List V} {t0 : TE} {g : TG} {tb u : TS} {D : Ends} {σ : L2.St} {H0 H : Hp} (Pv : Nat → L2.St → Hp → Prop) (ht : ∀ Q' : VK, Q' (.ref p) H → t0 σ H Q') (hq : SqL K H0 p ys ∨ SqT K H0 p ys) (h0 : Pv 0 σ H) (hG : ∀ i σ H', Pv i σ H' → Same H0 H')
    (hs : ∀ i x σ H', i < ys.length → Pv i σ H' → ys[i]? = some x → g x σ H' fun σ2 H2 => tb { D with nx := Pv (i + 1), ct := Pv (i + 1), bk := u D } σ2 H2) (hd : ∀ σ H', Pv ys.length σ H' → u D σ H') : tSeq (tFor (iRow K t0) g tb) u D σ H :=
  for_row (D := { D with nx := u D }) Pv ht hq h0 hG hs hd
theorem find_yes {α : Type} {l m : List α} {x : α} {p : α → Bool} (h : l.find? p = none) (hx : p x = true) : (l ++ x :: m).find? p = some x := by
  rw [List.find?_append, h, Option.none_or, List.find?_cons_of_pos hx]
theorem find_no {α : Type} {l : List α} {x : α} {p : α → Bool} (h : l.find? p = none) (hx : ¬ p x = true) : (l ++ [x]).find? p = none := by
  rw [List.find?_append, h, Option.none_or, List.find?_cons_of_neg hx] <;> rfl
theorem two_cons (r0 : List Pr) (rows : List (List Pr)) (i : Nat) : twoOf (r0 :: rows) i = ((r0 :: rows).find? fun row => !decide (row.getD i d0 = r0.getD i d0)).map fun row => (r0, row) := rfl
theorem fills_str {t : Tbl} {rs : List (List Pr)} {f : List Pr} (O : FormOk t rs) : ∀ row ∈ fills rs f t, RStr row := fun row hr => by
  rw [fills_eq O.nd O.rq] at hr
  exact chs_str O.ts row (List.mem_filter.mp hr).1
section
variable {P : Program} {w : World} {K : PySem.W.Frag} {mg : Str → Option Value} {base : Heap}
theorem scTwo : FnScope ["form", "facts", "field", "rows", "place", "row"] ["form", "facts", "field"] (defScope sTwoWays) := ⟨rfl, rfl, rfl, by decide +kernel, rfl, by decide +kernel, by decide +kernel⟩
theorem ok_two {f fG fP C CV CB : Addr} {fd fdG fdP : FuncData} (F : Fun K "two_ways" "two_ways" sTwoWays f fd)
    (GG : FnOk P w K mg base (L2N.CX P w) 4 fG fdG ["form", "facts"] (spFillings K C CV)) (kG : PySem.W.keepIn K (.ref fG) = true) (bG : Binds K fdG ["form", "facts"] []) (mG : mg "fillings" = some (.ref fG))
    (GP : FnOk P w K mg base (L2N.CX P w) 2 fP fdP ["form", "field"] (spPlace K C CB)) (kP : PySem.W.keepIn K (.ref fP) = true) (bP : Binds K fdP ["form", "field"] []) (mP : mg "_place" = some (.ref fP)) :
    FnOk P w K mg base (L2N.CX P w) 5 f fd ["form", "facts", "field"] (spTwo K C CV CB) := by
  refine Fun_okN F scTwo (fun vs H Q E h => ?_) (fun cdv A outer s H vs Q E hr h => ?_)
  · obtain ⟨x, pf, pr, v, u, t, rs, d, du, rfl, _⟩ := h
    rfl
  have hu : (A.deeper (PyProof.Rows.envOfC "two_ways" (defScope sTwoWays) s.heap.objs.size f cdv)).units + 64 < cLine := by
    have := hr.un
    omega
  refine ⟨_, pss_cons (ps_set (i := 3) scTwo.nd rfl (.inl rfl) (pe_call GG hr rfl mG kG bG .nil (L2N.passes_call (L2N.takes_of rfl rfl rfl rfl) (fun _ _ _ _ h => h)) (pa_cons (pv 0) (pa_cons (pv 1) pa_nil))))
    (pss_cons (ps_set (i := 4) scTwo.nd rfl (.inl rfl) (pe_call GP (hr.mono (by decide)) rfl mP kP bP .nil (L2N.passes_call (L2N.takes_of rfl rfl rfl rfl) (fun _ _ _ _ h => h)) (pa_cons (pv 0) (pa_cons (pv 2) pa_nil))))
    (PSs.nox (pss_cons (ps_for PassesOwn.never rfl (pi_row (pv 3)) (pg_name (i := 5) scTwo.nd rfl (.inl rfl))
      (pss_one (ps_if (pt_cmpR (op_neDK K rfl hu) (pe_ix (ix_both K rfl) (pv 5) (pv 4) (fun _ _ => rfl)) (pe_ix (ix_both K rfl) (pe_ix (ix_both K rfl) (pv 3) pe_int (fun _ _ => rfl)) (pv 4) (fun _ _ => rfl)) (nomark _))
        (pss_one (ps_ret (pe_tupZ (pa_cons (pe_ix (ix_both K rfl) (pv 3) pe_int (fun _ _ => rfl)) (pa_cons (pv 5) pa_nil))))) pss_nil)))
    (pss_one (ps_ret pe_non))))), ?_⟩
  obtain ⟨x, pf, pr, v, u, t, rs, d, du, rfl, A0, hu, hsh, kbad, kfld, kyes⟩ := h
  refine ⟨_, rfl, _, rfl, x, pf, pr, v, t, rs, d, rfl, A0.fa, A0.tf, A0.rf, A0.ok, A0.dp, A0.fo, A0.fz, kbad, fun ya z1 H1 s1 hrows => ?_⟩
  have A1 := A0.same s1
  refine ⟨_, rfl, _, rfl, x, pf, pr, u, t, du, rfl, A1.fa, A1.tf, A1.ok.ts, dp_same s1 hu, hsh, fun hn dd H' s' hd => kfld ya hn dd H' (s1.trans s') hd, fun i n ws e et H2 s2 => ?_⟩
  have fo := fills_ok (f := factsOf d) A0.ok
  have fs := fills_str (f := factsOf d) A0.ok
  have ilt : i < t.length := (List.getElem?_eq_some_iff.mp et).1
  obtain ⟨vs, hvs, hv⟩ := hrows.same s2
  have kr := fun r H' s hr => kyes ya i n ws e et r H' ((s1.trans s2).trans s) hr
  clear kbad kfld kyes hrows A1
  generalize fills rs (factsOf d) t = rows at hv fo fs kr
  have hl := prd_len hv
  -- an item of a row
  have item : ∀ {j : Nat} {row : List Pr} {H' : Hp}, rows[j]? = some row → Same H2 H' → ∃ p ys y, vs[j]? = some (.ref p) ∧ SqT K H' p ys ∧ ys[i]? = some y ∧ Dp K H' y (pD (row.getD i d0)) ∧ SeqAt.shaped (pD (row.getD i d0)) = true ∧ LotAt K H' p row := by
    intro j row H' er s
    have jl : j < vs.length := by
      have := (List.getElem?_eq_some_iff.mp er).1
      omega
    have ev : vs[j]? = some vs[j] := List.getElem?_eq_getElem jl
    obtain ⟨row', er', hr'⟩ := prd_at hv ev
    rw [er] at er'
    cases er'
    obtain ⟨p, ep, hlot⟩ := hr'.lot
    obtain ⟨qs, q1, q2⟩ := hlot.same s
    have hrow := List.mem_of_getElem? er
    have hil : i < row.length := by rw [fo.2 row hrow]; exact ilt
    have eg : row[i]? = some (row.getD i d0) := by rw [List.getD_eq_getElem?_getD, List.getElem?_eq_getElem hil] <;> rfl
    have ql := prd_len q2
    have eq_ : qs[i]? = some (qs[i]'(by omega)) := List.getElem?_eq_getElem (by omega)
    obtain ⟨e', ee, hq⟩ := prd_at q2 eq_
    rw [eg] at ee
    cases ee
    exact ⟨p, _, _, by rw [ev, ep], q1, by rw [List.getElem?_map, eq_] <;> rfl, pD_dp hq, pD_shaped (fs row hrow _ (List.mem_of_getElem? eg)), ⟨qs, q1, q2⟩⟩
  dsimp only
  cases rows with
  | nil =>
    have : vs = [] := List.eq_nil_of_length_eq_zero (by rw [hl] <;> rfl)
    subst this
    refine for_row_two (ys := []) (H0 := H2) (fun j σ H' => σ = [some (.ref x), some v, some u, some (.ref z1), some (.int (i : Nat)), none] ∧ Same H2 H') (fun Q' z => ⟨_, rfl, z⟩) (.inr hvs) ⟨rfl, Same.refl _⟩ (fun j σ H' h => h.2) (fun j y σ H' hj _ _ => absurd hj (Nat.not_lt_zero _)) ?_
    rintro σ H' ⟨rfl, s⟩
    exact kr .non H' s .non
  | cons r0 rows =>
    refine for_row_two (ys := vs) (H0 := H2) (fun j σ H' => ∃ f5, σ = [some (.ref x), some v, some u, some (.ref z1), some (.int (i : Nat)), f5] ∧ Same H2 H' ∧ ((r0 :: rows).take j).find? (fun row => !decide (row.getD i d0 = r0.getD i d0)) = none) (fun Q' z => ⟨_, rfl, z⟩) (.inr hvs) ⟨none, rfl, Same.refl _, rfl⟩ (fun j σ H' ⟨_, _, h, _⟩ => h) ?_ ?_
    · rintro j y σ H' hj ⟨f5, rfl, s, hn⟩ hy
      have jl : j < (r0 :: rows).length := by omega
      have er : (r0 :: rows)[j]? = some (r0 :: rows)[j] := List.getElem?_eq_getElem jl
      generalize hrow_ : (r0 :: rows)[j] = row at er
      obtain ⟨p, ys, yy, p1, p2, p3, p4, p5, p6⟩ := item er s
      obtain ⟨q, zs, zz, q1, q2, q3, q4, q5, q6⟩ := item (j := 0) (row := r0) rfl s
      rw [hy] at p1
      cases p1
      refine ⟨_, rfl, _, rfl, ix_row (.inr p2) (at_of rfl p3) ⟨_, rfl, ix_row (.inr (seqT_same s hvs)) (at_of (j := 0) rfl q1) ⟨_, rfl, ix_row (.inr q2) (at_of rfl q3) ⟨_, _, p4, q4, p5, q5, _, rfl, ?_⟩⟩⟩⟩
      rw [eqv_pD]
      by_cases hd : row.getD i d0 = r0.getD i d0
      · rw [decide_eq_true hd]
        refine iteF ⟨_, rfl, s, ?_⟩
        rw [take_one er]
        exact find_no hn (by rw [decide_eq_true hd]; exact Bool.false_ne_true)
      · rw [decide_eq_false hd]
        refine iteT ⟨_, rfl, ix_row (.inr (seqT_same s hvs)) (at_of (j := 0) rfl q1) ⟨_, rfl, by show 2 ≤ sizeLine; decide, fun z o hz ho => ?_⟩⟩
        have sz := new_same hz (.frz o (.tup [.ref q, .ref p]))
        refine kr _ _ (s.trans sz) ?_
        have : twoOf (r0 :: rows) i = some (r0, row) := by
          have e1 : (r0 :: rows) = (r0 :: rows).take j ++ row :: (r0 :: rows).drop (j + 1) := by
            have := List.take_append_drop j (r0 :: rows)
            rw [List.drop_eq_getElem_cons jl] at this
            rw [List.getElem?_eq_getElem jl] at er
            rw [Option.some.inj er] at this
            exact this.symm
          have e2 : (r0 :: rows).find? (fun row => !decide (row.getD i d0 = r0.getD i d0)) = some row := by
            rw [e1]
            exact find_yes hn (by rw [decide_eq_false hd] <;> rfl)
          rw [two_cons, e2] <;> rfl
        rw [this]
        exact .tup (.inl (.inr ⟨o, upd_same⟩)) (.cons (q6.same sz).dp (.cons (p6.same sz).dp .nil))
    · rintro σ H' ⟨f5, rfl, s, hn⟩
      refine kr .non H' s ?_
      rw [hl, List.take_of_length_le (Nat.le_refl _)] at hn
      have : twoOf (r0 :: rows) i = none := by
        rw [two_cons, hn] <;> rfl
      rw [this]
      exact .non
end
end Q
set_option Elab.async false
set_option linter.all false
set_option maxRecDepth 100000
set_option maxHeartbeats 4000000
/-! ### open_fields -/
namespace Q
open PySem L2 XD
section
variable {P : Program} {w : World} {K : PySem.W.Frag} {mg : Str → Option Value} {base : Heap}
theorem scOpen : FnScope ["form", "facts", "name", "values"] ["form", "facts"] (defScope sOpenFields) := ⟨rfl, rfl, rfl, by decide +kernel, rfl, by decide +kernel, by decide +kernel⟩
theorem ok_open {f fA C CV : Addr} {fd fdA : FuncData} (F : Fun K "open_fields" "open_fields" sOpenFields f fd) (Tl : mg "len" = none) (Tt : mg "tuple" = none)
    (GA : FnOk P w K mg base (L2N.CX P w) 5 fA fdA ["form", "facts"] (spAllP K C CV)) (kA : PySem.W.keepIn K (.ref fA) = true) (bA : Binds K fdA ["form", "facts"] []) (mA : mg "_all_possible" = some (.ref fA)) : FnOk P w K mg base (L2N.CX P w) 6 f fd ["form", "facts"] (spOpen K C CV) := by
  refine Fun_okN F scOpen (fun vs H Q E h => ?_) (fun cdv A outer s H vs Q E hr h => ?_)
  · obtain ⟨x, pf, pr, v, t, rs, d, rfl, _⟩ := h
    rfl
  have vt_ : PySem.bootBuiltins "tuple" = some (.type "tuple") := by decide +kernel
  refine ⟨_, pss_one (ps_ret (pe_callTy (call_tupK K rfl) rfl Tt vt_ (pa_cons (pe_lc (own := [("name", 2), ("values", 3)]) (g := gRow K 2 (gCons (gName 2) (gCons (gName 3) gNil))) (by rfl) scOpen.nd (pi_list (pe_call GA hr rfl mA kA bA .nil (L2N.passes_call (L2N.takes_of rfl rfl rfl rfl) (fun _ _ _ _ h => h)) (pa_cons (pv 0) (pa_cons (pv 1) pa_nil)))) (blkOk_by (N := ["form", "facts", "name", "values"]) (sc := defScope sOpenFields) (by decide +kernel))
      (fun _ _ _ _ _ => pg_row rfl (pgs_cons (pg_name (i := 2) scOpen.nd rfl (.inl rfl)) (pgs_cons (pg_name (i := 3) scOpen.nd rfl (.inl rfl)) pgs_nil)))
      (fun _ _ _ _ _ => pts_one (pt_cmpR op_gt (pe_callB (call_lenK K rfl) rfl Tl PySem.boot_len (pa_cons (pv 3) pa_nil)) pe_int (nomark _))) (fun _ _ _ _ _ => pv 2)) pa_nil))), ?_⟩
  obtain ⟨x, pf, pr, v, t, rs, d, rfl, A0, kbad, kyes⟩ := h
  refine ret_cb ?_
  refine ⟨_, rfl, _, rfl, x, pf, pr, v, t, rs, d, rfl, A0, kbad, fun ya D0 us H1 s1 hD0 hus => ⟨D0, rfl, ⟨_, SqL.of hD0⟩, ?_⟩⟩
  generalize hl : allPoss (fills rs (factsOf d) t) t = l at hus
  have hll : l.length = t.length := by
    rw [← hl]
    unfold allPoss
    rw [List.length_map, List.length_range]
  have htm : t.length ≤ 1000 := by
    obtain ⟨_, _, _, _, _, z⟩ := A0.tf
    exact z
  have hul := prd_len hus
  refine lc_gL (Q := fun x H2 => rTupZ K [x] H2 Q) (ys := us.map V.ref) (fun i v R => v = .str (l.getD i e0).1) (fun i => decide (1 < (l.getD i e0).2.length)) (fun i v R R' s h => h) (SqL.of hD0) (by rw [List.length_map]; omega) (fun D i y H' yes no hacc s2 s3 hy hyes hno => ?_) (fun D H' zs hD s2 hz hP => ?_)
  · obtain ⟨u, eu, rfl⟩ : ∃ u, us[i]? = some u ∧ y = .ref u := by
      rw [List.getElem?_map] at hy
      obtain ⟨p, a, b⟩ := Option.map_eq_some_iff.mp hy
      exact ⟨p, a, b.symm⟩
    obtain ⟨e, ee, zz, h1, h2⟩ := prd_at hus eu
    have eg := getD_of (d := e0) ee
    refine .inl ⟨u, _, rfl, seqT_same s2 h1, rfl, .str e.1, _, rfl, .ref zz, [], rfl, rfl, rfl, ?_⟩
    refine ⟨_, rfl, zz, _, rfl, .inr (seqT_same s2 h2), _, _, rfl, rfl, _, rfl, ?_⟩
    have ed : decide ((1 : Int) < ((e.2.map V.str).length : Int)) = decide (1 < (l.getD i e0).2.length) := by
      rw [eg, List.length_map]
      exact decide_eq_decide.mpr ⟨fun h => by omega, fun h => by omega⟩
    show if decide ((1 : Int) < ((e.2.map V.str).length : Int)) = true then _ else _
    rw [ed]
    cases hs : decide (1 < (l.getD i e0).2.length) with
    | true => exact iteT ⟨_, rfl, hyes hs _ _ (Same.refl _) (by rw [eg])⟩
    | false => exact iteF (hno hs _ (Same.refl _))
  · have ez : zs = (openOf l).map V.str := by
      have : ∀ {zs : List V} {is : List Nat}, Paired (fun z i => z = V.str (l.getD i e0).1) zs is → zs = (is.map fun i => (l.getD i e0).1).map V.str := by
        intro zs is h
        induction h with
        | nil => rfl
        | cons a b ih => rw [a, ih] <;> rfl
      rw [this hP, List.length_map, hul]
      unfold openOf
      rw [← sel_map (d := e0)]
    subst ez
    refine ⟨D, _, rfl, .inl ⟨SqL.of hz, fun z o hz' _ => kyes ya z _ ((s1.trans s2).trans (new_same hz' _)) ?_⟩⟩
    rw [hl]
    exact .inl (.inr ⟨o, upd_same⟩)
end
end Q
set_option Elab.async false
set_option linter.all false
set_option maxRecDepth 100000
set_option maxHeartbeats 4000000
/-! ### forced -/
namespace Q
open PySem L2 XD
section
variable {P : Program} {w : World} {K : PySem.W.Frag} {mg : Str → Option Value} {base : Heap}
theorem scForced : FnScope ["form", "facts", "name", "values"] ["form", "facts"] (defScope sForced) := ⟨rfl, rfl, rfl, by decide +kernel, rfl, by decide +kernel, by decide +kernel⟩
theorem ok_forced {f fA C CV : Addr} {fd fdA : FuncData} (F : Fun K "forced" "forced" sForced f fd) (Tl : mg "len" = none) (Tt : mg "tuple" = none)
    (GA : FnOk P w K mg base (L2N.CX P w) 5 fA fdA ["form", "facts"] (spAllP K C CV)) (kA : PySem.W.keepIn K (.ref fA) = true) (bA : Binds K fdA ["form", "facts"] []) (mA : mg "_all_possible" = some (.ref fA)) : FnOk P w K mg base (L2N.CX P w) 6 f fd ["form", "facts"] (spForced K C CV) := by
  refine Fun_okN F scForced (fun vs H Q E h => ?_) (fun cdv A outer s H vs Q E hr h => ?_)
  · obtain ⟨x, pf, pr, v, t, rs, d, rfl, _⟩ := h
    rfl
  have vt_ : PySem.bootBuiltins "tuple" = some (.type "tuple") := by decide +kernel
  refine ⟨_, pss_one (ps_ret (pe_callTy (call_tupK K rfl) rfl Tt vt_ (pa_cons (pe_lc (own := [("name", 2), ("values", 3)]) (g := gRow K 2 (gCons (gName 2) (gCons (gName 3) gNil))) (by rfl) scForced.nd (pi_list (pe_call GA hr rfl mA kA bA .nil (L2N.passes_call (L2N.takes_of rfl rfl rfl rfl) (fun _ _ _ _ h => h)) (pa_cons (pv 0) (pa_cons (pv 1) pa_nil)))) (blkOk_by (N := ["form", "facts", "name", "values"]) (sc := defScope sForced) (by decide +kernel))
      (fun _ _ _ _ _ => pg_row rfl (pgs_cons (pg_name (i := 2) scForced.nd rfl (.inl rfl)) (pgs_cons (pg_name (i := 3) scForced.nd rfl (.inl rfl)) pgs_nil)))
      (fun _ _ _ _ _ => pts_one (pt_cmpR op_eq (pe_callB (call_lenK K rfl) rfl Tl PySem.boot_len (pa_cons (pv 3) pa_nil)) pe_int (nomark _))) (fun _ _ _ _ _ => pe_tupZ (pa_cons (pv 2) (pa_cons (pe_ix (ix_both K rfl) (pv 3) pe_int (fun _ _ => rfl)) pa_nil)))) pa_nil))), ?_⟩
  obtain ⟨x, pf, pr, v, t, rs, d, rfl, A0, kbad, kyes⟩ := h
  refine ret_cb ?_
  refine ⟨_, rfl, _, rfl, x, pf, pr, v, t, rs, d, rfl, A0, kbad, fun ya D0 us H1 s1 hD0 hus => ⟨D0, rfl, ⟨_, SqL.of hD0⟩, ?_⟩⟩
  generalize hl : allPoss (fills rs (factsOf d) t) t = l at hus
  have hll : l.length = t.length := by
    rw [← hl]
    unfold allPoss
    rw [List.length_map, List.length_range]
  have htm : t.length ≤ 1000 := by
    obtain ⟨_, _, _, _, _, z⟩ := A0.tf
    exact z
  have hul := prd_len hus
  refine lc_gL (Q := fun x H2 => rTupZ K [x] H2 Q) (ys := us.map V.ref) (fun i v R => ∃ p, v = .ref p ∧ SqT K R p [.str (l.getD i e0).1, .str ((l.getD i e0).2.getD 0 Str.empty)]) (fun i => decide ((l.getD i e0).2.length = 1)) (fun i v R R' s ⟨p, e, h⟩ => ⟨p, e, seqT_same s h⟩) (SqL.of hD0) (by rw [List.length_map]; omega) (fun D i y H' yes no hacc s2 s3 hy hyes hno => ?_) (fun D H' zs hD s2 hz hP => ?_)
  · obtain ⟨u, eu, rfl⟩ : ∃ u, us[i]? = some u ∧ y = .ref u := by
      rw [List.getElem?_map] at hy
      obtain ⟨p, a, b⟩ := Option.map_eq_some_iff.mp hy
      exact ⟨p, a, b.symm⟩
    obtain ⟨e, ee, zz, h1, h2⟩ := prd_at hus eu
    have eg := getD_of (d := e0) ee
    refine .inl ⟨u, _, rfl, seqT_same s2 h1, rfl, .str e.1, _, rfl, .ref zz, [], rfl, rfl, rfl, ?_⟩
    refine ⟨_, rfl, zz, _, rfl, .inr (seqT_same s2 h2), rfl, _, rfl, ?_⟩
    have ed : decide (V.int ((e.2.map V.str).length : Int) = V.int 1) = decide ((l.getD i e0).2.length = 1) := by
      rw [eg, List.length_map]
      exact decide_eq_decide.mpr ⟨fun h => by have := V.int.inj h; omega, fun h => by rw [h] <;> rfl⟩
    rw [ed]
    cases hs : decide ((l.getD i e0).2.length = 1) with
    | false => exact iteF (hno hs _ (Same.refl _))
    | true =>
      have h1l : e.2.length = 1 := by rw [eg] at hs; exact of_decide_eq_true hs
      have hv : e.2[0]? = some (e.2.getD 0 Str.empty) := by rw [List.getD_eq_getElem?_getD, List.getElem?_eq_getElem (by omega)] <;> rfl
      refine iteT ⟨_, rfl, _, rfl, ix_row (.inr (seqT_same s2 h2)) (at_of (j := 0) rfl (by rw [List.getElem?_map, hv] <;> rfl)) ⟨by show 2 ≤ sizeLine; decide, fun p o hp ho => ?_⟩⟩
      obtain ⟨acc, hacc⟩ := hacc
      refine hyes hs _ _ (new_same hp _) ⟨p, rfl, ?_⟩
      rw [eg]
      exact .inl (.inr ⟨o, rm_new (alive_of hacc) hp⟩)
  · obtain ⟨ps, rfl, hps⟩ := refs_of (T := fun p (e : Pr) => SqT K (rmL [D] H') p [.str e.1, .str e.2]) (g := fun i => ((l.getD i e0).1, (l.getD i e0).2.getD 0 Str.empty)) hP
    have ez : ((List.range (us.map V.ref).length).filter fun i => decide ((l.getD i e0).2.length = 1)).map (fun i => (((l.getD i e0).1, (l.getD i e0).2.getD 0 Str.empty) : Pr)) = forcedOf l := by
      rw [List.length_map, hul]
      unfold forcedOf
      rw [← sel_map (d := e0)]
    rw [ez] at hps
    refine ⟨D, _, rfl, .inl ⟨SqL.of hz, fun z o hz' _ => kyes ya z _ ((s1.trans s2).trans (new_same hz' _)) ?_⟩⟩
    rw [hl]
    exact ⟨ps, .inl (.inr ⟨o, upd_same⟩), prd_imp (fun _ _ h => seqT_same (Same.trans rm_le (new_same hz' _)) h) hps⟩
end
end Q
set_option Elab.async false
set_option linter.all false
set_option maxRecDepth 100000
set_option maxHeartbeats 4000000
/-! Within an except suite: isinstance of what was caught (it has its own dict); all(..) of a list of truths; a list comprehension over a range. -/
namespace XH
open PySem PySem.Spec PySem.W PySem.Calls PyProof.Rows
section
variable {prog : Program} {w : World} {A : Around} {E : Value → Shared → Prop} {s : Shared} {K : Frag} {x D : Addr} {ox : Obj} {od : Option Obj}
/-- what the class says, so that isinstance asks its instances rightly -/
structure ClsQ (K : Frag) (D : Addr) : Prop where
  hg : findIn K (.ref D) "__getattribute__" = some (some (.builtin "BaseException.__getattribute__"))
  hk : findIn K (.ref D) "__getattr__" = some none
  hs : subIn K (.ref D) (.type "BaseException") = some true
  hd : hasDictIn K D = true
  ha : findIn K (.ref D) "__class__" = some (some (.builtin "object.__class__"))
  hn : specialIn K (.builtin "object.__class__") "__get__" = some (some (.builtin "getset_descriptor.__get__"))
  ht : takesIn K (.builtin "object.__class__") = some true
  hm : mroIn K D (.type "object") = some true
theorem class_found (T : ClsQ K D) : findObj K D od "__class__" = some (.bind (.builtin "getset_descriptor.__get__") (.builtin "object.__class__")) := by
  obtain ⟨cd, hc, _⟩ := any_some T.hd
  have h1 := T.hn
  have h2 := T.ht
  unfold findObj
  rw [hc, Option.bind_some, T.ha, Option.bind_some]
  simp [h1, h2]
theorem asked_class (T : ClsQ K D) {Q : Option Value → Shared → Prop} (X : K.In s.heap) (I : InstAt s.heap x ox D od)
    (h : Q (some (.ref D)) { s with toks := s.toks + 1 }) : wpAny (model prog w) A (getAttr? (.ref x) "__class__") Q E s := by
  have hf := class_found (od := od) T
  obtain ⟨hp, g, d, t, os⟩ := s
  have ty := I.type (M := model prog w)
  have l1 := looks_findIn (M := model prog w) X T.hg
  have l2 := looks_findIn (M := model prog w) X T.hk
  have l3 := looks_find (M := model prog w) X I hf
  have sub : Looks (model prog w) hp (isInstance (.ref x) (.type "BaseException")) true := ty.andThen (looks_subIn X T.hs)
  have no0 : (false && onTheHeap (Value.builtin "BaseException.__getattribute__")) = false := rfl
  have no2 : (Value.builtin "BaseException.__getattribute__" == Value.builtin "object.__getattribute__") = false := by
    decide +kernel
  have no1 : (onTheHeap (Value.ref D) && Value.builtin "BaseException.__getattribute__" == Value.builtin "object.__getattribute__") = false := by
    rw [no2]
    rfl
  unfold getAttr? getAttrBy? getAttrBy
  refine wpAny_bind (wpAny_mkText (wpAny_bind (wpAny_attempt (wpAny_holding (wpAny_bind (ty.at (wpAny_bind (l1.at ?_))))))))
  show wpAny _ _ (if (onTheHeap (Value.ref D) && Value.builtin "BaseException.__getattribute__" == Value.builtin "object.__getattribute__") = true then _ else _) _ _ _
  rw [no1, if_neg Bool.false_ne_true]
  unfold getAttrByItsOwn hookBefore
  refine wpAny_bind ?_
  rw [if_pos (show onTheHeap (Value.ref D) = true from rfl)]
  refine l2.at ?_
  refine wpAny_bind (wpAny_attempt (wpAny_holding ?_))
  unfold callGetattribute
  rw [no0, if_neg Bool.false_ne_true]
  unfold boundAndCalled
  rw [PySem.F.excAttr_ValueError.ga.bind (.ref x)]
  refine wpAny_bind (wpAny_pure ?_)
  show wpAny _ _ (call (.builtin "BaseException.__getattribute__") [.ref x, .str "__class__" t]) _ _ _
  refine wpAny_call (codeAny_call_builtin PySem.F.excAttr_ValueError.ga.plain PySem.F.entry_bexc_ga ?_)
  refine @check_slot (model prog w) _ _ ⟨hp, g, d, t + 1, os⟩ "BaseException.__getattribute__" "BaseException" "__getattribute__" (.ref x) [.str "__class__" t] [] _ (by decide +kernel) (by decide +kernel) sub (PySem.F.args_bexc_ga (.ref x) (.str "__class__" t)) ?_
  unfold Builtin.«object.__getattribute__»
  refine wpAny_bind (wpAny_of_eq (a := ((Value.ref x : Value), [Value.str "__class__" t])) (by first | rfl | (simp only [slotArgs]; rfl)) ?_)
  refine wpAny_bind (wpAny_pure (wpAny_bind (ty.at (wpAny_bind (l3.at ?_)))))
  show wpAny _ _ (holding [Value.builtin "object.__class__"] (call (.builtin "getset_descriptor.__get__") [.builtin "object.__class__", .ref x, .ref D]) >>= ret) _ _ _
  refine wpAny_bind (wpAny_holding (wpAny_call (class_get (s := ⟨hp, g, d, t + 1, os⟩) (ox := ox) (od := od) X I T.hm ?_)))
  refine wpAny_pure ?_
  show wpAny _ _ (handedOut (.ref D)) _ _ _
  rw [handedOut_of (v := .ref D) rfl]
  first
    | exact wpAny_pure (wpAny_pure h)
    | exact wpAny_pure h
    | exact wpAny_pure (wpAny_bind (wpAny_pure (wpAny_pure h)))
theorem kit_err (T : ClsQ K D) : KitX K (.ref x) (.ref D) (fun h => ∃ ox od, InstAt h x ox D od) where
  ty := fun _ _ _ ⟨_, _, I⟩ => I.type
  it := fun _ _ X _ => by
    obtain ⟨cd, hc, _⟩ := any_some T.hd
    unfold clsIn at hc
    split at hc
    · rename_i c' d' cd' sl' ho
      intro A' Q' E' s' k q
      unfold isType loadHead
      exact wpAny_bind (wpAny_loadPart (k _ _ (X _ _ ho)) (wpAny_pure q))
    · cases hc
  ne := fun h tp dd its n sl X htp => by
    obtain ⟨cd, hc, _⟩ := any_some T.hd
    refine Bool.eq_false_iff.mpr fun q => ?_
    have e : D = tp := Value.ref.inj (beq_iff_eq.mp q)
    subst e
    unfold clsIn at hc
    split at hc
    · rename_i c' d' cd' sl' ho
      have z := (X _ _ ho).symm.trans htp
      cases z
    · cases hc
  ca := fun X I k => by
    obtain ⟨ox, od, I⟩ := I
    exact asked_class T X I k
end
end XH
namespace XH
open PySem PySem.Spec PyProof.Rows L2
/-- isinstance(e, c): e what the suite holds, c one class -/
def rIs1 (K : PySem.W.Frag) (D a : Addr) : List V → Hp → VK → Prop := fun xs H Q =>
  ∃ (c : V) (cv : Value) (b : Bool), xs = [.ref a, c] ∧ ClsV c cv ∧ PySem.W.kitOne K (.ref D) cv = some b ∧ Q (.bl b) H
/-- isinstance(e, (c1, ..)): the tuple just laid -/
def rIsN (K : PySem.W.Frag) (D a : Addr) : List V → Hp → VK → Prop := fun xs H Q =>
  ∃ (tp : Addr) (cs : List V) (us : List Value) (b : Bool), xs = [.ref a, .ref tp] ∧ H tp = some (.tup cs) ∧ Paired ClsV cs us ∧ PySem.W.kitAny K (.ref D) us = some b ∧ Q (.bl b) H
section
variable {X : Cx} {a D dx : Addr} {oe : Obj} {pn : List (Addr × Obj)} {fs : List (Str × V)} {cls : Value} {d : Option Addr}
theorem held_inst {pins : List (Addr × Obj)} {σ : L2.St} {H : Hp} {s : Shared} (I : Inv (X.suite a ((a, oe) :: pn)) pins σ H s)
    (hz : Zc (.ref D) (some dx) oe) (hf : ∃ vs, oe.data = .fields vs) (hd : H dx = some (.xd fs)) : ∃ ox od, PySem.W.InstAt s.heap a ox D od := by
  obtain ⟨hget, _⟩ := I.pin (a, oe) (List.mem_append.mpr (.inl List.mem_cons_self))
  have hx : ObjOk X.prog X.w H s.heap dx (.xd fs) := I.hok dx _ hd
  obtain ⟨mA, hns, _⟩ := hx
  obtain ⟨o1, ho, _⟩ := lookIn_ns hns
  obtain ⟨vs, hv⟩ := hf
  exact ⟨oe, some o1, hget, hz.1, by unfold PySem.W.notCls; rw [hv] <;> rfl, by rw [hz.2]; exact ho⟩
/-- the class of what is held, its dict -/
def Held (K : PySem.W.Frag) (cls : Value) (d : Option Addr) (D : Addr) (H : Hp) : Prop :=
  cls = .ref D ∧ ClsQ K D ∧ ∃ dx fs, d = some dx ∧ H dx = some (.xd fs)
theorem call_is1 (hz : Zc cls d oe) (hf : ∃ vs, oe.data = .fields vs) :
    CallR (X.suite a ((a, oe) :: pn)) (.builtin "isinstance") (fun xs H Q => ∃ D, Held X.K cls d D H ∧ rIs1 X.K D a xs H Q) := by
  intro pins s σ H xs us Q I r h
  obtain ⟨D, ⟨rfl, T, dx, fs, rfl, hd⟩, c, cv, b, rfl, hc, e, q⟩ := h
  obtain ⟨u1, u2, rfl, r1, r2⟩ := vals2 r
  have ec := hc.eq r2
  subst ec
  cases (show u1 = Value.ref a from r1)
  exact PySem.W.kia_one (kit_err T) I.kIn (held_inst I hz hf hd) e (fun z => nomatch z) fun tk => ⟨.bl b, H, I.tok tk, rfl, q⟩
theorem call_isN (hz : Zc cls d oe) (hf : ∃ vs, oe.data = .fields vs) :
    CallR (X.suite a ((a, oe) :: pn)) (.builtin "isinstance") (fun xs H Q => ∃ D, Held X.K cls d D H ∧ rIsN X.K D a xs H Q) := by
  intro pins s σ H xs us Q I r h
  obtain ⟨D, ⟨rfl, T, dx, fs, rfl, hd⟩, tp, cs, ws, b, rfl, hT, hc, e, q⟩ := h
  obtain ⟨u1, u2, rfl, r1, r2⟩ := vals2 r
  cases (show u1 = Value.ref a from r1)
  cases (show u2 = Value.ref tp from r2)
  obtain ⟨_, its, rv, o, h1, h2, n, h3⟩ := (show ObjOk X.prog X.w H s.heap tp (.tup cs) from I.hok tp _ hT)
  have e3 := ClsV.all hc rv
  subst e3
  have ht : s.heap.get? tp = some ⟨.type "tuple", o.dict, .seq its.toArray n, o.slots⟩ := by
    rw [h1]
    obtain ⟨oc, od, oda, osl⟩ := o
    cases h2
    cases h3
    rfl
  exact PySem.W.kia_tup (kit_err T) I.kIn (held_inst I hz hf hd) ht e (fun z => nomatch z) fun tk => ⟨.bl b, H, I.tok tk, rfl, q⟩
end
end XH
namespace XH
open PySem PySem.Spec PyProof.Rows L2 HotX L2H
section
variable {prog : Program} {w : World} {A : Around} {E : Value → Shared → Prop} {s : Shared}
/-- the end of a list's iterator while an exception is handled: the StopIteration has it as its context, and is dropped -/
theorem list_end_hot {it l x1 : Addr} {i : Nat} {items : Array Value} {Q : Option Value → Shared → Prop} (hot : HotAt A x1 s.heap) (nx : x1 ≠ it)
    (hit : s.heap.IsListIter it l i) (hl : s.heap.IsList l items) (hx : items[i]? = none)
    (hQ : ∀ h', Heap.ExtBut it s.heap h' → Q none { s with heap := h' }) : wpAny (model prog w) A (pyNext (.ref it)) Q E s := by
  obtain ⟨o, ho, hc, hd⟩ := id hit
  obtain ⟨ol, hol, _, nl, hdl⟩ := hl
  obtain ⟨hh, o1, vs1, g1, d1, c1⟩ := hot
  unfold pyNext
  refine wpAny_bind (wpAny_attempt (wpAny_callSpecial?_slot (name := Str.ofString "__next__") hit.typeIs slot_listiter_next
    (wpAny_call_entry slot_listiter_next hit.typeIs entry_listiter_next ?_ (args_listiter_next _))))
  show wpAny _ _ (field (.ref it) 0 >>= _) _ _ s
  refine wpAny_bind (wpAny_field ho hd (x := .ref l) rfl ?_)
  show wpAny _ _ (if (Value.ref l == Value.none) = true then _ else _) _ _ s
  rw [if_neg (show ¬ ((Value.ref l == Value.none) = true) from Bool.false_ne_true)]
  show wpAny _ _ (field (.ref it) 1 >>= _) _ _ s
  refine wpAny_bind (wpAny_field ho hd (x := .int i 0) rfl ?_)
  show wpAny _ _ (seqItems? (.ref l) >>= _) _ _ s
  refine wpAny_bind (wpAny_seqItems hol hdl ?_)
  simp only [Int.toNat_natCast, hx]
  refine wpAny_bind (wpAny_rule (wpAny_bind (wpAny_setField ho hd (by simp) ?_)))
  show wpAny _ _ (newExc (.type "StopIteration") [] >>= _) _ _ _
  refine wpAny_bind ?_
  simp only [newExc, newTuple]
  refine wpAny_bind (wpAny_newObj_type ?_ (by size_fits))
  refine wpAny_bind (m := firstArgMember _ _) (wpAny_of_eq (a := Value.none) (by first | rfl | (simp only [firstArgMember]; rfl)) ?_)
  refine wpAny_newObj_type ?_ (by size_fits)
  have up : ∀ (f : Array Value → Array Value), (s.heap.update it (Obj.mapFields f)).get? x1 = some o1 := fun f =>
    (Heap.get?_update_other _ _ (Ne.symm nx)).trans g1
  refine raiseNew_hot ⟨hh, o1, vs1, Heap.get?_push_of_some _ (Heap.get?_push_of_some _ (up _)), d1, c1⟩
    (Nat.ne_of_lt (Heap.lt_size (Heap.get?_push_of_some _ (up _)))) (Heap.get?_push_size _ rfl) rfl
    (by first | (simp; done) | (simp; omega) | (simp only [Array.size_append]; simp; omega)) ?_
  refine wpAny_bind (wpAny_isInstance (T := "StopIteration") (b := true) ⟨_, Heap.get?_update_self _ (Heap.get?_push_size _ rfl) rfl, rfl⟩ isSubtype_stop ?_)
  refine wpAny_pure (hQ _ ?_)
  have base := ((Heap.SameBut.update (h := s.heap) it (Obj.mapFields fun vs => vs.setIfInBounds 0 Value.none)).extBut)
  intro b ob nb e
  have lt : b < s.heap.objs.size := Heap.lt_size e
  have e1 : (s.heap.update it (Obj.mapFields fun vs => vs.setIfInBounds 0 Value.none)).get? b = some ob := base b ob nb e
  have e2 := Heap.get?_push_of_some (h := s.heap.update it (Obj.mapFields fun vs => vs.setIfInBounds 0 Value.none)) { cls := .type "tuple", data := .seq ([] : List Value).toArray } e1
  rw [Heap.get?_update_other _ _ (Nat.ne_of_gt (Heap.lt_size e2))]
  exact Heap.get?_push_of_some _ e2
end
end XH
set_option Elab.async false
set_option linter.all false
set_option maxRecDepth 100000
set_option maxHeartbeats 4000000
/-! ### _law_called of k06 -/
namespace Q
open PySem L2 XD
def fix (t : Tbl) : PyData → Nat
  | .str n => (t.map (·.1)).idxOf n
  | _ => 0
/-- what a right call tells -/
def resD (t : Tbl) (rs : List (List Pr)) (d du : PyData) : Nat → PyData
  | 0 => rowsD (fills rs (factsOf d) t)
  | 1 => .tuple ((openOf (allPoss (fills rs (factsOf d) t) t)).map PyData.str)
  | 2 => ruleD (forcedOf (allPoss (fills rs (factsOf d) t) t))
  | 3 => clashD (clashOf rs (factsOf d) t)
  | 4 => .tuple ((possAt (fills rs (factsOf d) t) t (fix t du)).map PyData.str)
  | _ => twoD (twoOf (fills rs (factsOf d) t) (fix t du))
def badName (CB : Addr) (u : V) (H : Hp) (E : XK) : Prop := ∀ dd H', Same H H' → H' dd = none → E (.ref CB) (some dd) (L2.upd H' dd (.xd [("name", u)]))
def spCalled (K : PySem.W.Frag) (C CV CB : Addr) : Sp := fun vs H Q E => ∃ (n : Nat) (x pf pr : Addr) (v u : V) (t : Tbl) (rs : List (List Pr)) (d du : PyData), vs = [.int (n : Int), .ref x, v, u] ∧ n < 6 ∧ Ask K C H x v pf pr t rs d ∧ t.length ≤ 6 ∧ Dp K H u du ∧ SeqAt.shaped du = true ∧
  (areFacts t d = false → badAt CV H E) ∧ (areFacts t d = true → 3 < n → isName t du = false → badName CB u H E) ∧
  (areFacts t d = true → (n ≤ 3 ∨ isName t du = true) → ∀ r H', Same H H' → Dp K H' r (resD t rs d du n) → Q r H')
theorem strs_dp {K : PySem.W.Frag} {H : Hp} {z : Addr} {ws : List Str} (h : SqT K H z (ws.map V.str)) : Dp K H (.ref z) (.tuple (ws.map PyData.str)) := .tup h (dps_strs ws)
theorem name_not {t : Tbl} {du : PyData} (h : ∀ n, du = .str n → n ∉ t.map (·.1)) : isName t du = false := by
  cases du with
  | str n => exact decide_eq_false (h n rfl)
  | _ => rfl
theorem name_is {t : Tbl} (nd : (t.map (·.1)).Nodup) {du : PyData} {i : Nat} {n : Str} {ws : List Str} (e : du = .str n) (et : t[i]? = some (n, ws)) : isName t du = true ∧ fix t du = i := by
  subst e
  have hi := (List.getElem?_eq_some_iff.mp et).1
  have hm : n ∈ t.map (·.1) := List.mem_map.mpr ⟨_, List.mem_of_getElem? et, rfl⟩
  refine ⟨decide_eq_true hm, ?_⟩
  show (t.map (·.1)).idxOf n = i
  have h2 : (t.map (·.1))[i]'(by rw [List.length_map]; exact hi) = n := by
    rw [List.getElem_map, (List.getElem?_eq_some_iff.mp et).2]
  rw [← h2]
  exact List.Nodup.idxOf_getElem nd _ _
section
variable {P : Program} {w : World} {K : PySem.W.Frag} {mg : Str → Option Value} {base : Heap}
theorem scCalled : FnScope ["way", "sheet", "handed", "name"] ["way", "sheet", "handed", "name"] (defScope sCalled) := ⟨rfl, rfl, rfl, by decide +kernel, rfl, by decide +kernel, by decide +kernel⟩
theorem ok_called {f C CV CB : Addr} {fd : FuncData} (F : Fun K "_law_called" "_law_called" sCalled f fd) (KG : Kx2 P w K mg base 4 "fillings" (spFillings K C CV)) (KP : Kx3 P w K mg base 5 "possible" (spPossible K C CV CB)) (KW : Kx3 P w K mg base 5 "two_ways" (spTwo K C CV CB))
    (KO : Kx2 P w K mg base 6 "open_fields" (spOpen K C CV)) (KF : Kx2 P w K mg base 6 "forced" (spForced K C CV)) (KC : Kx2 P w K mg base 6 "clash" (spClash K C CV)) :
    FnOk P w K mg base (L2N.CX P w) 7 f fd ["way", "sheet", "handed", "name"] (spCalled K C CV CB) := by
  obtain ⟨fG, fdG, GG, kG, bG, mG, wG⟩ := KG.ex
  obtain ⟨fP, fdP, GP, kP, bP, mP, wP⟩ := KP.ex
  obtain ⟨fW, fdW, GW, kW, bW, mW, wW⟩ := KW.ex
  obtain ⟨fO, fdO, GO, kO, bO, mO, wO⟩ := KO.ex
  obtain ⟨fF, fdF, GF, kF, bF, mF, wF⟩ := KF.ex
  obtain ⟨fC, fdC, GC, kC, bC, mC, wC⟩ := KC.ex
  refine Fun_okN F scCalled (fun vs H Q E h => ?_) (fun cdv A outer s H vs Q E hr h => ?_)
  · obtain ⟨n, x, pf, pr, v, u, t, rs, d, du, rfl, _⟩ := h
    rfl
  refine ⟨_, pss_cons (ps_if (pt_cmpR op_eq (pv 0) pe_int (nomark _)) (pss_one (ps_ret (pe_call GG (hr.mono (by decide)) rfl mG kG bG .nil (L2N.passes_call (L2N.takes_of rfl rfl rfl rfl) (fun _ _ _ _ h => h)) (pa_cons (pv 1) (pa_cons (pv 2) pa_nil))))) pss_nil)
    (pss_cons (ps_if (pt_cmpR op_eq (pv 0) pe_int (nomark _)) (pss_one (ps_ret (pe_call GO (hr.mono (by decide)) rfl mO kO bO .nil (L2N.passes_call (L2N.takes_of rfl rfl rfl rfl) (fun _ _ _ _ h => h)) (pa_cons (pv 1) (pa_cons (pv 2) pa_nil))))) pss_nil)
    (pss_cons (ps_if (pt_cmpR op_eq (pv 0) pe_int (nomark _)) (pss_one (ps_ret (pe_call GF (hr.mono (by decide)) rfl mF kF bF .nil (L2N.passes_call (L2N.takes_of rfl rfl rfl rfl) (fun _ _ _ _ h => h)) (pa_cons (pv 1) (pa_cons (pv 2) pa_nil))))) pss_nil)
    (pss_cons (ps_if (pt_cmpR op_eq (pv 0) pe_int (nomark _)) (pss_one (ps_ret (pe_call GC (hr.mono (by decide)) rfl mC kC bC .nil (L2N.passes_call (L2N.takes_of rfl rfl rfl rfl) (fun _ _ _ _ h => h)) (pa_cons (pv 1) (pa_cons (pv 2) pa_nil))))) pss_nil)
    (pss_cons (ps_if (pt_cmpR op_eq (pv 0) pe_int (nomark _)) (pss_one (ps_ret (pe_call GP (hr.mono (by decide)) rfl mP kP bP .nil (L2N.passes_call (L2N.takes_of rfl rfl rfl rfl) (fun _ _ _ _ h => h)) (pa_cons (pv 1) (pa_cons (pv 2) (pa_cons (pv 3) pa_nil)))))) pss_nil)
    (pss_one (ps_ret (pe_call GW (hr.mono (by decide)) rfl mW kW bW .nil (L2N.passes_call (L2N.takes_of rfl rfl rfl rfl) (fun _ _ _ _ h => h)) (pa_cons (pv 1) (pa_cons (pv 2) (pa_cons (pv 3) pa_nil)))))))))), ?_⟩
  obtain ⟨n, x, pf, pr, v, u, t, rs, d, du, rfl, n6, A0, t6, hu, hsh, kbad, kfld, kyes⟩ := h
  have nd := A0.ok.nd
  match n, n6 with
  | 0, _ =>
    refine ⟨_, rfl, rfl, _, rfl, iteDT rfl ⟨_, rfl, _, rfl, x, pf, pr, v, t, rs, d, rfl, A0.fa, A0.tf, A0.rf, A0.ok, A0.dp, A0.fo, A0.fz, kbad, fun ya z H1 s1 hz => kyes ya (.inl (by decide)) _ _ s1 hz.dp⟩⟩
  | 1, _ =>
    refine ⟨_, rfl, rfl, _, rfl, iteDF (by decide) ⟨_, rfl, rfl, _, rfl, iteDT rfl ⟨_, rfl, _, rfl, x, pf, pr, v, t, rs, d, rfl, A0, kbad, fun ya z H1 s1 hz => kyes ya (.inl (by decide)) _ _ s1 (strs_dp hz)⟩⟩⟩
  | 2, _ =>
    refine ⟨_, rfl, rfl, _, rfl, iteDF (by decide) ⟨_, rfl, rfl, _, rfl, iteDF (by decide) ⟨_, rfl, rfl, _, rfl, iteDT rfl ⟨_, rfl, _, rfl, x, pf, pr, v, t, rs, d, rfl, A0, kbad, fun ya z H1 s1 hz => kyes ya (.inl (by decide)) _ _ s1 hz.dp⟩⟩⟩⟩
  | 3, _ =>
    refine ⟨_, rfl, rfl, _, rfl, iteDF (by decide) ⟨_, rfl, rfl, _, rfl, iteDF (by decide) ⟨_, rfl, rfl, _, rfl, iteDF (by decide) ⟨_, rfl, rfl, _, rfl, iteDT rfl ⟨_, rfl, _, rfl, x, pf, pr, v, t, rs, d, rfl, A0, t6, kbad, fun ya r H1 s1 hz => kyes ya (.inl (by decide)) _ _ s1 hz⟩⟩⟩⟩⟩
  | 4, _ =>
    refine ⟨_, rfl, rfl, _, rfl, iteDF (by decide) ⟨_, rfl, rfl, _, rfl, iteDF (by decide) ⟨_, rfl, rfl, _, rfl, iteDF (by decide) ⟨_, rfl, rfl, _, rfl, iteDF (by decide) ⟨_, rfl, rfl, _, rfl, iteDT rfl ⟨_, rfl, _, rfl, _, rfl, x, pf, pr, v, u, t, rs, d, du, rfl, A0, hu, hsh, kbad, fun ya hn => kfld ya (by decide) (name_not hn), fun ya i m ws e et z H1 s1 hz => ?_⟩⟩⟩⟩⟩⟩
    obtain ⟨a, b⟩ := name_is nd e et
    refine kyes ya (.inr a) _ _ s1 ?_
    show Dp K H1 _ (.tuple ((possAt (fills rs (factsOf d) t) t (fix t du)).map PyData.str))
    rw [b]
    exact strs_dp hz
  | 5, _ =>
    refine ⟨_, rfl, rfl, _, rfl, iteDF (by decide) ⟨_, rfl, rfl, _, rfl, iteDF (by decide) ⟨_, rfl, rfl, _, rfl, iteDF (by decide) ⟨_, rfl, rfl, _, rfl, iteDF (by decide) ⟨_, rfl, rfl, _, rfl, iteDF (by decide) ⟨_, rfl, _, rfl, _, rfl, x, pf, pr, v, u, t, rs, d, du, rfl, A0, hu, hsh, kbad, fun ya hn => kfld ya (by decide) (name_not hn), fun ya i m ws e et r H1 s1 hz => ?_⟩⟩⟩⟩⟩⟩
    obtain ⟨a, b⟩ := name_is nd e et
    refine kyes ya (.inr a) _ _ s1 ?_
    show Dp K H1 _ (twoD (twoOf (fills rs (factsOf d) t) (fix t du)))
    rw [b]
    exact hz
end
end Q
set_option Elab.async false
set_option linter.all false
set_option maxRecDepth 100000
set_option maxHeartbeats 4000000
/-! ### _law_told of k06: what is told, or which error with what -/
namespace Q
open PySem PySem.Spec L2 XD XT XM XH
/-- the two errors and their base -/
structure Er6 (K : PySem.W.Frag) (mg : Str → Option Value) (CV CB B : Addr) : Prop where
  tv : ∃ fI q, XcT K CV fI "at" q
  tb : ∃ fI q, XcT K CB fI "name" q
  gv : mg "BadValue" = some (.ref CV)
  gb : mg "BadField" = some (.ref CB)
  gB : mg "TalkError" = some (.ref B)
  vv : PySem.W.exmOne K (.ref CV) (.ref CV) = some true
  bv : PySem.W.exmOne K (.ref CB) (.ref CV) = some false
  bb : PySem.W.exmOne K (.ref CB) (.ref CB) = some true
  kvB : PySem.W.kitOne K (.ref CV) (.ref B) = some true
  kvb : PySem.W.kitOne K (.ref CV) (.ref CB) = some false
  kbB : PySem.W.kitOne K (.ref CB) (.ref B) = some true
  kbv : PySem.W.kitOne K (.ref CB) (.ref CV) = some false
  qv : ClsQ K CV
  qb : ClsQ K CB
def toldD (t : Tbl) (rs : List (List Pr)) (d du : PyData) (n : Nat) : PyData :=
  if areFacts t d = true then (if 3 < n ∧ isName t du = false then .tuple [.str "field", du] else .tuple [.str "told", resD t rs d du n]) else .tuple [.str "value", .int 1]
def spTold (K : PySem.W.Frag) (C : Addr) : Sp := fun vs H Q _ => ∃ (n : Nat) (x pf pr : Addr) (v u : V) (t : Tbl) (rs : List (List Pr)) (d du : PyData), vs = [.int (n : Int), .ref x, v, u] ∧ n < 6 ∧ Ask K C H x v pf pr t rs d ∧ t.length ≤ 6 ∧ Dp K H u du ∧ SeqAt.shaped du = true ∧
  ∀ r H', Same H H' → Dp K H' r (toldD t rs d du n) → Q r H'
theorem is1t {X Y : Cx} {a : Addr} {oe : Obj} {pn : List (Addr × Obj)} {cls : Value} {d : Option Addr} (hz : L2N.Zn cls d oe) (hf : ∃ vs, oe.data = .fields vs) (K : PySem.W.Frag) (hK : Y.K = K) (e : Y = X.suite a ((a, oe) :: pn)) :
    CallR Y (.builtin "isinstance") (fun xs H Q => ∃ D, Held K cls d D H ∧ rIs1 K D a xs H Q) := by
  subst hK
  subst e
  exact call_is1 hz.zc hf
theorem xf_ofT {K : PySem.W.Frag} {C fI : Addr} {f q : Str} (T : XcT K C fI f q) : XfC K C := ⟨T.ga, T.gg, T.exC, T.hdC⟩
theorem takesT {X : Cx} : L2N.Takes X (fun _ _ _ _ => False) := fun _ _ x => by
  obtain ⟨_, _, _, _, _, _, _, _, _, _, _, _, _, _, _, _, z⟩ := x
  exact z.elim
abbrev tIsT (K : PySem.W.Frag) (cls : Value) (d : Option Addr) (a D : Addr) : TE := tCB (fun xs H Q => ∃ D, Held K cls d D H ∧ rIs1 K D a xs H Q) (tCons (tVar 4) (tCons (tC (.ref D)) tNil))
def tsT (K : PySem.W.Frag) (C1 C2 B : Addr) (f w1 : Str) (z : Int) : Addr → Value → Option Addr → TS := fun a cls d =>
  tSeq (tIfS (tOr (tNot (tB (tIsT K cls d a B))) (tB (tIsT K cls d a C2))) (tRet (tTup (tCons (tC (.str "odd")) (tCons (tC (.int z)) tNil)))) tNext)
    (tRet (tTup (tCons (tC (.str w1)) (tCons (tXf a cls d C1 f (tVar 4)) tNil))))
section
variable {P : Program} {w : World} {K : PySem.W.Frag} {mg : Str → Option Value} {base : Heap}
theorem scLTold : FnScope ["way", "sheet", "handed", "name", "error"] ["way", "sheet", "handed", "name"] (defScope sLTold) := ⟨rfl, rfl, rfl, by decide +kernel, rfl, by decide +kernel, by decide +kernel⟩
theorem ok_ltold {f fD C CV CB B : Addr} {fd fdD : FuncData} (F : Fun K "_law_told" "_law_told" sLTold f fd) (T : Er6 K mg CV CB B) (Ti : mg "isinstance" = none)
    (GD : FnOk P w K mg base (L2N.CX P w) 7 fD fdD ["way", "sheet", "handed", "name"] (spCalled K C CV CB)) (kD : PySem.W.keepIn K (.ref fD) = true) (bD : Binds K fdD ["way", "sheet", "handed", "name"] []) (mD : mg "_law_called" = some (.ref fD)) :
    FnOk P w K mg base CX0 8 f fd ["way", "sheet", "handed", "name"] (spTold K C) := by
  obtain ⟨fIv, qv, XV⟩ := T.tv
  obtain ⟨fIb, qb, XB⟩ := T.tb
  refine F.ok scLTold (fun vs H Q E h => ?_) (fun cdv A outer s H vs Q E hr h => ?_)
  · obtain ⟨n, x, pf, pr, v, u, t, rs, d, du, rfl, _⟩ := h
    rfl
  obtain ⟨n, x, pf, pr, v, u, t, rs, d, du, rfl, n6, A0, t6, hu, hsh, kq⟩ := h
  have vI : PySem.bootBuiltins "isinstance" = some (.builtin "isinstance") := by decide +kernel
  refine ⟨_, pss_one (ps_try_cls (tb := fun W => tRet (tTup (tCons (tC (.str "told")) (tCons (tCallS (spCalled K C CV CB) (L2.WE W) (tCons (tVar 0) (tCons (tVar 1) (tCons (tVar 2) (tCons (tVar 3) tNil))))) tNil))))
      (l := [⟨.ref CV, 4, tsT K CV CB B "at" "value" 0⟩, ⟨.ref CB, 4, tsT K CB CV B "name" "field" 1⟩]) (Wout := fun _ _ _ _ => False) rfl rfl scLTold.nd takesT
      (fun W pn xe tk _ => pss_one (ps_ret (pe_tup (pa_cons pe_str (pa_cons (pe_callS GD hr rfl mD kD bD (fun σ => L2N.passAt tk σ) (pa_cons (pv 0) (pa_cons (pv 1) (pa_cons (pv 2) (pa_cons (pv 3) pa_nil))))) pa_nil)))))
      (.cons ⟨rfl, by decide, .inl T.gv⟩ rfl rfl ?s1 (.cons ⟨rfl, by decide, .inl T.gb⟩ rfl rfl ?s2 .nil))), ?_⟩
  case s1 =>
    intro a oe cls d pn hz hf
    show PSs _ _ (tsT K CV CB B "at" "value" 0 a cls d)
    unfold tsT
    refine pss_cons ?c1 (pss_one ?c2)
    case c1 => exact ps_if (PW.pt (pw_or (pt_not (pt_val (pe_callB (is1t hz hf K (by rfl) (by rfl)) (by rfl) Ti vI (pa_cons (pv 4) (pa_cons (pe_glob (v := .ref B) (by rfl) T.gB (by rfl)) pa_nil))))) (pw_or1 (pt_val (pe_callB (is1t hz hf K (by rfl) (by rfl)) (by rfl) Ti vI (pa_cons (pv 4) (pa_cons (pe_glob (v := .ref CB) (by rfl) T.gb (by rfl)) pa_nil))))))) (pss_one (ps_ret (pe_tup (pa_cons pe_str (pa_cons pe_int pa_nil))))) pss_nil
    case c2 => exact ps_ret (pe_tup (pa_cons pe_str (pa_cons (pe_xf (xf_ofT XV) XV.noN hz.zc hf (pv 4)) pa_nil)))
  case s2 =>
    intro a oe cls d pn hz hf
    show PSs _ _ (tsT K CB CV B "name" "field" 1 a cls d)
    unfold tsT
    refine pss_cons ?c1 (pss_one ?c2)
    case c1 => exact ps_if (PW.pt (pw_or (pt_not (pt_val (pe_callB (is1t hz hf K (by rfl) (by rfl)) (by rfl) Ti vI (pa_cons (pv 4) (pa_cons (pe_glob (v := .ref B) (by rfl) T.gB (by rfl)) pa_nil))))) (pw_or1 (pt_val (pe_callB (is1t hz hf K (by rfl) (by rfl)) (by rfl) Ti vI (pa_cons (pv 4) (pa_cons (pe_glob (v := .ref CV) (by rfl) T.gv (by rfl)) pa_nil))))))) (pss_one (ps_ret (pe_tup (pa_cons pe_str (pa_cons pe_int pa_nil))))) pss_nil
    case c2 => exact ps_ret (pe_tup (pa_cons pe_str (pa_cons (pe_xf (xf_ofT XB) XB.noN hz.zc hf (pv 4)) pa_nil)))
  refine ⟨_, rfl, _, rfl, _, rfl, _, rfl, n, x, pf, pr, v, u, t, rs, d, du, rfl, n6, A0, t6, hu, hsh, fun na dd H1 s1 hd => ?_, fun ya n3 ni dd H1 s1 hd => ?_, fun ya hn r H1 s1 hr1 => ?_⟩
  · have s2 : Same H1 (L2.upd H1 dd (.xd [("at", .int 1)])) := new_same hd _
    refine ⟨true, T.vv, fun _ a _ => ?_, fun z => Bool.noConfusion z⟩
    refine ⟨_, rfl, CV, ⟨rfl, T.qv, dd, _, rfl, upd_same⟩, .ref B, .ref B, true, rfl, .own B, T.kvB, _, rfl, ?_⟩
    refine iteF ⟨_, rfl, CV, ⟨rfl, T.qv, dd, _, rfl, upd_same⟩, .ref CB, .ref CB, false, rfl, .own CB, T.kvb, _, rfl, iteF ?_⟩
    refine ⟨_, rfl, rfl, rfl, dd, _, .int 1, rfl, upd_same, by simp [List.lookup], by show 2 ≤ sizeLine; decide, fun p hp => ?_⟩
    refine kq _ _ ((s1.trans s2).trans (new_same hp _)) ?_
    unfold toldD
    rw [if_neg (by rw [na]; exact Bool.false_ne_true)]
    exact .tup (.inl (.inl upd_same)) (.cons (.str _) (.cons (.int _) .nil))
  · have s2 : Same H1 (L2.upd H1 dd (.xd [("name", u)])) := new_same hd _
    refine ⟨false, T.bv, (fun z => Bool.noConfusion z), fun _ => ⟨true, T.bb, fun _ a _ => ?_, fun z => Bool.noConfusion z⟩⟩
    refine ⟨_, rfl, CB, ⟨rfl, T.qb, dd, _, rfl, upd_same⟩, .ref B, .ref B, true, rfl, .own B, T.kbB, _, rfl, ?_⟩
    refine iteF ⟨_, rfl, CB, ⟨rfl, T.qb, dd, _, rfl, upd_same⟩, .ref CV, .ref CV, false, rfl, .own CV, T.kbv, _, rfl, iteF ?_⟩
    refine ⟨_, rfl, rfl, rfl, dd, _, u, rfl, upd_same, by simp [List.lookup], by show 2 ≤ sizeLine; decide, fun p hp => ?_⟩
    have s3 := (s1.trans s2).trans (new_same hp (.tup [.str "field", u]))
    refine kq _ _ s3 ?_
    unfold toldD
    rw [if_pos ya, if_pos ⟨n3, ni⟩]
    exact .tup (.inl (.inl upd_same)) (.cons (.str _) (.cons (dp_same s3 hu) .nil))
  · refine ⟨by show 2 ≤ sizeLine; decide, fun p hp => ?_⟩
    have s3 := new_same hp (.tup [.str "told", r])
    refine kq _ _ (s1.trans s3) ?_
    unfold toldD
    rw [if_pos ya, if_neg (fun z => by
      rcases hn with e | e
      · exact absurd z.1 (by omega)
      · rw [e] at z
        exact Bool.noConfusion z.2)]
    exact .tup (.inl (.inl upd_same)) (.cons (.str _) (.cons (dp_same s3 hr1) .nil))
end
end Q
set_option Elab.async false
set_option linter.all false
set_option maxRecDepth 100000
set_option maxHeartbeats 4000000
/-! ### what wrong rules are -/
namespace Q
open PySem L2 XD
def pairD (e : Str × Str) : PyData := .tuple [.str e.1, .str e.2]
theorem sqZ_rm {H : Hp} {a q : Addr} {xs ys : List V} (e : H a = some (.lst ys)) (h : SqZ H q xs) : SqZ (rmL [a] H) q xs := by
  obtain ⟨o, h, d⟩ := h
  refine ⟨o, ?_, d⟩
  rw [rm_at (fun z => by rw [List.mem_singleton.mp z, e] at h; cases h)]
  exact h
theorem prd_rm {K : PySem.W.Frag} {H : Hp} {a : Addr} {ys : List V} (e : H a = some (.lst ys)) : ∀ {qs : List Addr} {r : List (Str × Str)}, Paired (fun q (e : Str × Str) => SqT K H q [.str e.1, .str e.2]) qs r → Paired (fun q (e : Str × Str) => SqT K (rmL [a] H) q [.str e.1, .str e.2]) qs r
  | _, _, .nil => .nil
  | _, _, .cons x y => .cons (seqT_rm e x) (prd_rm e y)
theorem RuleAt.rm {K : PySem.W.Frag} {H : Hp} {a p : Addr} {ys : List V} {r : List (Str × Str)} (e : H a = some (.lst ys)) (h : RuleAt K H p r) : RuleAt K (rmL [a] H) p r := by
  obtain ⟨qs, h1, h2⟩ := h
  exact ⟨qs, sqZ_rm e h1, prd_rm e h2⟩
theorem rules_rm {K : PySem.W.Frag} {H : Hp} {a : Addr} {ys : List V} (e : H a = some (.lst ys)) : ∀ {qs : List Addr} {rs : List (List (Str × Str))}, Paired (RuleAt K H) qs rs → Paired (RuleAt K (rmL [a] H)) qs rs
  | _, _, .nil => .nil
  | _, _, .cons x y => .cons (x.rm e) (rules_rm e y)
theorem RuleAt.td {K : PySem.W.Frag} {H : Hp} {p : Addr} {r : List (Str × Str)} (h : RuleAt K H p r) : TD K H (.ref p) (r.map pairD) := TD.of h.dp
theorem PL.catIn {K : PySem.W.Frag} {S : List Addr} {P : PyData → Prop} {n m : Nat} {D E : Addr} {H : Hp} {Q : VK} (h : PL K S P n D H) (g : PL K S P m E H) (hl : n + m ≤ 1000) (k : ∀ z H', Same H H' → H z = none → PL K (z :: S) P (n + m) z H' → Q (.ref z) H') : rCat (.ref D) (.ref E) H Q := by
  obtain ⟨vs, h1, h2, h3⟩ := h.ex
  obtain ⟨us, g1, g2, g3⟩ := g.ex
  refine ⟨D, E, vs, us, rfl, rfl, h1, g1, le_line (by omega), fun z hz => k z _ (new_same hz _) hz ⟨vs ++ us, upd_same, by rw [List.length_append]; omega, fun v hv => ?_⟩⟩
  have s := same_in (S := S) hz (new_same hz (.lst (vs ++ us)))
  rcases List.mem_append.mp hv with hv | hv
  · obtain ⟨d, a, b⟩ := h3 v hv
    exact ⟨d, dp_same s a, b⟩
  · obtain ⟨d, a, b⟩ := g3 v hv
    exact ⟨d, dp_same s a, b⟩
/-! texts and shapes -/
theorem ok_of {s : Str} (h : ∀ c ∈ tlx s, c < 0x110000) : PyData.strOk s = true := by
  unfold PyData.strOk
  rw [← Array.all_toList]
  exact List.all_eq_true.mpr fun c hc => decide_eq_true (h c hc)
theorem word_small {n : Str} (h : word n = true) : ∀ c ∈ tlx n, c < 0x110000 := fun c hc => az_small (List.all_eq_true.mp (word_iff.mp h).2.2 c hc)
theorem ok_app {n m : Str} (h : ∀ c ∈ tlx n, c < 0x110000) (h' : ∀ c ∈ tlx m, c < 0x110000) : PyData.strOk (n ++ m) = true := ok_of fun c hc => by
  rw [tlx_app] at hc
  rcases List.mem_append.mp hc with hc | hc
  · exact h c hc
  · exact h' c hc
theorem upper_small : ∀ l : List Nat, l.all az = true → ∀ c ∈ tlx (Txt.upper ⟨l.toArray⟩), c < 0x110000
  | [], _ => fun c hc => by
    have : tlx (Txt.upper ⟨#[]⟩) = [] := by decide +kernel
    have h2 : c ∈ tlx (Txt.upper ⟨#[]⟩) := hc
    rw [this] at h2
    cases h2
  | x :: l, h => fun c hc => by
    rw [List.all_cons, Bool.and_eq_true] at h
    obtain ⟨c1, c2⟩ := az_iff h.1
    have es : (⟨(x :: l).toArray⟩ : Str) = (⟨#[x]⟩ : Str) ++ ⟨l.toArray⟩ := tlx_inj (by rw [tlx_app]; rfl)
    rw [es, PySem.W.KOpn.upper_app, PySem.W.KOpn.upper_one (by omega), tlx_app] at hc
    rcases List.mem_append.mp hc with hc | hc
    · rw [tlx_one] at hc
      rw [List.mem_singleton.mp hc]
      split <;> omega
    · exact upper_small l h.2 c hc
theorem upper_ok {n : Str} (h : word n = true) : PyData.strOk (Txt.upper n) = true := by
  have e : n = ⟨(tlx n).toArray⟩ := tlx_inj rfl
  refine ok_of ?_
  rw [e]
  exact upper_small _ (word_iff.mp h).2.2
theorem tup1_shaped {n : Str} (h : PyData.strOk n = true) : SeqAt.shaped (.tuple [.str n]) = true := by
  unfold SeqAt.shaped
  rw [Bool.and_eq_true]
  refine ⟨?_, decide_eq_true ?_⟩
  · simp only [PyData.canLay0, PyData.canLayAll0, Bool.and_true]
    exact h
  · simp [PyData.depth, PyData.depthAll]
def NO (d : PyData) : Prop := isWord d = false ∧ SeqAt.shaped d = true
/-! rules -/
def GS (f : PyData) : Prop := ∀ a b, pairOf f = some (a, b) → SeqAt.shaped b = true
theorem fok_of {d : PyData} {fs : List PyData} (e : rowOf d = some fs) (h : ∀ f ∈ fs, GS f) : FOk d := fun gs eg f hf a b ep => by
  rw [e] at eg
  cases eg
  exact h f hf a b ep
theorem gs_pair {e : Str × Str} (h : PyData.strOk e.2 = true) : GS (pairD e) := fun a b ep => by
  cases ep
  exact str_shaped h
theorem gs_two {x b : PyData} (h : SeqAt.shaped b = true) : GS (.tuple [x, b]) := fun a c ep => by
  cases ep
  exact h
theorem gs_none {f : PyData} (h : pairOf f = none) : GS f := fun a b ep => by
  rw [h] at ep
  cases ep
def BR (t : List (Str × List Str)) (d : PyData) : Prop := ruleOk t d = false ∧ FOk d
def BadB (t : List (Str × List Str)) (d : PyData) : Prop := areRules t d = false ∧ ROk d
section
variable {t : List (Str × List Str)}
theorem br_norow {d : PyData} (e : rowOf d = none) : BR t d := by
  refine ⟨?_, fun fs h => by rw [e] at h; cases h⟩
  unfold ruleOk
  rw [e]
theorem br_empty {d : PyData} (e : rowOf d = some []) : BR t d := by
  refine ⟨?_, fok_of e fun f h => absurd h List.not_mem_nil⟩
  unfold ruleOk
  rw [e]
  show (areFacts t d && (decide (1 ≤ ([] : List PyData).length) && _)) = false
  have : decide (1 ≤ ([] : List PyData).length) = false := rfl
  rw [this, Bool.false_and, Bool.and_false]
theorem br_go {d : PyData} {fs : List PyData} (e : rowOf d = some fs) (h : goFacts t [] fs = false) (g : ∀ f ∈ fs, GS f) : BR t d := by
  refine ⟨ruleOk_no ?_, fok_of e g⟩
  unfold areFacts
  rw [e]
  show (decide (fs.length ≤ t.length) && goFacts t [] fs) = false
  rw [h, Bool.and_false]
theorem go_name (T : TabOk t) {d b : PyData} {fs : List PyData} {seen : List Str} (h : isWord d = false) : goFacts t seen (.tuple [d, b] :: fs) = false := by
  cases es : isStr d with
  | false => exact go_nostr (a := d) (b := b) rfl es
  | true =>
    obtain ⟨n, rfl⟩ : ∃ n, d = .str n := by
      cases d <;> first | exact ⟨_, rfl⟩ | cases es
    refine go_new (n := n) (b := b) rfl ?_
    cases e : look n t with
    | none => rfl
    | some ws =>
      have := T.nm.2 n (List.mem_map.mpr ⟨_, look_mem e, rfl⟩)
      have h2 : word n = false := h
      rw [this] at h2
      cases h2
theorem go_strange {n : Str} {b : PyData} {fs : List PyData} {seen : List Str} (h : n ∉ t.map (·.1)) : goFacts t seen (.tuple [.str n, b] :: fs) = false := by
  refine go_new (n := n) (b := b) rfl ?_
  cases e : look n t with
  | none => rfl
  | some ws => exact absurd (List.mem_map.mpr ⟨_, look_mem e, rfl⟩) h
theorem go_value {n : Str} {d : PyData} {fs : List PyData} {seen : List Str} (h : ∀ ws, (n, ws) ∈ t → stands ws d = false) : goFacts t seen (.tuple [.str n, d] :: fs) = false := by
  cases e : look n t with
  | none => exact go_new (n := n) (b := d) rfl e
  | some ws =>
    rw [go_old (n := n) (b := d) rfl e, h ws (look_mem e), Bool.false_and, Bool.and_false]
theorem stands_no (T : TabOk t) {n : Str} {ws : List Str} {d : PyData} (h : (n, ws) ∈ t) (hd : isWord d = false) : stands ws d = false := by
  cases e : stands ws d with
  | false => rfl
  | true =>
    obtain ⟨w, rfl, hw⟩ := stands_str e
    have := (T.vs _ h).1.2 w hw
    have h2 : word w = false := hd
    rw [this] at h2
    cases h2
theorem go_nodup : ∀ {fs : List PyData} {seen : List Str}, goFacts t seen fs = true → ((fs.map factOf).map (·.1)).Nodup ∧ ∀ e ∈ fs.map factOf, e.1 ∉ seen
  | [], _, _ => ⟨List.nodup_nil, fun e h => absurd h List.not_mem_nil⟩
  | f :: fs, seen, h => by
    obtain ⟨n, w, ws, e1, e2, e3, e4, e5⟩ := go_cons h
    obtain ⟨i1, i2⟩ := go_nodup e5
    have ef : factOf f = (n, w) := by
      unfold factOf
      rw [e1]
    rw [List.map_cons, List.map_cons, ef, List.nodup_cons]
    refine ⟨⟨fun z => ?_, i1⟩, fun e he => ?_⟩
    · obtain ⟨e, he, z2⟩ := List.mem_map.mp z
      exact i2 e he (by rw [show e.1 = n from z2]; exact List.mem_cons_self)
    · rcases List.mem_cons.mp he with rfl | he
      · intro z
        have : seen.contains n = true := by simpa using z
        rw [this] at e4
        cases e4
      · exact fun z => i2 e he (List.mem_cons_of_mem _ z)
theorem facts_pairs (r : List (Str × Str)) : (r.map pairD).map factOf = r := by
  rw [List.map_map]
  exact List.map_id _
theorem go_twice {r : List (Str × Str)} {seen : List Str} (h : ¬ (r.map (·.1)).Nodup) : goFacts t seen (r.map pairD) = false := by
  cases e : goFacts t seen (r.map pairD) with
  | false => rfl
  | true =>
    have := (go_nodup e).1
    rw [facts_pairs] at this
    exact absurd this h
/-! lists of rules -/
theorem badB_norow {d : PyData} (e : rowOf d = none) : BadB t d := by
  refine ⟨?_, fun fs h => by rw [e] at h; cases h⟩
  unfold areRules
  rw [e]
theorem badB_in {d f : PyData} {fs : List PyData} (e : rowOf d = some fs) (hf : f ∈ fs) (h : ruleOk t f = false) (hs : ∀ f ∈ fs, FOk f) : BadB t d := by
  refine ⟨?_, fun gs eg f hf => by rw [e] at eg; cases eg; exact hs f hf⟩
  unfold areRules
  rw [e]
  show (decide (fs.length ≤ 20) && fs.all (ruleOk t)) = false
  have : fs.all (ruleOk t) = false := List.all_eq_false.mpr ⟨f, hf, by rw [h]; exact fun z => by cases z⟩
  rw [this, Bool.and_false]
theorem badB_many {d : PyData} {fs : List PyData} (e : rowOf d = some fs) (h : 20 < fs.length) (hs : ∀ f ∈ fs, FOk f) : BadB t d := by
  refine ⟨?_, fun gs eg f hf => by rw [e] at eg; cases eg; exact hs f hf⟩
  unfold areRules
  rw [e]
  show (decide (fs.length ≤ 20) && fs.all (ruleOk t)) = false
  rw [decide_eq_false (by omega : ¬ fs.length ≤ 20), Bool.false_and]
end
/-! seven words -/
def wds7 : List Str := (("abcdefg" : Str).cps.toList).map fun c => (⟨#[c]⟩ : Str) ++ "bcdefgi"
theorem wds7_nodup : wds7.Nodup := by decide +kernel
theorem wds7_len : wds7.length = 7 := by decide +kernel
theorem wds7_ok : ∀ x ∈ wds7, PyData.strOk x = true := by decide +kernel
theorem left_over {ns : List Str} (h : ns.length < 7) : ∃ x l, wds7.filter (fun w => !decide (w ∈ ns)) = x :: l ∧ x ∉ ns ∧ x ∈ wds7 := by
  cases e : wds7.filter (fun w => !decide (w ∈ ns)) with
  | nil =>
    exfalso
    have hs : wds7 ⊆ ns := fun x hx => by
      have := List.filter_eq_nil_iff.mp e x hx
      simpa using this
    have := List.Nodup.length_le_of_subset wds7_nodup hs
    rw [wds7_len] at this
    omega
  | cons x l =>
    have hx : x ∈ wds7.filter (fun w => !decide (w ∈ ns)) := by rw [e]; exact List.mem_cons_self
    rw [List.mem_filter] at hx
    exact ⟨x, l, rfl, by simpa using hx.2, hx.1⟩
theorem wds7_at {i c : Nat} (h : ("abcdefg" : Str).cps[i]? = some c) : wds7[i]? = some ((⟨#[c]⟩ : Str) ++ "bcdefgi") := by
  unfold wds7
  rw [List.getElem?_map, Array.getElem?_toList, h]
  rfl
theorem wds7_all : wds7.take ("abcdefg" : Str).cps.size = wds7 := List.take_of_length_le (by rw [wds7_len]; decide)
/-- the seven, with nothing to unfold -/
theorem w7_ex : ∃ w7 : List Str, (∀ (i c : Nat), ("abcdefg" : Str).cps[i]? = some c → w7[i]? = some ((⟨#[c]⟩ : Str) ++ "bcdefgi")) ∧ w7.take ("abcdefg" : Str).cps.size = w7 ∧ w7.length = 7 ∧ (∀ x ∈ w7, PyData.strOk x = true) ∧
    ∀ ns : List Str, ns.length < 7 → ∃ x l, w7.filter (fun w => !decide (w ∈ ns)) = x :: l ∧ x ∉ ns ∧ x ∈ w7 :=
  ⟨wds7, fun _ _ h => wds7_at h, wds7_all, wds7_len, wds7_ok, fun _ h => left_over h⟩
end Q
set_option Elab.async false
set_option linter.all false
set_option maxRecDepth 100000
set_option maxHeartbeats 4000000
/-! ### written data -/
namespace Q
open PySem L2 XD
/-- the expression makes such data, beside S -/
def MkD (K : PySem.W.Frag) (S : List Addr) (H0 : Hp) (σ : L2.St) (te : TE) (d : PyData) : Prop := ∀ H (Q : VK), Same H0 H → (∀ v H', Same H H' → Dp K (rmL S H') v d → Q v H') → te σ H Q
def MkL (K : PySem.W.Frag) (S : List Addr) (H0 : Hp) (σ : L2.St) (ta : TA) (ds : List PyData) : Prop := ∀ H (Q : List V → Hp → Prop), Same H0 H → (∀ vs H', Same H H' → DpAll K (rmL S H') vs ds → Q vs H') → ta σ H Q
section
variable {K : PySem.W.Frag} {S : List Addr} {H0 : Hp} {σ : L2.St}
theorem mk_var {i : Nat} {v : V} {d : PyData} (e : σ[i]? = some (some v)) (h : Dp K (rmL S H0) v d) : MkD K S H0 σ (tVar i) d := fun H Q s k => ⟨v, e, k v H (Same.refl H) (dp_same (rm_same s) h)⟩
theorem mk_str (x : Str) : MkD K S H0 σ (tC (.str x)) (.str x) := fun H Q s k => k _ H (Same.refl H) (.str x)
theorem mk_int (x : Int) : MkD K S H0 σ (tC (.int x)) (.int x) := fun H Q s k => k _ H (Same.refl H) (.int x)
theorem mk_bl (x : Bool) : MkD K S H0 σ (tC (.bl x)) (.bool x) := fun H Q s k => k _ H (Same.refl H) (.bl x)
theorem mk_non : MkD K S H0 σ (tC .non) .none := fun H Q s k => k _ H (Same.refl H) .non
theorem mkl_nil : MkL K S H0 σ tNil [] := fun H Q s k => k [] H (Same.refl H) .nil
theorem mkl_cons {te : TE} {ta : TA} {d : PyData} {ds : List PyData} (h : MkD K S H0 σ te d) (g : MkL K S H0 σ ta ds) : MkL K S H0 σ (tCons te ta) (d :: ds) := fun H Q s k =>
  h H _ s fun v H1 s1 hv => g H1 _ (s.trans s1) fun vs H2 s2 hvs => k (v :: vs) H2 (s1.trans s2) (.cons (dp_same (rm_same s2) hv) hvs)
theorem mk_tup {ta : TA} {ds : List PyData} (A : Alive S H0) (hl : Nat.ble ds.length 1000 = true) (h : MkL K S H0 σ ta ds) : MkD K S H0 σ (tTupZ ta) (.tuple ds) := fun H Q s k =>
  h H _ s fun vs H1 s1 hvs => ⟨le_line (by rw [dps_len hvs]; exact Nat.le_of_ble_eq_true hl), fun p o hp _ => k _ _ (s1.trans (new_same hp _)) (TD.dp (tup_td (A.same (s.trans s1)) hp hvs))⟩
theorem mk_lst {ta : TA} {ds : List PyData} (A : Alive S H0) (hl : Nat.ble ds.length 1000 = true) (h : MkL K S H0 σ ta ds) : MkD K S H0 σ (tLst ta) (.list ds) := fun H Q s k =>
  h H _ s fun vs H1 s1 hvs => ⟨le_line (by rw [dps_len hvs]; exact Nat.le_of_ble_eq_true hl), fun p hp => k _ _ (s1.trans (new_same hp _)) (lst_dp (A.same (s.trans s1)) hp hvs)⟩
theorem mk_up {te : TE} {x : Str} (h : ∀ H (Q : VK), Same H0 H → (∀ H', Same H H' → Q (.str x) H') → te σ H Q) (hl : x.length ≤ 1000) : MkD K S H0 σ (tM0 (fun x xs H Q => ∃ a, x = .str a ∧ xs = [] ∧ a.length ≤ 5592405 ∧ Q (.str (Txt.upper a)) H) te) (.str (Txt.upper x)) := fun H Q s k =>
  h H _ s fun H' s1 => ⟨⟨_, rfl⟩, _, rfl, rfl, Nat.le_trans hl (by decide), k _ H' s1 (.str _)⟩
theorem mk_ix {i : Nat} {v : Addr} {xs : List V} {x : V} {d : PyData} {z : Int} (e : σ[i]? = some (some (.ref v))) (h : SqT K H0 v xs) (hx : atI xs z = some x) (hd : Dp K (rmL S H0) x d) : MkD K S H0 σ (tOp (rBoth K) (tVar i) (tC (.int z))) d := fun H Q s k =>
  ⟨_, e, ix_row (.inr (seqT_same s h)) hx (k _ H (Same.refl H) (dp_same (rm_same s) hd))⟩
end
theorem asg_lst {ta : TA} {u : TS} {D : Ends} {σ : L2.St} {H : Hp} {i : Nat} (h : ta σ H fun xs H1 => xs.length ≤ sizeLine ∧ ∀ p, H1 p = none → u D (σ.set i (some (.ref p))) (L2.upd H1 p (.lst xs))) : tSeq (tAsg (tLst ta) (gName i)) u D σ H := h
theorem asg_cat {te : TE} {ta : TA} {u : TS} {D : Ends} {σ : L2.St} {H : Hp} {i : Nat} (h : te σ H fun x H1 => ta σ H1 fun xs H2 => xs.length ≤ sizeLine ∧ ∀ p, H2 p = none → rCat x (.ref p) (L2.upd H2 p (.lst xs)) fun v H3 => u D (σ.set i (some v)) H3) : tSeq (tAsg (tOp rCat te (tLst ta)) (gName i)) u D σ H := h
theorem ret_cat {te : TE} {ta : TA} {D : Ends} {σ : L2.St} {H : Hp} (h : te σ H fun x H1 => ta σ H1 fun xs H2 => xs.length ≤ sizeLine ∧ ∀ p, H2 p = none → rCat x (.ref p) (L2.upd H2 p (.lst xs)) D.rt) : tRet (tOp rCat te (tLst ta)) D σ H := h
theorem rm_nil {H : Hp} : rmL [] H = H := by
  funext b
  unfold rmL
  rw [if_neg List.not_mem_nil]
end Q
set_option Elab.async false
set_option linter.all false
set_option maxRecDepth 100000
set_option maxHeartbeats 4000000
/-! ### _law_handed, _law_fitting, of a list or a tuple (k05) -/
namespace Q
open PySem L2 XD
abbrev RowD (K : PySem.W.Frag) (H : Hp) (D : Addr) (xs : List V) : Prop := SqL K H D xs ∨ SqT K H D xs
theorem rowD_same {K : PySem.W.Frag} {H H' : Hp} {D : Addr} {xs : List V} (s : Same H H') (h : RowD K H D xs) : RowD K H' D xs := h.elim (fun z => .inl (s.seq z)) (fun z => .inr (seqT_same s z))
theorem rowD_tp {K : PySem.W.Frag} {H H' : Hp} {a b D : Addr} {xs : List V} (F : Tape b H a) (k : Kept a H H') (h : RowD K H D xs) : RowD K H' D xs := h.elim (fun z => .inl (seqL_tp F k z)) (fun z => .inr (seqT_tp F k z))
def spHandedB (K : PySem.W.Frag) : Sp := fun vs H Q _ => ∃ (a b m D : Addr) (t : Tbl) (bs : List NB) (zs : List Addr) (kn : NB), vs = [.ref a, .ref m, .ref D] ∧ Tape b H a ∧ ModelAt K H m t bs ∧ t.length ≤ 6 ∧ RowD K H D (zs.map V.ref) ∧ Paired (prN K H) zs kn ∧ KnOk t kn ∧
  ∀ v d H', Dp K H' v d → FRule (kn.map (tpr t)) d → FaZ K H' v d → Tape b H' a → Kept a H H' → Q v H'
def spFittingB (K : PySem.W.Frag) : Sp := fun vs H Q _ => ∃ (R D : Addr) (t : Tbl) (us zs : List Addr) (rows : List (List Nat)) (kn : NB), vs = [.ref R, .ref D] ∧ H R = some (.lst (us.map V.ref)) ∧ Paired (RowN K H) us rows ∧ rows.length ≤ 1000 ∧ (∀ row ∈ rows, RowOk t row) ∧ RowD K H D (zs.map V.ref) ∧ Paired (prN K H) zs kn ∧ KnOk t kn ∧ t.length ≤ 6 ∧
  ∀ (E : Addr) (vs : List Addr) (H' : Hp), Same H H' → H' E = some (.lst (vs.map V.ref)) → Paired (RowN K H') vs (rows.filter (fitN kn)) → Q (.ref E) H'
section
variable {P : Program} {w : World} {K : PySem.W.Frag} {mg : Str → Option Value} {base : Heap}
theorem scHandB : FnScope nHand ["tape", "model", "known"] (defScope sHanded) := ⟨rfl, rfl, rfl, by decide +kernel, rfl, by decide +kernel, by decide +kernel⟩
theorem ok_handedB {f : Addr} {fd : FuncData} (F : Fun K "_law_handed" "_law_handed" sHanded f fd) (T : BtT mg) (T3 : mg "tuple" = none) (KD : Kn P w K mg base 2 "_law_draw" ["tape", "many"] spDrawT) : FnOk P w K mg base CX0 3 f fd ["tape", "model", "known"] (spHandedB K) := by
  obtain ⟨fD, fdD, GD, kD, bD, mD⟩ := KD.ex
  refine F.ok scHandB (fun vs H Q E h => ?_) (fun cdv A outer s H vs Q E hr h => ?_)
  · obtain ⟨a, b, m, D, t, bs, zs, kn, rfl, _⟩ := h
    rfl
  obtain ⟨a, b, m, D, t, bs, zs, kn, rfl, ha, hm, t6, hD, hz, KO, k⟩ := h
  have vt_ : PySem.bootBuiltins "tuple" = some (.type "tuple") := by decide +kernel
  have vl_ : PySem.bootBuiltins "list" = some (.type "list") := by decide +kernel
  refine ⟨_, pss_cons (ps_setLc (i := 5) (own := [("at", 3), ("word", 4)]) (g := gRow K 2 (gCons (gName 3) (gCons (gName 4) gNil))) (tt := tYes) (by rfl) scHandB.nd rfl rfl (sw_true rfl rfl rfl (by decide +kernel)) (pi_row (pv 2)) (blkOk_by (N := nHand) (sc := defScope sHanded) (by decide +kernel))
      (fun _ _ _ _ _ => pg_row rfl (pgs_cons (pg_name (i := 3) scHandB.nd rfl (.inl rfl)) (pgs_cons (pg_name (i := 4) scHandB.nd rfl (.inl rfl)) pgs_nil))) (fun _ _ _ _ _ => pts_nil)
      (fun _ _ _ _ _ => pe_tupZ (pa_cons (pe_ix (ix_both K rfl) (pe_ix (ix_both K rfl) (pe_ix (ix_both K rfl) (pv 1) pe_int (fun _ _ => rfl)) (pv 3) (fun _ _ => rfl)) pe_int (fun _ _ => rfl))
          (pa_cons (pe_ix (ix_both K rfl) (pe_ix (ix_both K rfl) (pe_ix (ix_both K rfl) (pe_ix (ix_both K rfl) (pv 1) pe_int (fun _ _ => rfl)) (pv 3) (fun _ _ => rfl)) pe_int (fun _ _ => rfl)) (pv 4) (fun _ _ => rfl)) pa_nil))))
    (pss_cons (ps_if (pt_cmpR op_eq (pe_call GD hr rfl mD kD bD .nil pass0 (pa_cons (pv 0) (pa_cons pe_int pa_nil))) pe_int (nomark _))
      (pss_one (ps_ret (pe_lc (own := [("pair", 6)]) (g := gName 6) (tt := tYes) (by rfl) scHandB.nd (pi_row (pv 5)) (blkOk_by (N := nHand) (sc := defScope sHanded) (by decide +kernel))
        (fun _ _ _ _ _ => pg_name (i := 6) scHandB.nd rfl (.inl rfl)) (fun _ _ _ _ _ => pts_nil) (fun _ _ _ _ _ => pe_callTy (call_listK K rfl) rfl T.list vl_ (pa_cons (pv 6) pa_nil))))) pss_nil)
    (pss_one (ps_ret (pe_callTy (call_tupK K rfl) rfl T3 vt_ (pa_cons (pv 5) pa_nil))))), ?_⟩
  obtain ⟨B, N, ps, kvs, qs, m1, m2, m3, m4, m5⟩ := hm
  have hzl : zs.length = kn.length := prd_len hz
  have kl := KO.hi
  refine asg_lcX ?_
  refine lc_gA (ys := zs.map V.ref) (fun j v R => ∃ z, v = .ref z ∧ SqT K R z [.str (tpr t (kn.getD j (0, 0))).1, .str (tpr t (kn.getD j (0, 0))).2]) (fun _ => true) (fun j v R R' s ⟨q, e, h⟩ => ⟨q, e, seqT_same s h⟩) (fun Q' z => ⟨_, rfl, z⟩) hD (by rw [List.length_map]; omega) (fun D2 j y2 H2 yes2 no2 AD2 s3 s4 hy2 hyes2 hno2 => ?_) (fun D2 H2 zs2 hD2 s3 hz2 hP2 => ?_)
  · obtain ⟨z, ez, rfl⟩ : ∃ z, zs[j]? = some z ∧ y2 = .ref z := by
      rw [List.getElem?_map] at hy2
      obtain ⟨p, a, b⟩ := Option.map_eq_some_iff.mp hy2
      exact ⟨p, a, b.symm⟩
    obtain ⟨p, ep, hp⟩ := prd_at hz ez
    obtain ⟨e, o1, o2⟩ := KO.of p (List.mem_of_getElem? ep)
    obtain ⟨tp1, tp2⟩ := tpr_of o1 o2
    obtain ⟨q3, v3, c1, c2, c3⟩ := m3.get o1
    have m1' := seqT_same s3 m1
    have m2' := seqT_same s3 m2
    have c2' := seqT_same s3 c2
    have c3' := seqT_same s3 c3
    obtain ⟨acc, hacc⟩ := AD2
    refine .inl ⟨z, _, rfl, seqT_same s3 hp, rfl, .int (p.1 : Nat), _, rfl, .int (p.2 : Nat), [], rfl, rfl, rfl, ?_⟩
    dsimp only [tYes]
    refine iteT ?_
    refine ⟨_, rfl, ix_row (.inr m1') (by rfl) ⟨_, rfl, ix_row (.inr m2') (at_of rfl c1) (ix_row (.inr c2') (by rfl) ⟨_, rfl, ix_row (.inr m1') (by rfl) ⟨_, rfl, ix_row (.inr m2') (at_of rfl c1) (ix_row (.inr c2') (by rfl) ⟨_, rfl, ix_row (.inr c3') (at_of rfl (by rw [List.getElem?_map, tp2] <;> rfl)) ⟨by show 2 ≤ sizeLine; decide, fun x o hx ho => ?_⟩⟩)⟩⟩)⟩⟩
    refine hyes2 rfl _ _ (new_same hx _) ⟨x, rfl, ?_⟩
    rw [show kn.getD j (0, 0) = p from getD_of ep, tp1]
    exact .inl (.inr ⟨o, rm_new (alive_of hacc) hx⟩)
  obtain ⟨xs, rfl, hxs⟩ := refs_of (T := fun z (e : Pr) => SqT K (rmL [D2] H2) z [.str e.1, .str e.2]) (g := fun j => tpr t (kn.getD j (0, 0))) hP2
  have ef : ((List.range (zs.map V.ref).length).filter fun _ => true).map (fun j => tpr t (kn.getD j (0, 0))) = kn.map (tpr t) := by
    rw [List.filter_eq_self.mpr (fun _ _ => rfl), List.length_map, hzl]
    have := map_range kn (0, 0)
    conv => rhs; rw [← this]
    rw [List.map_map] <;> rfl
  rw [ef] at hxs
  have hxs : Paired (fun z (e : Pr) => SqT K H2 z [.str e.1, .str e.2]) xs (kn.map (tpr t)) := prd_imp (fun _ _ h => seqT_same rm_le h) hxs
  have F2 := ha.same s3
  have hx6 : xs.length ≤ 6 := by
    have := prd_len hxs
    rw [List.length_map] at this
    omega
  generalize kn.map (tpr t) = kr at hxs k
  have hxl := prd_len hxs
  refine ⟨_, rfl, a, b, 2, rfl, F2, by decide, fun r H3 r0 r1 F3 k3 => ?_⟩
  have d3 := lst_tp F2 k3 hz2
  have x3 : Paired (fun z (e : Pr) => SqT K H3 z [.str e.1, .str e.2]) xs kr := prd_imp (fun _ _ h => seqT_tp F2 k3 h) hxs
  have k03 := (Kept.of_same s3).trans k3
  refine ⟨rfl, _, rfl, ite2 (fun _ => ?_) (fun _ => ?_)⟩
  · refine ret_lc ?_
    refine lc_g (ys := xs.map V.ref) (fun i v R => ∃ q, v = .ref q ∧ R q = some (.lst [.str (kr.getD i d0).1, .str (kr.getD i d0).2])) (fun _ => true) (fun i v R R' s ⟨q, e, h⟩ => ⟨q, e, s _ _ h⟩) (fun Q' z => ⟨_, rfl, z⟩) (.inl (SqL.of d3)) (by rw [List.length_map]; omega) (fun Dl j y2 H' yes no AD sl1 sl2 hy2 hyes hno => ?_) (fun Dl Hf zs10 hDl sf hz10 hP10 => ?_)
    · obtain ⟨q, e1, rfl⟩ : ∃ q, xs[j]? = some q ∧ y2 = .ref q := by
        rw [List.getElem?_map] at hy2
        obtain ⟨p, a, b⟩ := Option.map_eq_some_iff.mp hy2
        exact ⟨p, a, b.symm⟩
      obtain ⟨e, ee, hqe⟩ := prd_at x3 e1
      refine ⟨rfl, ?_⟩
      unfold tYes
      refine iteT ⟨_, rfl, q, _, rfl, .inr (seqT_same sl1 hqe), fun l hl => hyes rfl _ _ (new_same hl _) ⟨l, rfl, ?_⟩⟩
      rw [rm_new AD hl, getD_of ee]
    · obtain ⟨ps10, rfl, hp10⟩ := refs_of (T := fun q (e : Pr) => rmL [Dl] Hf q = some (.lst [.str e.1, .str e.2])) (g := fun i => kr.getD i d0) hP10
      have ef : ((List.range (xs.map V.ref).length).filter fun _ => true).map (fun i => kr.getD i d0) = kr := by
        rw [List.filter_eq_self.mpr (fun _ _ => rfl), List.length_map, hxl]
        exact map_range kr d0
      rw [ef] at hp10
      have hp10 : Paired (fun q (e : Pr) => Hf q = some (.lst [.str e.1, .str e.2])) ps10 kr := prd_imp (fun _ _ z => rm_le _ _ z) hp10
      exact k (.ref Dl) (lstD kr) Hf (.lst (SqL.of hz10) (lst_dps hp10)) ⟨_, rfl, lst_pairs kr⟩ ⟨Dl, _, _, rfl, .inl (SqL.of hz10), rfl, lst_dps hp10⟩ (F3.same sf) (k03.trans (Kept.of_same sf))
  · refine ⟨_, rfl, D2, _, rfl, .inl ⟨SqL.of d3, fun y o hy ho => ?_⟩⟩
    have sy := new_same hy (.frz o (.tup (xs.map V.ref)))
    have hky : Paired (fun z (e : Pr) => SqT K (L2.upd H3 y (.frz o (.tup (xs.map V.ref)))) z [.str e.1, .str e.2]) xs kr := prd_imp (fun _ _ h => seqT_same sy h) x3
    have hyT : SqZ (L2.upd H3 y (.frz o (.tup (xs.map V.ref)))) y (xs.map V.ref) := ⟨o, upd_same, ho⟩
    exact k (.ref y) (.tuple (kr.map fun e => .tuple [.str e.1, .str e.2])) _ (.tup hyT.sqT (pairs_dps hky)) ⟨_, rfl, rule_pair kr⟩ ⟨y, _, _, rfl, .inr hyT, rfl, pairs_dps hky⟩ (F3.same sy) (k03.trans (Kept.of_same sy))
theorem scFitB : FnScope nFit ["rows", "known"] (defScope sFitting) := ⟨rfl, rfl, rfl, by decide +kernel, rfl, by decide +kernel, by decide +kernel⟩
theorem ok_fittingB {f : Addr} {fd : FuncData} (F : Fun K "_law_fitting" "_law_fitting" sFitting f fd) (T : BtT mg) : FnOk P w K mg base CX0 1 f fd ["rows", "known"] (spFittingB K) := by
  refine F.ok scFitB (fun vs H Q E h => ?_) (fun cdv A outer s H vs Q E hr h => ?_)
  · obtain ⟨R, D, t, us, zs, rows, kn, rfl, _⟩ := h
    rfl
  obtain ⟨R, D, t, us, zs, rows, kn, rfl, hR, hU, hrl, hok, hD, hz, KO, t6, k⟩ := h
  refine ⟨_, pss_one (ps_ret (pe_lc (own := [("row", 2)]) (g := gName 2) (by rfl) scFitB.nd (pi_row (pv 0)) (blkOk_by (N := nFit) (sc := defScope sFitting) (by decide +kernel))
      (fun _ _ _ _ _ => pg_name (i := 2) scFitB.nd rfl (.inr rfl))
      (fun _ _ _ _ _ => pts_one (pt_cmpR op_eq (pe_callB (call_lenK K rfl) rfl T.len PySem.boot_len (pa_cons (pe_lc (own := [("at", 3), ("word", 4)]) (g := gRow K 2 (gCons (gName 3) (gCons (gName 4) gNil))) (by rfl) scFitB.nd (pi_rowK K rfl (pv 1)) (blkOk_by (N := nFit) (sc := scFitR) (by decide +kernel))
        (fun _ _ _ _ _ => pg_row rfl (pgs_cons (pg_name (i := 3) scFitB.nd rfl (.inl rfl)) (pgs_cons (pg_name (i := 4) scFitB.nd rfl (.inl rfl)) pgs_nil)))
        (fun _ _ _ _ _ => pts_one (pt_cmpR op_ne (pe_ix (ix_both K rfl) (pv 2) (pv 3) (fun _ _ => rfl)) (pv 4) (nomark _))) (fun _ _ _ _ _ => pv 3)) pa_nil)) pe_int (nomark _))) (fun _ _ _ _ _ => pv 2))), ?_⟩
  have hul := prd_len hU
  have hzl : zs.length = kn.length := prd_len hz
  have kl := KO.hi
  refine ret_lc ?_
  refine lc_gA (ys := us.map V.ref) (fun i v R => ∃ p, v = .ref p ∧ RowN K R p (rows.getD i [])) (fun i => fitN kn (rows.getD i [])) (fun i v R R' s ⟨p, e, h⟩ => ⟨p, e, seqT_same s h⟩) (fun Q' z => ⟨_, rfl, z⟩) (.inl (SqL.of hR)) (by rw [List.length_map]; omega) (fun E i y H4 yes no AD s4 s5 hy hyes hno => ?_) (fun E H4 zs4 hE s4 hz4 hP => ?_)
  · obtain ⟨p, ep, rfl⟩ : ∃ p, us[i]? = some p ∧ y = .ref p := by
      rw [List.getElem?_map] at hy
      obtain ⟨p, a, b⟩ := Option.map_eq_some_iff.mp hy
      exact ⟨p, a, b.symm⟩
    obtain ⟨row, er, hrow⟩ := prd_at hU ep
    have rok := hok row (List.mem_of_getElem? er)
    rw [show rows.getD i [] = row from getD_of er] at hyes hno
    obtain ⟨acc4, hacc4⟩ := AD
    refine ⟨rfl, ?_⟩
    refine tt_len ?_
    refine lc_gA (ys := zs.map V.ref) (fun i v R => True) (fun j => !decide (row.getD (kn.getD j (0, 0)).1 0 = (kn.getD j (0, 0)).2)) (fun i v R R' s h => h) (fun Q' z => ⟨_, rfl, z⟩) (rowD_same s4 hD) (by rw [List.length_map]; omega) (fun D2 j2 y2 H5 yes2 no2 AD2 s6 s7 hy2 hyes2 hno2 => ?_) (fun D2 H5 zs2 hD2 s6 hz2 hP2 => ?_)
    · obtain ⟨z, ez, rfl⟩ : ∃ z, zs[j2]? = some z ∧ y2 = .ref z := by
        rw [List.getElem?_map] at hy2
        obtain ⟨p, a, b⟩ := Option.map_eq_some_iff.mp hy2
        exact ⟨p, a, b.symm⟩
      obtain ⟨pp, epp, hp⟩ := prd_at hz ez
      obtain ⟨e, o1, o2⟩ := KO.of pp (List.mem_of_getElem? epp)
      obtain ⟨eg, _⟩ := row_get rok o1
      rw [show kn.getD j2 (0, 0) = pp from getD_of epp] at hyes2 hno2
      refine .inl ⟨z, _, rfl, seqT_same (s4.trans s6) hp, rfl, .int (pp.1 : Nat), _, rfl, .int (pp.2 : Nat), [], rfl, rfl, rfl, ?_⟩
      refine ⟨_, rfl, _, rfl, ix_row (.inr (seqT_same (s4.trans s6) hrow)) (at_of rfl (by rw [List.getElem?_map, eg] <;> rfl)) ⟨_, rfl, rfl, _, rfl, ?_⟩⟩
      rw [dec_int]
      cases hs : !decide (row.getD pp.1 0 = pp.2) with
      | true => exact iteT ⟨_, rfl, hyes2 hs _ _ (Same.refl _) trivial⟩
      | false => exact iteF (hno2 hs _ (Same.refl _))
    · refine ⟨D2, _, rfl, .inl (SqL.of hz2), rfl, _, rfl, ?_⟩
      rw [fit_cnt (b := kn) (row := row) (n := zs2.length) (by
        rw [prd_len hP2, List.length_map, hzl]
        exact cnt (s := fun p : Nat × Nat => !decide (row.getD p.1 0 = p.2)))]
      cases hs : fitN kn row with
      | true =>
        refine iteT ⟨_, rfl, hyes hs _ _ s6 ⟨p, rfl, ?_⟩⟩
        exact seqT_rm (s6 _ _ hacc4) (seqT_same (s4.trans s6) hrow)
      | false => exact iteF (hno hs _ s6)
  · obtain ⟨vs, rfl, hvs⟩ := refs_of (T := RowN K (rmL [E] H4)) (g := fun i => rows.getD i []) hP
    have ef : ((List.range (us.map V.ref).length).filter fun i => fitN kn (rows.getD i [])).map (fun i => rows.getD i []) = rows.filter (fitN kn) := by
      rw [List.length_map, hul]
      have := sel_map (l := rows) (d := []) (s := fitN kn) (f := id)
      rw [List.map_id] at this
      exact this
    rw [ef] at hvs
    exact k E vs H4 s4 hz4 (rowsN_same rm_le hvs)
end
end Q
set_option Elab.async false
set_option linter.all false
set_option maxRecDepth 100000
set_option maxHeartbeats 4000000
/-! ### _law_odd_pair of k06 -/
namespace Q
open PySem L2 XD
theorem tape_rm {S : List Addr} {H : Hp} {a b : Addr} (F : Tape b H a) (na : a ∉ S) (nb : b ∉ S) : Tape b (rmL S H) a := by
  obtain ⟨ns, p, v, g, m, s, F⟩ := F
  exact ⟨ns, p, v, g, m, s, by rw [rm_at na]; exact F.at_, by rw [rm_at nb]; exact F.ls, F.pos⟩
theorem kept_rmL {S : List Addr} {a : Addr} {H H' : Hp} (k : Kept a H H') : Kept a (rmL S H) (rmL S H') := fun x o ne e => by
  obtain ⟨h1, h2⟩ := rm_of e
  rw [rm_at h1]
  exact k x o ne h2
theorem alive_kept {S : List Addr} {a : Addr} {H H' : Hp} (A : Alive S H) (na : a ∉ S) (k : Kept a H H') : Alive S H' := fun b hb z => by
  cases e : H b with
  | none => exact A b hb e
  | some o =>
    rw [k b o (fun z => na (z ▸ hb)) e] at z
    cases z
/-- what an odd pair may be: whatever is written, of few signs -/
def GSX (d : PyData) : Prop := GS d
theorem two_shaped {n m : Str} (h : PyData.strOk n = true) (g : PyData.strOk m = true) : SeqAt.shaped (.tuple [.str n, .str m]) = true := by
  unfold SeqAt.shaped
  rw [Bool.and_eq_true]
  refine ⟨?_, decide_eq_true ?_⟩
  · simp only [PyData.canLay0, PyData.canLayAll0, Bool.and_true]
    rw [h, g] <;> rfl
  · simp [PyData.depth, PyData.depthAll]
theorem lst1_shaped {n : Str} (h : PyData.strOk n = true) : SeqAt.shaped (.list [.str n]) = true := by
  unfold SeqAt.shaped
  rw [Bool.and_eq_true]
  refine ⟨?_, decide_eq_true ?_⟩
  · simp only [PyData.canLay0, PyData.canLayAll0, Bool.and_true]
    exact h
  · simp [PyData.depth, PyData.depthAll]
theorem cat_step {K : PySem.W.Frag} {S : List Addr} {P : PyData → Prop} {ta : TA} {u : TS} {D : Ends} {σ : L2.St} {H : Hp} {L : Addr} {n i : Nat} {ds : List PyData} (e : σ[i]? = some (some (.ref L))) (hL : PL K S P n L H) (h : MkL K S H σ ta ds) (hp : ∀ d ∈ ds, P d) (hl : Nat.ble (n + ds.length) 1000 = true) (h0 : Nat.ble 1 ds.length = true)
    (k : ∀ z H', Same H H' → PL K S P (n + ds.length) z H' → NE z H' → u D (σ.set i (some (.ref z))) H') : tSeq (tAsg (tOp rCat (tVar i) (tLst ta)) (gName i)) u D σ H := by
  have hl := Nat.le_of_ble_eq_true hl
  have h0 := Nat.le_of_ble_eq_true h0
  refine asg_cat ⟨_, e, h H _ (Same.refl H) fun vs H1 s1 hvs => ?_⟩
  have el := dps_len hvs
  refine ⟨le_line (by omega), fun p hp0 => ?_⟩
  have s2 := new_same hp0 (.lst vs)
  exact PL.catN (hL.same (s1.trans s2)) ((PL.new hp0 hvs hp).imp (fun _ z => z) (Nat.le_of_eq el)) upd_same (by omega) hl fun z H' s3 _ pz nz => k z H' ((s1.trans s2).trans s3) pz nz
def spOddPair (K : PySem.W.Frag) : Sp := fun vs H Q _ => ∃ (a b m p : Addr) (t : Tbl) (bs : List NB) (S : List Addr) (n w : Str), vs = [.ref a, .ref m, .ref p] ∧ Tape b H a ∧ ModelAt K H m t bs ∧ TabOk t ∧ SqT K (rmL S H) p [.str n, .str w] ∧ word n = true ∧ word w = true ∧ Alive S H ∧ a ∉ S ∧ b ∉ S ∧
  ∀ v d H', Dp K (rmL S H') v d → GS d → Tape b H' a → Kept a H H' → Q v H'
abbrev nOdd : List Str := ["tape", "model", "pair", "name", "word", "odd"]
section
variable {P : Program} {w : World} {K : PySem.W.Frag} {mg : Str → Option Value} {base : Heap}
theorem scOdd : FnScope nOdd ["tape", "model", "pair"] (defScope sOddPair) := ⟨rfl, rfl, rfl, by decide +kernel, rfl, by decide +kernel, by decide +kernel⟩
theorem ok_odd {f : Addr} {fd : FuncData} (F : Fun K "_law_odd_pair" "_law_odd_pair" sOddPair f fd) (Tl : mg "len" = none) (KD : Kn P w K mg base 2 "_law_draw" ["tape", "many"] spDrawT) : FnOk P w K mg base CX0 3 f fd ["tape", "model", "pair"] (spOddPair K) := by
  obtain ⟨fD, fdD, GD, kD, bD, mD⟩ := KD.ex
  refine F.ok scOdd (fun vs H Q E h => ?_) (fun cdv A outer s H vs Q E hr h => ?_)
  · obtain ⟨a, b, m, p, t, bs, S, n, w, rfl, _⟩ := h
    rfl
  obtain ⟨a, b, m, p, t, bs, S, n, w1, rfl, ha, hm, TO, hp, hn, hw, AS, na, nb, k⟩ := h
  have p0 : ∀ {X : Cx} {q : X.K = K} {i : Int}, True := fun {_ _ _} => trivial
  refine ⟨_, pss_cons (ps_asg (pe_ix (ix_both K rfl) (pe_ix (ix_both K rfl) (pv 1) pe_int (fun _ _ => rfl)) (pe_call GD hr rfl mD kD bD .nil pass0 (pa_cons (pv 0) (pa_cons (pe_callB call_len_seq rfl Tl PySem.boot_len (pa_cons (pe_ix (ix_both K rfl) (pv 1) pe_int (fun _ _ => rfl)) pa_nil)) pa_nil))) (fun _ _ => rfl)) (pg_row rfl (pgs_cons (pg_name (i := 3) scOdd.nd rfl (.inl rfl)) (pgs_cons (pg_name (i := 4) scOdd.nd rfl (.inl rfl)) pgs_nil))))
    (pss_cons (ps_set (i := 5) scOdd.nd rfl (.inl rfl) (pe_lst (pa_cons (pe_tupZ (pa_cons (pe_ix (ix_both K rfl) (pv 2) pe_int (fun _ _ => rfl)) pa_nil)) (pa_cons (pe_tupZ (pa_cons (pe_ix (ix_both K rfl) (pv 2) pe_int (fun _ _ => rfl)) (pa_cons (pe_ix (ix_both K rfl) (pv 2) pe_int (fun _ _ => rfl)) (pa_cons (pe_ix (ix_both K rfl) (pv 2) pe_int (fun _ _ => rfl)) pa_nil))))
        (pa_cons (pe_tupZ (pa_cons (pe_ix (ix_both K rfl) (pv 2) pe_int (fun _ _ => rfl)) (pa_cons (pe_ix (ix_both K rfl) (pv 2) pe_int (fun _ _ => rfl)) pa_nil))) (pa_cons (pe_tupZ (pa_cons (pe_ix (ix_both K rfl) (pv 2) pe_int (fun _ _ => rfl)) (pa_cons (pe_ix (ix_both K rfl) (pv 4) (pe_call GD hr rfl mD kD bD .nil pass0 (pa_cons (pv 0) (pa_cons (pe_callB call_len_seq rfl Tl PySem.boot_len (pa_cons (pv 4) pa_nil)) pa_nil))) (fun _ _ => rfl)) pa_nil))) pa_nil))))))
    (pss_cons (ps_set (i := 5) scOdd.nd rfl (.inl rfl) (pe_op op_cat (pv 5) (pe_lst (pa_cons (pe_tupZ (pa_cons (pe_ix (ix_both K rfl) (pv 2) pe_int (fun _ _ => rfl)) (pa_cons (pe_op op_add_str (pe_ix (ix_both K rfl) (pv 2) pe_int (fun _ _ => rfl)) pe_str) pa_nil))) (pa_cons (pe_tupZ (pa_cons (pe_op op_add_str (pe_ix (ix_both K rfl) (pv 2) pe_int (fun _ _ => rfl)) pe_str) (pa_cons (pe_ix (ix_both K rfl) (pv 2) pe_int (fun _ _ => rfl)) pa_nil)))
        (pa_cons (pe_tupZ (pa_cons (pe_ix (ix_both K rfl) (pv 2) pe_int (fun _ _ => rfl)) (pa_cons pe_str pa_nil))) (pa_cons (pe_tupZ (pa_cons (pe_ix (ix_both K rfl) (pv 2) pe_int (fun _ _ => rfl)) (pa_cons pe_non pa_nil))) (pa_cons (pe_tupZ (pa_cons pe_non (pa_cons (pe_ix (ix_both K rfl) (pv 2) pe_int (fun _ _ => rfl)) pa_nil))) pa_nil))))))))
    (pss_cons (ps_set (i := 5) scOdd.nd rfl (.inl rfl) (pe_op op_cat (pv 5) (pe_lst (pa_cons (pe_tupZ (pa_cons (pe_ix (ix_both K rfl) (pv 2) pe_int (fun _ _ => rfl)) (pa_cons pe_int pa_nil))) (pa_cons (pe_tupZ (pa_cons pe_bl (pa_cons (pe_ix (ix_both K rfl) (pv 2) pe_int (fun _ _ => rfl)) pa_nil))) (pa_cons (pe_ix (ix_both K rfl) (pv 2) pe_int (fun _ _ => rfl)) (pa_cons pe_str (pa_cons pe_non (pa_cons pe_int
        (pa_cons (pe_tupZ pa_nil) (pa_cons (pe_lst pa_nil) (pa_cons (pe_lst (pa_cons (pv 2) pa_nil)) (pa_cons (pe_tupZ (pa_cons (pv 2) (pa_cons (pv 2) pa_nil))) (pa_cons pe_bl (pa_cons pe_bl pa_nil)))))))))))))))
    (pss_cons (ps_set (i := 5) scOdd.nd rfl (.inl rfl) (pe_op op_cat (pv 5) (pe_lst (pa_cons (pe_lst (pa_cons (pe_ix (ix_both K rfl) (pv 2) pe_int (fun _ _ => rfl)) (pa_cons (pe_lst (pa_cons (pe_ix (ix_both K rfl) (pv 2) pe_int (fun _ _ => rfl)) pa_nil)) pa_nil))) (pa_cons (pe_tupZ (pa_cons (pe_tupZ (pa_cons (pe_ix (ix_both K rfl) (pv 2) pe_int (fun _ _ => rfl)) pa_nil)) (pa_cons (pe_ix (ix_both K rfl) (pv 2) pe_int (fun _ _ => rfl)) pa_nil)))
        (pa_cons (pe_tupZ (pa_cons (pe_upper (pe_ix (ix_both K rfl) (pv 2) pe_int (fun _ _ => rfl))) (pa_cons (pe_ix (ix_both K rfl) (pv 2) pe_int (fun _ _ => rfl)) pa_nil))) (pa_cons (pe_tupZ (pa_cons (pv 3) (pa_cons (pe_ix (ix_both K rfl) (pv 2) pe_int (fun _ _ => rfl)) pa_nil))) pa_nil)))))))
    (pss_one (ps_ret (pe_ix (ix_both K rfl) (pv 5) (pe_call GD hr rfl mD kD bD .nil pass0 (pa_cons (pv 0) (pa_cons (pe_callB call_len_seq rfl Tl PySem.boot_len (pa_cons (pv 5) pa_nil)) pa_nil))) (fun _ _ => rfl)))))))), ?_⟩
  obtain ⟨B, N, ps, kvs, qs, m1, m2, m3, m4, m5⟩ := hm
  have hpl : ps.length = t.length := m3.len.1
  have TL := TO.lo
  have TH := TO.hi
  refine ⟨_, rfl, ix_row (.inr m1) (by rfl) ⟨_, rfl, _, rfl, ix_row (.inr m1) (by rfl) ⟨B, _, rfl, .inr m2, a, b, _, rfl, ha, few200 (by rw [List.length_map]; omega), fun r H1 r0 r1 F1 k1 => ?_⟩⟩⟩
  rw [List.length_map, hpl] at r1
  obtain ⟨j, rfl⟩ : ∃ n : Nat, r = (n : Int) := ⟨r.toNat, by omega⟩
  have hj : j < t.length := by
    split at r1 <;> omega
  have e0 : t[j]? = some t[j] := List.getElem?_eq_getElem hj
  have emem := List.getElem_mem hj
  generalize t[j] = e at e0 emem
  obtain ⟨en, ews⟩ := e
  obtain ⟨q, v3, c1, c2, c3⟩ := (m3.tp ha k1).get e0
  refine ix_row (.inr (seqT_tp ha k1 m2)) (at_of rfl c1) ?_
  refine .inl ⟨q, _, rfl, c2, rfl, .str en, _, rfl, .ref v3, [], rfl, rfl, ?_⟩
  have hen : word en = true := TO.nm.2 en (List.mem_map.mpr ⟨_, emem, rfl⟩)
  have hews : ∀ x ∈ ews, word x = true := (TO.vs _ emem).1.2
  have hel := TO.vs _ emem
  have A1 := alive_kept AS na k1
  have hp1 : SqT K (rmL S H1) p [.str n, .str w1] := seqT_tp (tape_rm ha na nb) (kept_rmL k1) hp
  clear m1 m2 m3 m4 m5 c1 c2 hp
  let σ1 : L2.St := [some (.ref a), some (.ref m), some (.ref p), some (.str en), some (.ref v3), none]
  have x0 : ∀ {H : Hp} {g : Option V}, SqT K (rmL S H) p [.str n, .str w1] → MkD K S H [some (.ref a), some (.ref m), some (.ref p), some (.str en), some (.ref v3), g] (tOp (rBoth K) (tVar 2) (tC (.int 0))) (.str n) := fun h => mk_ix (i := 2) rfl (seqT_same rm_le h) rfl (.str n)
  have x1 : ∀ {H : Hp} {g : Option V}, SqT K (rmL S H) p [.str n, .str w1] → MkD K S H [some (.ref a), some (.ref m), some (.ref p), some (.str en), some (.ref v3), g] (tOp (rBoth K) (tVar 2) (tC (.int 1))) (.str w1) := fun h => mk_ix (i := 2) rfl (seqT_same rm_le h) rfl (.str w1)
  try dsimp only [L2.start, gName]
  refine asg_lst ?_
  show (tCons _ _) [some (.ref a), some (.ref m), some (.ref p), some (.str en), some (.ref v3), none] H1 _
  refine (mk_tup A1 (by rfl) (mkl_cons (x0 hp1) mkl_nil)) H1 _ (Same.refl H1) fun u1 Ha sa d1 => ?_
  refine (mk_tup A1 (by rfl) (mkl_cons (x0 hp1) (mkl_cons (x1 hp1) (mkl_cons (x1 hp1) mkl_nil)))) Ha _ sa fun u2 Hb sb d2 => ?_
  have sab := sa.trans sb
  refine (mk_tup A1 (by rfl) (mkl_cons (x1 hp1) (mkl_cons (x0 hp1) mkl_nil))) Hb _ sab fun u3 Hc sc d3 => ?_
  have sac := sab.trans sc
  have Fc := F1.same sac
  have hpc := seqT_same (rm_same sac) hp1
  have hel5 : ews.length ≤ 5 := hel.2.2
  have c3c := seqT_same sac c3
  have tl : (tTupZ (tCons (tOp (rBoth K) (tVar 2) (tC (.int 0))) (tCons (tOp (rBoth K) (tVar 4) (tCall spDrawT [] E0 (tCons (tVar 0) (tCons (tCB (fun xs H Q => ∃ p ys, xs = [V.ref p] ∧ (SqL K H p ys ∨ SqT K H p ys) ∧ Q (V.int ↑ys.length) H) (tCons (tVar 4) tNil)) tNil)))) tNil)) : TE) = _ := rfl
  clear tl
  refine ⟨_, rfl, ix_row (.inr (seqT_same rm_le hpc)) (by rfl) ?_⟩
  refine ⟨_, rfl, _, rfl, _, rfl, v3, _, rfl, .inr c3c, a, b, _, rfl, Fc, few200 (by rw [List.length_map]; omega), fun r8 H8 w0 w1_ F8 k8 => ?_⟩
  rw [List.length_map] at w1_
  dsimp only at w1_
  obtain ⟨j8, rfl⟩ : ∃ n : Nat, r8 = (n : Int) := ⟨r8.toNat, by omega⟩
  have hj8 : j8 < ews.length := by
    have := hel.2.1
    dsimp only at this
    split at w1_ <;> omega
  have ew : ews[j8]? = some ews[j8] := List.getElem?_eq_getElem hj8
  have hew := hews _ (List.getElem_mem hj8)
  generalize ews[j8] = w8 at ew hew
  refine ix_row (.inr (seqT_tp Fc k8 c3c)) (at_of rfl (by rw [List.getElem?_map, ew] <;> rfl)) ?_
  have A8 := alive_kept (A1.same sac) na k8
  refine ⟨by show 2 ≤ sizeLine; decide, fun z4 o4 hz4 _ => ?_⟩
  have d4 := TD.dp (tup_td A8 hz4 (o := o4) (.cons (.str n) (.cons (.str w8) (.nil (K := K)))))
  have s8 := new_same hz4 (.frz o4 (.tup [V.str n, V.str w8]))
  have m18 : ∀ {v : V} {d : PyData}, Dp K (rmL S Hc) v d → Dp K (rmL S (L2.upd H8 z4 (.frz o4 (.tup [V.str n, V.str w8])))) v d := fun h => dp_same (rm_same s8) (dp_tp (tape_rm Fc na nb) (kept_rmL k8) h)
  have dl := DpAll.cons (m18 (dp_same (rm_same (sb.trans sc)) d1)) (.cons (m18 (dp_same (rm_same sc) d2)) (.cons (m18 d3) (.cons d4 .nil)))
  have hp8 : SqT K (rmL S (L2.upd H8 z4 (.frz o4 (.tup [V.str n, V.str w8])))) p [.str n, .str w1] := seqT_same (rm_same s8) (seqT_tp (tape_rm Fc na nb) (kept_rmL k8) hpc)
  have k19 := (k1.trans (Kept.of_same sac)).trans (k8.trans (Kept.of_same s8))
  have F9 := F8.same s8
  generalize L2.upd H8 z4 (.frz o4 (.tup [V.str n, V.str w8])) = H9 at dl hp8 k19 F9 s8
  refine ⟨by show 4 ≤ sizeLine; decide, fun L hL => ?_⟩
  have on := word_small hn
  have ow := word_small hw
  have okn : PyData.strOk n = true := ok_of on
  have okw : PyData.strOk w1 = true := ok_of ow
  have ok8 : PyData.strOk w8 = true := ok_of (word_small hew)
  have okx : PyData.strOk (w1 ++ "x") = true := ok_app ow (by decide +kernel)
  have P1 := PL.new (P := GS) hL dl (fun d hd => by
    simp only [List.mem_cons, List.not_mem_nil, or_false] at hd
    rcases hd with rfl | rfl | rfl | rfl
    · exact gs_none rfl
    · exact gs_none rfl
    · exact gs_two (str_shaped okn)
    · exact gs_two (str_shaped ok8))
  have s9 := new_same hL (.lst [u1, u2, u3, .ref z4])
  have A9 := (alive_kept AS na k19).same s9
  have hp9 := seqT_same (rm_same s9) hp8
  have F10 := F9.same s9
  have k10 := k19.trans (Kept.of_same s9)
  have ln := word_len hn
  have lw := word_len hw
  clear dl hp8 s8 k19 F9 m18 d4 hz4 w0 w1_ ew k8 F8 A8 c3c hpc Fc sac sab d1 d2 d3 sa sb sc k1 F1 A1 hp1
  generalize L2.upd H9 L (.lst [u1, u2, u3, .ref z4]) = G1 at P1 A9 hp9 F10 k10
  clear s9 hL
  have lx : ∀ z : Str, z.length ≤ 8 → z.length + ("x" : Str).length ≤ sizeLine := fun z h => by
    have : ("x" : Str).length = 1 := by decide +kernel
    exact le_line (by omega)
  have y0 : ∀ {H : Hp} {g : Option V}, SqT K (rmL S H) p [.str n, .str w1] → MkD K S H [some (.ref a), some (.ref m), some (.ref p), some (.str en), some (.ref v3), g] (tOp (fun x y H Q => ∃ i j, x = V.str i ∧ y = V.str j ∧ i.length + j.length ≤ sizeLine ∧ Q (V.str (i ++ j)) H) (tOp (rBoth K) (tVar 2) (tC (.int 0))) (tC (.str "x"))) (.str (n ++ "x")) :=
    fun h H' Q s k => ⟨_, rfl, ix_row (.inr (seqT_same s (seqT_same rm_le h))) (by rfl) ⟨_, _, rfl, rfl, lx _ ln, k _ H' (Same.refl H') (.str _)⟩⟩
  have y1 : ∀ {H : Hp} {g : Option V}, SqT K (rmL S H) p [.str n, .str w1] → MkD K S H [some (.ref a), some (.ref m), some (.ref p), some (.str en), some (.ref v3), g] (tOp (fun x y H Q => ∃ i j, x = V.str i ∧ y = V.str j ∧ i.length + j.length ≤ sizeLine ∧ Q (V.str (i ++ j)) H) (tOp (rBoth K) (tVar 2) (tC (.int 1))) (tC (.str "x"))) (.str (w1 ++ "x")) :=
    fun h H' Q s k => ⟨_, rfl, ix_row (.inr (seqT_same s (seqT_same rm_le h))) (by rfl) ⟨_, _, rfl, rfl, lx _ lw, k _ H' (Same.refl H') (.str _)⟩⟩
  have pD : ∀ {H : Hp}, SqT K (rmL S H) p [.str n, .str w1] → Dp K (rmL S H) (.ref p) (.tuple [.str n, .str w1]) := fun h => .tup h (.cons (.str n) (.cons (.str w1) .nil))
  refine cat_step (i := 5) (L := L) rfl P1 (mkl_cons (mk_tup A9 (by rfl) (mkl_cons (x0 hp9) (mkl_cons (y1 hp9) mkl_nil))) (mkl_cons (mk_tup A9 (by rfl) (mkl_cons (y0 hp9) (mkl_cons (x1 hp9) mkl_nil))) (mkl_cons (mk_tup A9 (by rfl) (mkl_cons (x0 hp9) (mkl_cons (mk_str "") mkl_nil))) (mkl_cons (mk_tup A9 (by rfl) (mkl_cons (x0 hp9) (mkl_cons mk_non mkl_nil))) (mkl_cons (mk_tup A9 (by rfl) (mkl_cons mk_non (mkl_cons (x1 hp9) mkl_nil))) mkl_nil))))) (fun d hd => ?_) (by rfl) (by rfl) (fun L2_ G2 g2 P2 _ => ?_)
  · simp only [List.mem_cons, List.not_mem_nil, or_false] at hd
    rcases hd with rfl | rfl | rfl | rfl | rfl
    · exact gs_two (str_shaped okx)
    · exact gs_two (str_shaped okw)
    · exact gs_two (str_shaped (by decide +kernel))
    · exact gs_two (by decide +kernel)
    · exact gs_two (str_shaped okw)
  have hp2 := seqT_same (rm_same g2) hp9
  have A2 := A9.same g2
  refine cat_step (i := 5) (L := L2_) rfl P2 (mkl_cons (mk_tup A2 (by rfl) (mkl_cons (x0 hp2) (mkl_cons (mk_int 0) mkl_nil))) (mkl_cons (mk_tup A2 (by rfl) (mkl_cons (mk_bl true) (mkl_cons (x1 hp2) mkl_nil))) (mkl_cons (x0 hp2) (mkl_cons (mk_str "ab") (mkl_cons mk_non (mkl_cons (mk_int 5)
    (mkl_cons (mk_tup A2 (by rfl) mkl_nil) (mkl_cons (mk_lst A2 (by rfl) mkl_nil) (mkl_cons (mk_lst A2 (by rfl) (mkl_cons (mk_var (i := 2) rfl (pD hp2)) mkl_nil)) (mkl_cons (mk_tup A2 (by rfl) (mkl_cons (mk_var (i := 2) rfl (pD hp2)) (mkl_cons (mk_var (i := 2) rfl (pD hp2)) mkl_nil))) (mkl_cons (mk_bl true) (mkl_cons (mk_bl false) mkl_nil)))))))))))) (fun d hd => ?_) (by rfl) (by rfl) (fun L3_ G3 g3 P3 _ => ?_)
  · simp only [List.mem_cons, List.not_mem_nil, or_false] at hd
    rcases hd with rfl | rfl | rfl | rfl | rfl | rfl | rfl | rfl | rfl | rfl | rfl | rfl
    · exact gs_two (by decide +kernel)
    · exact gs_two (str_shaped okw)
    · exact gs_none rfl
    · exact gs_none rfl
    · exact gs_none rfl
    · exact gs_none rfl
    · exact gs_none rfl
    · exact gs_none rfl
    · exact gs_none rfl
    · exact gs_two (two_shaped okn okw)
    · exact gs_none rfl
    · exact gs_none rfl
  have hp3 := seqT_same (rm_same g3) hp2
  have A3 := A2.same g3
  refine cat_step (i := 5) (L := L3_) rfl P3 (mkl_cons (mk_lst A3 (by rfl) (mkl_cons (x0 hp3) (mkl_cons (mk_lst A3 (by rfl) (mkl_cons (x1 hp3) mkl_nil)) mkl_nil))) (mkl_cons (mk_tup A3 (by rfl) (mkl_cons (mk_tup A3 (by rfl) (mkl_cons (x0 hp3) mkl_nil)) (mkl_cons (x1 hp3) mkl_nil)))
    (mkl_cons (mk_tup A3 (by rfl) (mkl_cons (mk_up (x := n) (fun H Q s k => ⟨_, rfl, ix_row (.inr (seqT_same s (seqT_same rm_le hp3))) (by rfl) (k H (Same.refl H))⟩) (Nat.le_trans ln (by decide))) (mkl_cons (x1 hp3) mkl_nil))) (mkl_cons (mk_tup A3 (by rfl) (mkl_cons (mk_var (i := 3) rfl (.str en)) (mkl_cons (x1 hp3) mkl_nil))) mkl_nil)))) (fun d hd => ?_) (by rfl) (by rfl) (fun L4_ G4 g4 P4 N4 => ?_)
  · simp only [List.mem_cons, List.not_mem_nil, or_false] at hd
    rcases hd with rfl | rfl | rfl | rfl
    · exact fun a b ep => by
        cases ep
        exact lst1_shaped okw
    · exact gs_two (str_shaped okw)
    · exact gs_two (str_shaped okw)
    · exact gs_two (str_shaped okw)
  have g := g2.trans (g3.trans g4)
  have F4 := F10.same g
  have k4 := k10.trans (Kept.of_same g)
  obtain ⟨vs, q1, q2, q3⟩ := P4.ex
  obtain ⟨us, n1, n2⟩ := N4
  rw [q1] at n1
  cases n1
  have q2 : vs.length ≤ 1000 := Nat.le_trans q2 (Nat.le_of_ble_eq_true (by rfl))
  refine ⟨_, rfl, _, rfl, _, rfl, L4_, vs, rfl, .inl (SqL.of q1), a, b, _, rfl, F4, few200 (by omega), fun r H' r0 r1 F' k' => ?_⟩
  obtain ⟨j', rfl⟩ : ∃ n : Nat, r = (n : Int) := ⟨r.toNat, by omega⟩
  have hj' : j' < vs.length := by
    split at r1 <;> omega
  have ev : vs[j']? = some vs[j'] := List.getElem?_eq_getElem hj'
  refine ix_row (.inl (seqL_tp F4 k' (SqL.of q1))) (at_of rfl ev) ?_
  obtain ⟨d, hd, hg⟩ := q3 _ (List.mem_of_getElem? ev)
  exact k _ d H' (dp_tp (tape_rm F4 na nb) (kept_rmL k') hd) hg F' (k4.trans k')
end
end Q
set_option Elab.async false
set_option linter.all false
set_option maxRecDepth 100000
set_option maxHeartbeats 4000000
/-! ### _law_odd_facts of k06 -/
namespace Q
open PySem L2 XD
theorem pair_row {g a b : PyData} (h : pairOf g = some (a, b)) : rowOf g = some [a, b] := by
  unfold pairOf at h
  cases e : rowOf g with
  | none =>
    rw [e] at h
    cases h
  | some xs =>
    rw [e] at h
    match xs, h with
    | [x, y], h =>
      cases h
      rfl
def Pq (g : PyData) : Prop := ∃ n w, rowOf g = some [.str n, .str w] ∧ word n = true ∧ word w = true
theorem Pq.gs {g : PyData} (h : Pq g) : GS g := by
  obtain ⟨n, w, e, _, h⟩ := h
  intro a b ep
  rw [pair_row ep] at e
  cases e
  exact str_shaped (ok_of (word_small h))
theorem PL.chg {K : PySem.W.Frag} {S : List Addr} {P : PyData → Prop} {m : Nat} {D : Addr} {H : Hp} {us : List V} (hD : D ∈ S) (hu : ∀ u ∈ us, ∃ d, Dp K (rmL S H) u d ∧ P d) (hl : us.length ≤ m) : PL K S P m D (L2.upd H D (.lst us)) :=
  ⟨us, upd_same, hl, fun v hv => by rw [rm_put hD]; exact hu v hv⟩
theorem dps_in {K : PySem.W.Frag} {H : Hp} {P : PyData → Prop} : ∀ {vs : List V} {ds : List PyData}, DpAll K H vs ds → (∀ d ∈ ds, P d) → ∀ v ∈ vs, ∃ d, Dp K H v d ∧ P d
  | _, _, .nil, _, v, hv => absurd hv List.not_mem_nil
  | _, _, .cons (d := d) a r, h, v, hv => by
    rcases List.mem_cons.mp hv with rfl | hv
    · exact ⟨d, a, h _ List.mem_cons_self⟩
    · exact dps_in r (fun d hd => h d (List.mem_cons_of_mem _ hd)) v hv
theorem in_dps {K : PySem.W.Frag} {H : Hp} {P : PyData → Prop} : ∀ {vs : List V}, (∀ v ∈ vs, ∃ d, Dp K H v d ∧ P d) → ∃ ds, DpAll K H vs ds ∧ ∀ d ∈ ds, P d
  | [], _ => ⟨[], .nil, fun d h => absurd h List.not_mem_nil⟩
  | v :: vs, h => by
    obtain ⟨d, a, b⟩ := h v List.mem_cons_self
    obtain ⟨ds, c, e⟩ := in_dps fun x hx => h x (List.mem_cons_of_mem _ hx)
    refine ⟨d :: ds, .cons a c, fun x hx => ?_⟩
    rcases List.mem_cons.mp hx with rfl | hx
    · exact b
    · exact e x hx
def spOddFacts (K : PySem.W.Frag) : Sp := fun vs H Q _ => ∃ (a b m : Addr) (t : Tbl) (bs : List NB), vs = [.ref a, .ref m] ∧ Tape b H a ∧ ModelAt K H m t bs ∧ TabOk t ∧
  ∀ v d H', Dp K H' v d → FOk d → (areFacts t d = true → FaZ K H' v d) → Tape b H' a → Kept a H H' → Q v H'
abbrev nOddF : List Str := ["tape", "model", "known", "handed", "kind", "at", "name", "words"]
section
variable {P : Program} {w : World} {K : PySem.W.Frag} {mg : Str → Option Value} {base : Heap}
theorem scOddF : FnScope nOddF ["tape", "model"] (defScope sOddFacts) := ⟨rfl, rfl, rfl, by decide +kernel, rfl, by decide +kernel, by decide +kernel⟩
theorem ok_oddf {f : Addr} {fd : FuncData} (F : Fun K "_law_odd_facts" "_law_odd_facts" sOddFacts f fd) (T : BtT mg) (Tt : mg "tuple" = none) (KD : Kn P w K mg base 2 "_law_draw" ["tape", "many"] spDrawT) (KN : Kn P w K mg base 4 "_law_known" ["tape", "model"] (spKnownN K))
    (KI : Kn P w K mg base 3 "_law_handed" ["tape", "model", "known"] (spHandedB K)) (KO : Kn P w K mg base 3 "_law_odd_pair" ["tape", "model", "pair"] (spOddPair K)) : FnOk P w K mg base CX0 5 f fd ["tape", "model"] (spOddFacts K) := by
  obtain ⟨fD, fdD, GD, kD, bD, mD⟩ := KD.ex
  obtain ⟨fN, fdN, GN, kN, bN, mN⟩ := KN.ex
  obtain ⟨fI, fdI, GI, kI, bI, mI⟩ := KI.ex
  obtain ⟨fO, fdO, GO, kO, bO, mO⟩ := KO.ex
  refine F.ok scOddF (fun vs H Q E h => ?_) (fun cdv A outer s H vs Q E hr h => ?_)
  · obtain ⟨a, b, m, t, bs, rfl, _⟩ := h
    rfl
  obtain ⟨a, b, m, t, bs, rfl, ha, hm, TO, k⟩ := h
  have vt_ : PySem.bootBuiltins "tuple" = some (.type "tuple") := by decide +kernel
  have vl_ : PySem.bootBuiltins "list" = some (.type "list") := by decide +kernel
  have hr2 := hr.mono (show 2 ≤ 4 by decide)
  refine ⟨_, pss_cons (ps_set (i := 2) scOddF.nd rfl (.inl rfl) (pe_call GN hr rfl mN kN bN .nil pass0 (pa_cons (pv 0) (pa_cons (pv 1) pa_nil))))
    (pss_cons (ps_if (pt_cmpR op_eq (pe_callB call_len_seq rfl T.len PySem.boot_len (pa_cons (pv 2) pa_nil)) pe_int (nomark _)) (pss_one (ps_set (i := 2) scOddF.nd rfl (.inl rfl) (pe_lst (pa_cons (pe_tupZ (pa_cons pe_int (pa_cons pe_int pa_nil))) pa_nil)))) pss_nil)
    (pss_cons (ps_set (i := 3) scOddF.nd rfl (.inl rfl) (pe_callTy (call_listK K rfl) rfl T.list vl_ (pa_cons (pe_call GI (hr.mono (by decide)) rfl mI kI bI .nil pass0 (pa_cons (pv 0) (pa_cons (pv 1) (pa_cons (pv 2) pa_nil)))) pa_nil)))
    (pss_cons (ps_set (i := 4) scOddF.nd rfl (.inl rfl) (pe_call GD hr2 rfl mD kD bD .nil pass0 (pa_cons (pv 0) (pa_cons pe_int pa_nil))))
    (pss_cons (ps_set (i := 5) scOddF.nd rfl (.inl rfl) (pe_call GD hr2 rfl mD kD bD .nil pass0 (pa_cons (pv 0) (pa_cons (pe_callB call_len_seq rfl T.len PySem.boot_len (pa_cons (pv 3) pa_nil)) pa_nil))))
    (pss_cons (ps_if (pt_cmpR op_eq (pv 4) pe_int (nomark _)) (pss_one (ps_ret (pe_ix (ix_both K rfl) (pe_lst (pa_cons pe_non (pa_cons pe_int (pa_cons pe_str (pa_cons pe_str (pa_cons pe_bl (pa_cons pe_bl (pa_cons (pe_un un_neg pe_int)
        (pa_cons (pe_ix (ix_both K rfl) (pe_ix (ix_both K rfl) (pv 3) pe_int (fun _ _ => rfl)) pe_int (fun _ _ => rfl)) (pa_cons (pe_ix (ix_both K rfl) (pv 3) pe_int (fun _ _ => rfl)) pa_nil)))))))))) (pe_call GD hr2 rfl mD kD bD .nil pass0 (pa_cons (pv 0) (pa_cons pe_int pa_nil))) (fun _ _ => rfl)))) pss_nil)
    (pss_cons (ps_if (pt_cmpR op_eq (pv 4) pe_int (nomark _))
      (pss_one (ps_expr (pe_bm PySem.F.plainAttrs_list PySem.F.slot_list_insert PySem.F.type_list_insert mt_insert (pv 3) (pa_cons (pe_call GD hr2 rfl mD kD bD .nil pass0 (pa_cons (pv 0) (pa_cons (pe_op op_add (pe_callB call_len_seq rfl T.len PySem.boot_len (pa_cons (pv 3) pa_nil)) pe_int) pa_nil))) (pa_cons (pe_ix (ix_both K rfl) (pv 3) (pv 5) (fun _ _ => rfl)) pa_nil)))))
      (pss_one (ps_if (pt_cmpR op_eq (pv 4) pe_int (nomark _))
        (pss_cons (ps_asg (pe_ix (ix_both K rfl) (pe_ix (ix_both K rfl) (pv 1) pe_int (fun _ _ => rfl)) (pe_ix (ix_both K rfl) (pe_ix (ix_both K rfl) (pv 2) (pv 5) (fun _ _ => rfl)) pe_int (fun _ _ => rfl)) (fun _ _ => rfl)) (pg_row rfl (pgs_cons (pg_name (i := 6) scOddF.nd rfl (.inl rfl)) (pgs_cons (pg_name (i := 7) scOddF.nd rfl (.inl rfl)) pgs_nil))))
        (pss_one (ps_expr (pe_bm PySem.F.plainAttrs_list PySem.F.slot_list_append PySem.F.type_list_append mt_append (pv 3) (pa_cons (pe_tupZ (pa_cons (pv 6) (pa_cons (pe_ix (ix_both K rfl) (pv 7) (pe_call GD hr2 rfl mD kD bD .nil pass0 (pa_cons (pv 0) (pa_cons (pe_callB call_len_seq rfl T.len PySem.boot_len (pa_cons (pv 7) pa_nil)) pa_nil))) (fun _ _ => rfl)) pa_nil))) pa_nil)))))
        (pss_one (ps_if (pt_cmpR op_eq (pv 4) pe_int (nomark _))
          (pss_one (ps_expr (pe_bm PySem.F.plainAttrs_list PySem.F.slot_list_append PySem.F.type_list_append mt_append (pv 3) (pa_cons (pe_call GO (hr.mono (by decide)) rfl mO kO bO .nil pass0 (pa_cons (pv 0) (pa_cons (pv 1) (pa_cons (pe_callTy (call_tupK K rfl) rfl Tt vt_ (pa_cons (pe_ix (ix_both K rfl) (pv 3) (pv 5) (fun _ _ => rfl)) pa_nil)) pa_nil)))) pa_nil))))
          (pss_one (ps_asg (pe_call GO (hr.mono (by decide)) rfl mO kO bO .nil pass0 (pa_cons (pv 0) (pa_cons (pv 1) (pa_cons (pe_callTy (call_tupK K rfl) rfl Tt vt_ (pa_cons (pe_ix (ix_both K rfl) (pv 3) (pv 5) (fun _ _ => rfl)) pa_nil)) pa_nil)))) (pg_sub (pv 3) (pv 5) set_list))))))))
    (pss_cons (ps_if (pt_cmpR op_eq (pe_call GD hr2 rfl mD kD bD .nil pass0 (pa_cons (pv 0) (pa_cons pe_int pa_nil))) pe_int (nomark _)) (pss_one (ps_ret (pe_callTy (call_tupK K rfl) rfl Tt vt_ (pa_cons (pv 3) pa_nil)))) pss_nil)
    (pss_one (ps_ret (pv 3)))))))))), ?_⟩
  have TL := TO.lo
  have TH := TO.hi
  refine ⟨_, rfl, _, rfl, a, b, m, t, bs, rfl, ha, hm, TO, fun D zs kn H1 hD0 hD hz KO1 F1 k1 => ?_⟩
  try dsimp only [L2.start, gName]
  refine seq_cut (fun σ H' => ∃ (D : Addr) (zs : List Addr) (kn : NB), σ = [some (.ref a), some (.ref m), some (.ref D), none, none, none, none, none] ∧ H' D = some (.lst (zs.map V.ref)) ∧ Paired (prN K H') zs kn ∧ KnOk t kn ∧ 1 ≤ kn.length ∧ Tape b H' a ∧ Kept a H H') ?_ (fun join => ?_)
  · clear hD0 hD hz KO1 F1 k1 D zs kn H1
    rintro σ H1 ⟨D, zs, kn, rfl, hD, hz, KN1, kn1, F1, k1⟩
    have kl := KN1.hi
    have hzl := prd_len hz
    refine ⟨_, rfl, _, rfl, _, rfl, a, b, m, D, t, bs, zs, kn, rfl, F1, hm.tp ha k1, TH, .inl (SqL.of hD), hz, KN1, fun v d H2 dv fr fz F2 k2 => ?_⟩
    have hD2 := lst_tp F1 k2 hD
    have hz2 := prsN_tp F1 k2 hz
    obtain ⟨q, ys, gs, rfl, hq, er, dg⟩ := fz
    obtain ⟨gs', er', pr⟩ := fr
    rw [er] at er'
    cases er'
    have gl : gs.length = kn.length := by
      rw [prd_len pr, List.length_map]
    have yl : ys.length = kn.length := by rw [dps_len dg, gl]
    have hP : ∀ g ∈ gs, Pq g := fun g hg => by
      obtain ⟨i, hi, rfl⟩ := List.mem_iff_getElem.mp hg
      obtain ⟨e, ee, he⟩ := prd_at pr (List.getElem?_eq_getElem hi)
      obtain ⟨ws, h2, h3⟩ := (KN1.known TO).of e (List.mem_of_getElem? ee)
      exact ⟨e.1, e.2, pair_row he, TO.nm.2 _ (List.mem_map.mpr ⟨_, h2, rfl⟩), (TO.vs _ h2).1.2 _ h3⟩
    refine ⟨q, ys, rfl, hq.imp id (fun ⟨o, h, _⟩ => .inl (.inr ⟨o, h⟩)), fun L hL => ?_⟩
    have hL0 : H L = none := none_tp F2 (k1.trans k2) hL
    obtain ⟨La, Lb⟩ := F2.ne hL
    have s3 := new_same hL (.lst ys)
    have Y3 : ∀ u ∈ ys, ∃ d, Dp K (rmL [L] (L2.upd H2 L (.lst ys))) u d ∧ Pq d := dps_in (dps_same (by have := same_in (S := []) hL s3; rwa [rm_nil] at this) dg) hP
    have hL3 := upd_same (H := H2) (a := L) (o := .lst ys)
    have F3 := F2.same s3
    have k3 := (k1.trans k2).trans (Kept.of_same s3)
    have hD3 := s3 _ _ hD2
    have hz3 := prsN_same s3 hz2
    clear hq dg pr er hP dv hL hD2 hz2
    generalize L2.upd H2 L (.lst ys) = H3 at Y3 hL3 F3 k3 hD3 hz3
    clear s3 F2 k2 k1 F1 hD hz H1
    -- kind, at
    refine ⟨_, rfl, a, b, 8, rfl, F3, by decide, fun rk H4 rk0 rk1 F4 k4 => ?_⟩
    have hL4 := k4 _ _ La hL3
    refine ⟨_, rfl, _, rfl, L, ys, rfl, .inl (SqL.of hL4), a, b, _, rfl, F4, few200 (by omega), fun r5 H5 r0 r1 F5 k5 => ?_⟩
    obtain ⟨j, rfl⟩ : ∃ n : Nat, r5 = (n : Int) := ⟨r5.toNat, by omega⟩
    have hj : j < ys.length := by
      split at r1 <;> omega
    have na : a ∉ [L] := fun z => La (List.mem_singleton.mp z).symm
    have nb : b ∉ [L] := fun z => Lb (List.mem_singleton.mp z).symm
    have k35 := k4.trans k5
    have hL5 := k35 _ _ La hL3
    have Y5 : ∀ u ∈ ys, ∃ d, Dp K (rmL [L] H5) u d ∧ Pq d := fun u hu => by
      obtain ⟨d, x, y⟩ := Y3 u hu
      exact ⟨d, dp_tp (tape_rm F3 na nb) (kept_rmL k35) x, y⟩
    have hD5 := lst_tp F3 k35 hD3
    have hz5 := prsN_tp F3 k35 hz3
    have k05 := k3.trans k35
    have y6 : ys.length ≤ 6 := by omega
    clear Y3 hL3 F3 k3 hD3 hz3 k4 k5 k35 hL4 F4 r0 r1
    try dsimp only
    refine ⟨_, rfl, rfl, _, rfl, iteB (fun ek => ?_) (fun ek => ?_)⟩
    · have e0 : ys[0]? = some ys[0] := List.getElem?_eq_getElem (by omega)
      obtain ⟨g0, h0, p0⟩ := Y5 _ (List.mem_of_getElem? e0)
      generalize ys[0] = u0 at e0 h0
      obtain ⟨n0, w0, q0, o0, _⟩ := p0
      have h0 := dp_same rm_le h0
      obtain ⟨pp, py, rfl, hpp, hpy⟩ := row_len h0 q0
      obtain ⟨v1, v2, rfl⟩ : ∃ v1 v2, py = [v1, v2] := match py, dps_len hpy with
        | [v1, v2], _ => ⟨v1, v2, rfl⟩
      have hv1 : v1 = .str n0 := by
        cases hpy with
        | cons x _ =>
          cases x
          rfl
      subst hv1
      refine ⟨_, rfl, ?_⟩
      refine ⟨_, rfl, ix_row (.inl (SqL.of hL5)) (at_of rfl e0) (ix_row hpp (by rfl) ⟨_, rfl, ix_row (.inl (SqL.of hL5)) (at_of rfl e0) ⟨by show 9 ≤ sizeLine; decide, fun Z hZ => ?_⟩⟩)⟩
      have hZ6 := upd_same (H := H5) (a := Z) (o := .lst [V.non, .int 5, .str "ab", .str "", .bl true, .bl false, .int (-1), .str n0, .ref pp])
      have s6 := new_same hZ (.lst [V.non, .int 5, .str "ab", .str "", .bl true, .bl false, .int (-1), .str n0, .ref pp])
      have D6 : DpAll K (L2.upd H5 Z (.lst [V.non, .int 5, .str "ab", .str "", .bl true, .bl false, .int (-1), .str n0, .ref pp])) [V.non, .int 5, .str "ab", .str "", .bl true, .bl false, .int (-1), .str n0, .ref pp] [.none, .int 5, .str "ab", .str "", .bool true, .bool false, .int (-1), .str n0, g0] :=
        .cons .non (.cons (.int _) (.cons (.str _) (.cons (.str _) (.cons (.bl _) (.cons (.bl _) (.cons (.int _) (.cons (.str _) (.cons (dp_same s6 h0) .nil))))))))
      have nrow : ∀ {d : PyData}, rowOf d = none → FOk d ∧ areFacts t d = false := by
        intro d e
        constructor
        · intro fs h
          rw [e] at h
          cases h
        · unfold areFacts
          rw [e]
      have P6 := dps_in (P := fun d => FOk d ∧ areFacts t d = false) D6 fun d hd => by
        simp only [List.mem_cons, List.not_mem_nil, or_false] at hd
        rcases hd with rfl | rfl | rfl | rfl | rfl | rfl | rfl | rfl | rfl
        · exact nrow rfl
        · exact nrow rfl
        · exact nrow rfl
        · exact nrow rfl
        · exact nrow rfl
        · exact nrow rfl
        · exact nrow rfl
        · exact nrow rfl
        · refine ⟨fok_of q0 fun f hf => ?_, ?_⟩
          · simp only [List.mem_cons, List.not_mem_nil, or_false] at hf
            rcases hf with rfl | rfl <;> exact gs_none rfl
          · unfold areFacts
            rw [q0]
            show (_ && goFacts t [] [.str n0, .str w0]) = false
            rw [go_none rfl, Bool.and_false]
      have F6 := F5.same s6
      have k06 := k05.trans (Kept.of_same s6)
      refine ⟨_, rfl, a, b, 9, rfl, F6, by decide, fun r H7 r0 r1 F7 k7 => ?_⟩
      obtain ⟨i, rfl⟩ : ∃ n : Nat, r = (n : Int) := ⟨r.toNat, by omega⟩
      rw [if_pos (by decide)] at r1
      have hi : i < [V.non, .int 5, .str "ab", .str "", .bl true, .bl false, .int (-1), .str n0, .ref pp].length := by
        show i < 9
        omega
      have ei := List.getElem?_eq_getElem hi
      obtain ⟨d, x, y, z⟩ := P6 _ (List.mem_of_getElem? ei)
      refine ix_row (.inl (seqL_tp F6 k7 (SqL.of hZ6))) (at_of rfl ei) ?_
      exact k _ d H7 (dp_tp F6 k7 x) y (fun h => by rw [z] at h; cases h) F7 (k06.trans k7)
    refine nxt ?_
    dsimp only
    refine seq_cut (fun σ H' => ∃ (f6 f7 : Option V), σ = [some (.ref a), some (.ref m), some (.ref D), some (.ref L), some (.int rk), some (.int (j : Int)), f6, f7] ∧ PL K [L] GS 7 L H' ∧ Tape b H' a ∧ Kept a H H') ?_ (fun join2 => ?_)
    · rintro σ H6 ⟨f6, f7, rfl, P6, F6, k6⟩
      refine ⟨_, rfl, a, b, 2, rfl, F6, by decide, fun r H7 r0 r1 F7 k7 => ?_⟩
      obtain ⟨us, q1, q2, q3⟩ := P6.ex
      have hL7 := lst_tp F6 k7 q1
      obtain ⟨ds, e1, e2⟩ := in_dps (K := K) (H := rmL [L] H7) (P := GS) (vs := us) fun u hu => by
        obtain ⟨d, x, y⟩ := q3 u hu
        exact ⟨d, dp_tp (tape_rm F6 na nb) (kept_rmL k7) x, y⟩
      have e1 := dps_same rm_le e1
      have k07 := k6.trans k7
      refine ⟨rfl, _, rfl, ite2 (fun _ => ?_) (fun _ => ?_)⟩
      · refine ⟨_, rfl, L, us, rfl, .inl ⟨SqL.of hL7, fun z o hz' ho => ?_⟩⟩
        have s8 := new_same hz' (.frz o (.tup us))
        have sz : SqZ (L2.upd H7 z (.frz o (.tup us))) z us := ⟨o, upd_same, ho⟩
        have d8 := dps_same s8 e1
        exact k _ (.tuple ds) _ (.tup (.inl (.inr ⟨o, upd_same⟩)) d8) (fok_of rfl e2) (fun _ => ⟨z, us, ds, rfl, .inr sz, rfl, d8⟩) (F7.same s8) (k07.trans (Kept.of_same s8))
      · exact ⟨_, rfl, k _ (.list ds) _ (.lst (SqL.of hL7) e1) (fok_of rfl e2) (fun _ => ⟨L, us, ds, rfl, .inl (SqL.of hL7), rfl, e1⟩) F7 k07⟩
    have ej : ys[j]? = some ys[j] := List.getElem?_eq_getElem hj
    obtain ⟨dj, hdj, pj⟩ := Y5 _ (List.mem_of_getElem? ej)
    generalize ys[j] = yj at ej hdj
    have G5 : ∀ u ∈ ys, ∃ d, Dp K (rmL [L] H5) u d ∧ GS d := fun u hu => by
      obtain ⟨d, x, y⟩ := Y5 u hu
      exact ⟨d, x, y.gs⟩
    refine ⟨_, rfl, rfl, _, rfl, iteB (fun e1 => ?_) (fun e1 => ?_)⟩
    · -- insert
      refine ⟨_, rfl, .inl ⟨rfl, _, SqL.of hL5⟩, _, rfl, _, rfl, L, ys, rfl, .inl (SqL.of hL5), _, _, rfl, rfl, a, b, _, rfl, F5, ?_, fun r H6 r0 r1 F6 k6 => ?_⟩
      · have := few200 (n := ys.length + 1) (by omega)
        rwa [show ((ys.length + 1 : Nat) : Int) = (ys.length : Int) + 1 from by omega] at this
      have hL6 := k6 _ _ La hL5
      refine ⟨_, rfl, _, rfl, ix_row (.inl (SqL.of hL6)) (at_of rfl ej) ⟨L, ys, r, yj, rfl, rfl, hL6, small1000 (by omega), r0, ?_, join2 _ _ ⟨_, _, rfl, PL.chg (List.mem_singleton.mpr rfl) (fun u hu => ?_) ?_, F6.off La Lb, (k05.trans k6).new hL0⟩⟩⟩
      · have : (1000 : Int) < 2 ^ 63 := by decide
        split at r1 <;> omega
      · have hu' : u = yj ∨ u ∈ ys := by
          rcases List.mem_append.mp hu with hu | hu
          · rcases List.mem_append.mp hu with hu | hu
            · exact .inr (List.mem_of_mem_take hu)
            · exact .inl (List.mem_singleton.mp hu)
          · exact .inr (List.mem_of_mem_drop hu)
        have hu2 : u ∈ ys := hu'.elim (fun z => z ▸ List.mem_of_getElem? ej) id
        obtain ⟨d, x, y⟩ := G5 u hu2
        exact ⟨d, dp_tp (tape_rm F5 na nb) (kept_rmL k6) x, y⟩
      · rw [List.length_append, List.length_append, List.length_singleton, List.length_take, List.length_drop]
        omega
    refine ⟨_, rfl, rfl, _, rfl, iteB (fun e2 => ?_) (fun e2 => ?_)⟩
    · have hzl5 := prd_len hz5
      obtain ⟨zj, ezj⟩ : ∃ z, zs[j]? = some z := ⟨_, List.getElem?_eq_getElem (by omega)⟩
      obtain ⟨pn, epn, hpn⟩ := prd_at hz5 ezj
      obtain ⟨e, o1, o2⟩ := KN1.of pn (List.mem_of_getElem? epn)
      have emem := List.mem_of_getElem? o1
      obtain ⟨B, N, ps, kvs, qs, m1, m2, m3, m4, m5⟩ := hm.tp ha k05
      obtain ⟨q3, v3, c1, c2, c3⟩ := m3.get o1
      have hel5 : e.2.length ≤ 5 := (TO.vs _ emem).2.2
      have hel1 : 1 ≤ e.2.length := (TO.vs _ emem).2.1
      refine ⟨_, rfl, ix_row (.inr m1) (by rfl) ⟨_, rfl, _, rfl, ix_row (.inl (SqL.of hD5)) (at_of rfl (by rw [List.getElem?_map, ezj] <;> rfl)) (ix_row (.inr hpn) (by rfl) (ix_row (.inr m2) (at_of rfl c1) (.inl ⟨q3, _, rfl, c2, rfl, .str e.1, _, rfl, .ref v3, [], rfl, rfl, ?_⟩)))⟩⟩
      refine ⟨_, rfl, .inl ⟨rfl, _, SqL.of hL5⟩, _, rfl, _, rfl, _, rfl, _, rfl, v3, _, rfl, .inr c3, a, b, _, rfl, F5, few200 (by rw [List.length_map]; omega), fun r8 H8 w0 w1 F8 k8 => ?_⟩
      rw [List.length_map] at w1
      obtain ⟨j8, rfl⟩ : ∃ n : Nat, r8 = (n : Int) := ⟨r8.toNat, by omega⟩
      have hj8 : j8 < e.2.length := by
        split at w1 <;> omega
      have ew : e.2[j8]? = some e.2[j8] := List.getElem?_eq_getElem hj8
      have hew := (TO.vs _ emem).1.2 _ (List.getElem_mem hj8)
      generalize e.2[j8] = w8 at ew hew
      refine ix_row (.inr (seqT_tp F5 k8 c3)) (at_of rfl (by rw [List.getElem?_map, ew] <;> rfl)) ⟨by show 2 ≤ sizeLine; decide, fun z o hz' _ => ?_⟩
      have hL8 := k8 _ _ La hL5
      have s9 := new_same hz' (.frz o (.tup [V.str e.1, .str w8]))
      have AL : Alive [L] H8 := alive_of hL8
      refine ⟨L, ys, .ref z, rfl, rfl, s9 _ _ hL8, small1000 (by omega), join2 _ _ ⟨_, _, rfl, PL.chg (List.mem_singleton.mpr rfl) (fun u hu => ?_) (by rw [List.length_append, List.length_singleton]; omega), (F8.same s9).off La Lb, ((k05.trans k8).trans (Kept.of_same s9)).new hL0⟩⟩
      rcases List.mem_append.mp hu with hu | hu
      · obtain ⟨d, x, y⟩ := G5 u hu
        exact ⟨d, dp_same (rm_same s9) (dp_tp (tape_rm F5 na nb) (kept_rmL k8) x), y⟩
      · rw [List.mem_singleton.mp hu]
        exact ⟨.tuple [.str e.1, .str w8], .tup (.inl (.inr ⟨o, rm_new AL hz'⟩)) (.cons (.str _) (.cons (.str _) .nil)), gs_two (str_shaped (ok_of (word_small hew)))⟩
    obtain ⟨n0, w0, q0, hn0, hw0⟩ := pj
    obtain ⟨pp, py, rfl, hpp, hpy⟩ := row_len hdj q0
    have epy : py = [V.str n0, V.str w0] := by
      cases hpy with
      | cons x r =>
        cases x
        cases r with
        | cons x r =>
          cases x
          cases r
          rfl
    subst epy
    have AL5 : Alive [L] H5 := alive_of hL5
    have call : ∀ {Q' : VK}, (∀ v d H7, Dp K (rmL [L] H7) v d → GS d → Tape b H7 a → Kept a H5 H7 → Q' v H7) → rTupZ K [.ref pp] H5 fun y H6 => spOddPair K [.ref a, .ref m, y] H6 Q' E0 := by
      intro Q' hQ
      refine ⟨pp, [V.str n0, V.str w0], rfl, ?_⟩
      have go : ∀ {H6 : Hp} {p' : Addr}, Same H5 H6 → SqT K (rmL [L] H6) p' [V.str n0, V.str w0] → spOddPair K [.ref a, .ref m, .ref p'] H6 Q' E0 := fun {H6 p'} s h =>
        ⟨a, b, m, p', t, bs, [L], n0, w0, rfl, F5.same s, hm.tp ha k05 |>.same s, TO, h, hn0, hw0, AL5.same s, na, nb, fun v d H7 h1 h2 h3 h4 => hQ v d H7 h1 h2 h3 ((Kept.of_same s).trans h4)⟩
      rcases hpp with h | h
      · exact .inl ⟨Same.seq rm_le h, fun l o hl _ => go (new_same hl _) (.inl (.inr ⟨o, rm_new AL5 hl⟩))⟩
      · exact .inr ⟨seqT_same rm_le h, go (Same.refl _) h⟩
    refine ⟨_, rfl, rfl, _, rfl, iteB (fun e3 => ?_) (fun e3 => ?_)⟩
    · refine ⟨_, rfl, .inl ⟨rfl, _, SqL.of hL5⟩, _, rfl, _, rfl, _, rfl, _, rfl, ix_row (.inl (SqL.of hL5)) (at_of rfl ej) (call fun v d H7 dv gd F7 k7 => ?_)⟩
      have hL7 := k7 _ _ La hL5
      refine ⟨L, ys, v, rfl, rfl, hL7, small1000 (by omega), join2 _ _ ⟨_, _, rfl, PL.chg (List.mem_singleton.mpr rfl) (fun u hu => ?_) (by rw [List.length_append, List.length_singleton]; omega), F7.off La Lb, (k05.trans k7).new hL0⟩⟩
      rcases List.mem_append.mp hu with hu | hu
      · obtain ⟨d', x, y⟩ := G5 u hu
        exact ⟨d', dp_tp (tape_rm F5 na nb) (kept_rmL k7) x, y⟩
      · rw [List.mem_singleton.mp hu]
        exact ⟨d, dv, gd⟩
    · refine ⟨_, rfl, _, rfl, _, rfl, _, rfl, ix_row (.inl (SqL.of hL5)) (at_of rfl ej) (call fun v d H7 dv gd F7 k7 => ?_)⟩
      have hL7 := k7 _ _ La hL5
      refine ⟨_, rfl, _, rfl, L, ys, (j : Int), j, rfl, rfl, hL7, ?_, join2 _ _ ⟨_, _, rfl, PL.chg (List.mem_singleton.mpr rfl) (fun u hu => ?_) (by rw [List.length_set]; omega), F7.off La Lb, (k05.trans k7).new hL0⟩⟩
      · unfold ixN
        rw [if_pos (by omega), if_pos (by omega)]
        simp
      · rcases List.mem_or_eq_of_mem_set hu with hu | hu
        · obtain ⟨d', x, y⟩ := G5 u hu
          exact ⟨d', dp_tp (tape_rm F5 na nb) (kept_rmL k7) x, y⟩
        · rw [hu]
          exact ⟨d, dv, gd⟩
  · refine ⟨_, rfl, D, _, rfl, .inl (SqL.of hD), rfl, _, rfl, ?_⟩
    have hzl := prd_len hz
    refine ite2 (fun e => ?_) (fun e => ?_)
    · refine ⟨by show 2 ≤ sizeLine; decide, fun z o hz0 _ => ⟨by show 1 ≤ sizeLine; decide, fun L hL => ?_⟩⟩
      have s2 := new_same hz0 (.frz o (.tup [V.int 0, V.int 0]))
      have s3 := new_same hL (.lst [V.ref z])
      have e0 : t[0]? = some t[0] := List.getElem?_eq_getElem TL
      refine join _ _ ⟨L, [z], [(0, 0)], rfl, upd_same, .cons (.inl (.inr ⟨o, ?_⟩)) .nil, ⟨TL, by decide, fun p hp => ?_⟩, Nat.le_refl _, (F1.same s2).same s3, k1.trans (Kept.of_same (s2.trans s3))⟩
      · exact s3 _ _ upd_same
      · rw [List.mem_singleton.mp hp]
        exact ⟨_, e0, (TO.vs _ (List.getElem_mem TL)).2.1⟩
    · refine join _ _ ⟨D, zs, kn, rfl, hD, hz, KO1, ?_, F1, k1⟩
      cases kn with
      | nil =>
        exfalso
        have : zs = [] := List.eq_nil_of_length_eq_zero hzl
        subst this
        exact e (decide_eq_true rfl)
      | cons x l => exact Nat.succ_le_succ (Nat.zero_le _)
end
end Q
set_option Elab.async false
set_option linter.all false
set_option maxRecDepth 100000
set_option maxHeartbeats 4000000
/-! ### _law_thing of k06 -/
namespace Q
open PySem L2 XD
def TH (d : PyData) : Prop := SeqAt.shaped d = true ∧ Ds 4 d
def spThing (K : PySem.W.Frag) : Sp := fun vs H Q _ => ∃ (a b m : Addr) (t : Tbl) (bs : List NB), vs = [.ref a, .ref m] ∧ Tape b H a ∧ ModelAt K H m t bs ∧ TabOk t ∧
  ∀ v d H', Dp K H' v d → TH d → Tape b H' a → Kept a H H' → Q v H'
theorem cut_ok {n : Str} {lo hi : Option Int} (h : ∀ c ∈ tlx n, c < 0x110000) : PyData.strOk (cutS n lo hi) = true := ok_of fun c hc => by
  have e : tlx (cutS n lo hi) = (n.cps.toList.drop (HT.sIx n.length 0 lo)).take (HT.sIx n.length n.length hi - HT.sIx n.length 0 lo) := rfl
  rw [e] at hc
  exact h c (List.mem_of_mem_drop (List.mem_of_mem_take hc))
theorem th_str {x : Str} (h : PyData.strOk x = true) : TH (.str x) := ⟨str_shaped h, fun xs e => by cases e⟩
theorem ds_row {k : Nat} {d : PyData} {xs : List PyData} (e : rowOf d = some xs) (hl : xs.length ≤ 1000) (h : ∀ x ∈ xs, Ds k x) : Ds (k + 1) d := fun ys ey => by
  rw [e] at ey
  cases ey
  exact ⟨hl, h⟩
theorem ds_no {k : Nat} {d : PyData} (e : rowOf d = none) : Ds (k + 1) d := fun ys ey => by
  rw [e] at ey
  cases ey
abbrev nThing : List Str := ["tape", "model", "name", "word", "odd"]
section
variable {P : Program} {w : World} {K : PySem.W.Frag} {mg : Str → Option Value} {base : Heap}
theorem scThing : FnScope nThing ["tape", "model"] (defScope sThing) := ⟨rfl, rfl, rfl, by decide +kernel, rfl, by decide +kernel, by decide +kernel⟩
theorem ok_thing {f : Addr} {fd : FuncData} (F : Fun K "_law_thing" "_law_thing" sThing f fd) (Tl : mg "len" = none) (KD : Kn P w K mg base 2 "_law_draw" ["tape", "many"] spDrawT) : FnOk P w K mg base CX0 3 f fd ["tape", "model"] (spThing K) := by
  obtain ⟨fD, fdD, GD, kD, bD, mD⟩ := KD.ex
  refine F.ok scThing (fun vs H Q E h => ?_) (fun cdv A outer s H vs Q E hr h => ?_)
  · obtain ⟨a, b, m, t, bs, rfl, _⟩ := h
    rfl
  obtain ⟨a, b, m, t, bs, rfl, ha, hm, TO, k⟩ := h
  refine ⟨_, pss_cons (ps_set (i := 2) scThing.nd rfl (.inl rfl) (pe_ix (ix_both K rfl) (pe_ix (ix_both K rfl) (pe_ix (ix_both K rfl) (pv 1) pe_int (fun _ _ => rfl)) (pe_call GD hr rfl mD kD bD .nil pass0 (pa_cons (pv 0) (pa_cons (pe_callB call_len_seq rfl Tl PySem.boot_len (pa_cons (pe_ix (ix_both K rfl) (pv 1) pe_int (fun _ _ => rfl)) pa_nil)) pa_nil))) (fun _ _ => rfl)) pe_int (fun _ _ => rfl)))
    (pss_cons (ps_set (i := 3) scThing.nd rfl (.inl rfl) (pe_ix (ix_both K rfl) (pe_ix (ix_both K rfl) (pe_ix (ix_both K rfl) (pe_ix (ix_both K rfl) (pv 1) pe_int (fun _ _ => rfl)) pe_int (fun _ _ => rfl)) pe_int (fun _ _ => rfl)) pe_int (fun _ _ => rfl)))
    (pss_cons (ps_set (i := 4) scThing.nd rfl (.inl rfl) (pe_lst (pa_cons (pe_op op_add_str (pv 2) pe_str) (pa_cons (pe_slice sl_str (pv 2) po_none (po_some (pe_un un_neg pe_int))) (pa_cons pe_str (pa_cons (pv 3) (pa_cons (pe_upper (pv 2)) (pa_cons pe_non (pa_cons pe_int (pa_cons pe_bl (pa_cons (pe_tupZ pa_nil)
        (pa_cons (pe_tupZ (pa_cons (pv 2) pa_nil)) (pa_cons (pe_lst (pa_cons (pv 2) pa_nil)) (pa_cons (pe_lst pa_nil) (pa_cons (pe_lst (pa_cons pe_str (pa_cons pe_non pa_nil))) (pa_cons (pe_un un_neg pe_int) pa_nil))))))))))))))))
    (pss_one (ps_ret (pe_ix (ix_both K rfl) (pv 4) (pe_call GD hr rfl mD kD bD .nil pass0 (pa_cons (pv 0) (pa_cons (pe_callB call_len_seq rfl Tl PySem.boot_len (pa_cons (pv 4) pa_nil)) pa_nil))) (fun _ _ => rfl)))))), ?_⟩
  have TL := TO.lo
  have TU := TO.hi
  obtain ⟨B, N, ps, kvs, qs, m1, m2, m3, m4, m5⟩ := hm
  have hpl : ps.length = t.length := m3.len.1
  refine ⟨_, rfl, ix_row (.inr m1) (by rfl) ⟨_, rfl, _, rfl, ix_row (.inr m1) (by rfl) ⟨B, _, rfl, .inr m2, a, b, _, rfl, ha, few200 (by rw [List.length_map]; omega), fun r H1 r0 r1 F1 k1 => ?_⟩⟩⟩
  rw [List.length_map, hpl] at r1
  obtain ⟨j, rfl⟩ : ∃ n : Nat, r = (n : Int) := ⟨r.toNat, by omega⟩
  have hj : j < t.length := by
    split at r1 <;> omega
  have e0 : t[j]? = some t[j] := List.getElem?_eq_getElem hj
  have emem := List.getElem_mem hj
  generalize t[j] = e at e0 emem
  obtain ⟨q, v3, c1, c2, c3⟩ := (m3.tp ha k1).get e0
  have hen : word e.1 = true := TO.nm.2 e.1 (List.mem_map.mpr ⟨_, emem, rfl⟩)
  refine ix_row (.inr (seqT_tp ha k1 m2)) (at_of rfl c1) (ix_row (.inr c2) (by rfl) ?_)
  have f0 : t[0]? = some t[0] := List.getElem?_eq_getElem TL
  have fmem := List.getElem_mem TL
  generalize t[0] = g at f0 fmem
  obtain ⟨q0, v0, d1, d2, d3⟩ := (m3.tp ha k1).get f0
  have g1 := (TO.vs _ fmem).2.1
  have w0 : g.2[0]? = some g.2[0] := List.getElem?_eq_getElem g1
  have hw0 : word g.2[0] = true := (TO.vs _ fmem).1.2 _ (List.getElem_mem g1)
  generalize g.2[0] = wd at w0 hw0
  refine ⟨_, rfl, ix_row (.inr (seqT_tp ha k1 m1)) (by rfl) (ix_row (.inr (seqT_tp ha k1 m2)) (at_of (j := 0) rfl d1) (ix_row (.inr d2) (by rfl) (ix_row (.inr d3) (at_of (j := 0) rfl (by rw [List.getElem?_map, w0] <;> rfl)) ?_)))⟩
  clear m1 m2 m3 m4 m5 c1 c2 c3 d1 d2 d3
  generalize e.1 = n at hen
  have ln := word_len hen
  have on := word_small hen
  have okn : PyData.strOk n = true := ok_of on
  have okx : PyData.strOk (n ++ "x") = true := ok_app on (by decide +kernel)
  have lx : n.length + ("x" : Str).length ≤ sizeLine := by
    have : ("x" : Str).length = 1 := by decide +kernel
    exact le_line (by omega)
  have okw : PyData.strOk wd = true := ok_of (word_small hw0)
  have AN : Alive [] H1 := fun b hb => absurd hb List.not_mem_nil
  try dsimp only [L2.start, gName]
  refine asg_lst ?_
  let σ2 : L2.St := [some (.ref a), some (.ref m), some (.str n), some (.str wd), none]
  have xn : MkD K [] H1 σ2 (tVar 2) (.str n) := mk_var (i := 2) rfl (.str n)
  refine (show MkL K [] H1 σ2 _ [.str (n ++ "x"), .str (cutS n none (some (-1))), .str "", .str wd, .str (Txt.upper n), .none, .int 0, .bool true, .tuple [], .tuple [.str n], .list [.str n], .list [], .list [.str "day", .none], .int (-5)] from
    mkl_cons (fun H Q s k => ⟨_, rfl, _, _, rfl, rfl, lx, k _ H (Same.refl H) (.str _)⟩) (mkl_cons (fun H Q s k => by
      refine ⟨_, rfl, ?_⟩
      unfold tNoPart
      exact ⟨_, rfl, _, rfl, _, rfl, le_line (by omega), k _ H (Same.refl H) (.str _)⟩) (mkl_cons (mk_str "") (mkl_cons (mk_var (i := 3) rfl (.str wd)) (mkl_cons (mk_up (x := n) (fun H Q s k => ⟨_, rfl, k H (Same.refl H)⟩) (Nat.le_trans ln (by decide))) (mkl_cons mk_non (mkl_cons (mk_int 0) (mkl_cons (mk_bl true)
    (mkl_cons (mk_tup AN (by rfl) mkl_nil) (mkl_cons (mk_tup AN (by rfl) (mkl_cons xn mkl_nil)) (mkl_cons (mk_lst AN (by rfl) (mkl_cons xn mkl_nil)) (mkl_cons (mk_lst AN (by rfl) mkl_nil) (mkl_cons (mk_lst AN (by rfl) (mkl_cons (mk_str "day") (mkl_cons mk_non mkl_nil))) (mkl_cons (fun H Q s k => ⟨_, rfl, k _ H (Same.refl H) (.int _)⟩) mkl_nil)))))))))))))) H1 _ (Same.refl H1) fun vs H2 s2 hvs => ?_
  have lv := dps_len hvs
  have lv : vs.length = 14 := lv
  refine ⟨le_line (by omega), fun Z hZ => ?_⟩
  have s3 := new_same hZ (.lst vs)
  have hZ3 := upd_same (H := H2) (a := Z) (o := .lst vs)
  rw [rm_nil] at hvs
  have P3 := dps_in (P := TH) (dps_same s3 hvs) fun d hd => by
    simp only [List.mem_cons, List.not_mem_nil, or_false] at hd
    rcases hd with rfl | rfl | rfl | rfl | rfl | rfl | rfl | rfl | rfl | rfl | rfl | rfl | rfl | rfl
    · exact th_str okx
    · exact th_str (cut_ok on)
    · exact th_str (by decide +kernel)
    · exact th_str okw
    · exact th_str (upper_ok hen)
    · exact ⟨by decide +kernel, ds_no rfl⟩
    · exact ⟨by decide +kernel, ds_no rfl⟩
    · exact ⟨by decide +kernel, ds_no rfl⟩
    · exact ⟨by decide +kernel, ds_row rfl (by decide) fun x hx => absurd hx List.not_mem_nil⟩
    · exact ⟨tup1_shaped okn, ds_row rfl (Nat.le_of_ble_eq_true rfl) fun x hx => by rw [List.mem_singleton.mp hx]; exact ds_no rfl⟩
    · exact ⟨lst1_shaped okn, ds_row rfl (Nat.le_of_ble_eq_true rfl) fun x hx => by rw [List.mem_singleton.mp hx]; exact ds_no rfl⟩
    · exact ⟨by decide +kernel, ds_row rfl (by decide) fun x hx => absurd hx List.not_mem_nil⟩
    · refine ⟨by decide +kernel, ds_row rfl (by decide) fun x hx => ?_⟩
      simp only [List.mem_cons, List.not_mem_nil, or_false] at hx
      rcases hx with rfl | rfl <;> exact ds_no rfl
    · exact ⟨by decide +kernel, ds_no rfl⟩
  have F3 := (F1.same s2).same s3
  have k3 := k1.trans (Kept.of_same (s2.trans s3))
  refine ⟨_, rfl, _, rfl, _, rfl, Z, vs, rfl, .inl (SqL.of hZ3), a, b, _, rfl, F3, few200 (by omega), fun r H' r0 r1 F' k' => ?_⟩
  obtain ⟨j', rfl⟩ : ∃ n : Nat, r = (n : Int) := ⟨r.toNat, by omega⟩
  have hj' : j' < vs.length := by
    split at r1 <;> omega
  have ev : vs[j']? = some vs[j'] := List.getElem?_eq_getElem hj'
  refine ix_row (.inl (seqL_tp F3 k' (SqL.of hZ3))) (at_of rfl ev) ?_
  obtain ⟨d, hd, hg⟩ := P3 _ (List.mem_of_getElem? ev)
  exact k _ d H' (dp_tp F3 k' hd) hg F' (k3.trans k')
end
end Q
set_option Elab.async false
set_option linter.all false
set_option maxRecDepth 100000
set_option maxHeartbeats 4000000
/-! ### _law_right of k06 -/
namespace Q
open PySem L2 XD
def spRight6 (K : PySem.W.Frag) (C : Addr) : Sp := fun vs H Q _ => ∃ (a m x pf pr : Addr) (v u : V) (t : Tbl) (bs : List NB) (rs : List (List Pr)) (d du : PyData), vs = [.ref a, .ref x, .ref m, v, u] ∧ ModelAt K H m t bs ∧ TabOk t ∧ Ask K C H x v pf pr t rs d ∧ Dp K H u du ∧ TH du ∧
  ∀ H', Same H H' → Q (.bl true) H'
abbrev nRight6 : List Str := ["tape", "sheet", "model", "handed", "name", "are_facts_v", "way", "told"]
section
variable {P : Program} {w : World} {K : PySem.W.Frag} {mg : Str → Option Value} {base : Heap}
theorem scRight6 : FnScope nRight6 ["tape", "sheet", "model", "handed", "name"] (defScope sRight) := ⟨rfl, rfl, rfl, by decide +kernel, rfl, by decide +kernel, by decide +kernel⟩
theorem ok_right6 {f C : Addr} {fd : FuncData} (F : Fun K "_law_right" "_law_right" sRight f fd) (Tr : mg "range" = none) (KA : Kn P w K mg base 2 "_law_are_facts" ["model", "thing"] (spLAre K)) (KI : Kn P w K mg base 1 "_law_is_field" ["model", "thing"] (spIsField K))
    (KT : Kn P w K mg base 8 "_law_told" ["way", "sheet", "handed", "name"] (spTold K C)) (KS : Kn P w K mg base 5 "_law_same" ["actual", "due"] (spSame K 5)) : FnOk P w K mg base CX0 9 f fd ["tape", "sheet", "model", "handed", "name"] (spRight6 K C) := by
  obtain ⟨fA, fdA, GA, kA, bA, mA⟩ := KA.ex
  obtain ⟨fI, fdI, GI, kI, bI, mI⟩ := KI.ex
  obtain ⟨fT, fdT, GT, kT, bT, mT⟩ := KT.ex
  obtain ⟨fS, fdS, GS, kS, bS, mS⟩ := KS.ex
  refine F.ok scRight6 (fun vs H Q E h => ?_) (fun cdv A outer s H vs Q E hr h => ?_)
  · obtain ⟨a, m, x, pf, pr, v, u, t, bs, rs, d, du, rfl, _⟩ := h
    rfl
  obtain ⟨a, m, x, pf, pr, v, u, t, bs, rs, d, du, rfl, hm, TO, A0, hu, hth, kq⟩ := h
  refine ⟨_, pss_cons (ps_set (i := 5) scRight6.nd rfl (.inl rfl) (pe_call GA (hr.mono (by decide)) rfl mA kA bA .nil pass0 (pa_cons (pv 2) (pa_cons (pv 3) pa_nil))))
    (pss_cons (ps_for PassesOwn.never rfl (pi_range1 rfl Tr (pa_cons pe_int pa_nil)) (pg_name (i := 6) scRight6.nd rfl (.inl rfl))
      (pss_cons (ps_set (i := 7) scRight6.nd rfl (.inl rfl) (pe_call GT hr rfl mT kT bT .nil pass0 (pa_cons (pv 6) (pa_cons (pv 1) (pa_cons (pv 3) (pa_cons (pv 4) pa_nil))))))
      (pss_one (ps_if (pt_not (pt_val (pv 5)))
        (pss_one (ps_if (pt_not (pt_val (pe_call GS (hr.mono (by decide)) rfl mS kS bS .nil pass0 (pa_cons (pv 7) (pa_cons (pe_tupZ (pa_cons pe_str (pa_cons pe_int pa_nil))) pa_nil))))) (pss_one (ps_ret pe_bl)) pss_nil))
        (pss_one (ps_if (PW.pt (pw_and (pt_cmpR op_gt (pv 6) pe_int (nomark _)) (pw_and1 (pt_not (pt_val (pe_call GI (hr.mono (by decide)) rfl mI kI bI .nil pass0 (pa_cons (pv 2) (pa_cons (pv 4) pa_nil))))))))
          (pss_one (ps_if (pt_not (pt_val (pe_call GS (hr.mono (by decide)) rfl mS kS bS .nil pass0 (pa_cons (pv 7) (pa_cons (pe_tupZ (pa_cons pe_str (pa_cons (pv 4) pa_nil))) pa_nil))))) (pss_one (ps_ret pe_bl)) pss_nil))
          (pss_one (ps_if (pt_cmpR op_ne (pe_ix (ix_both K rfl) (pv 7) pe_int (fun _ _ => rfl)) pe_str (nomark _)) (pss_one (ps_ret pe_bl)) pss_nil))))))))
    (pss_one (ps_ret pe_bl))), ?_⟩
  refine ⟨_, rfl, _, rfl, m, v, t, bs, d, rfl, hm, TO, A0.dp, fun H1 s1 => ?_⟩
  have A1 := A0.same s1
  have hm1 := hm.same s1
  have hu1 := dp_same s1 hu
  have kq1 : ∀ H', Same H1 H' → Q (.bl true) H' := fun H' s => kq H' (s1.trans s)
  clear A0 hm hu kq s1
  try dsimp only [L2.start, gName]
  generalize hb : areFacts t d = b
  refine ⟨_, rfl, by decide, by decide, ?_⟩
  refine for_range (lo := 0) (n := 6) (fun i σ H' => ∃ f6 f7 : Option V, σ = [some (.ref a), some (.ref x), some (.ref m), some v, some u, some (.bl b), f6, f7] ∧ Same H1 H') ⟨none, none, rfl, Same.refl _⟩ ?_ ?_
  · rintro i σ H2 hi ⟨f6, f7, rfl, s2⟩
    have ei : (0 : Int) + (i : Int) = ((i : Nat) : Int) := by omega
    rw [ei]
    refine ⟨_, rfl, _, rfl, _, rfl, _, rfl, i, x, pf, pr, v, u, t, rs, d, du, rfl, hi, A1.same s2, TO.hi, dp_same s2 hu1, hth.1, fun r H3 s3 hr3 => ?_⟩
    have s23 := s2.trans s3
    have no : ∀ {p : Prop}, false = true → p := fun h => by cases h
    refine ⟨_, rfl, _, rfl, ?_⟩
    unfold toldD at hr3
    rw [hb] at hr3
    cases b with
    | false =>
      rw [if_neg Bool.false_ne_true] at hr3
      refine iteT ⟨_, rfl, by show 2 ≤ sizeLine; decide, fun z o hz _ => ?_⟩
      have s4 := new_same hz (.frz o (.tup [V.str "value", .int 1]))
      refine ⟨r, .ref z, _, rfl, dp_same s4 hr3, .tup (.inl (.inr ⟨o, upd_same⟩)) (.cons (.str _) (.cons (.int _) .nil)), ds_row rfl (Nat.le_of_ble_eq_true rfl) (fun y hy => ?_), fun H5 s5 => ⟨_, rfl, iteNS rfl ⟨_, _, rfl, s23.trans (s4.trans s5)⟩⟩⟩
      simp only [List.mem_cons, List.not_mem_nil, or_false] at hy
      rcases hy with rfl | rfl <;> exact ds_no rfl
    | true =>
      rw [if_pos rfl] at hr3
      refine iteF ?_
      have fin : ∀ {σ : L2.St} {H4 : Hp} {Dn : Ends} {rv : PyData}, σ[7]? = some (some r) → Same H3 H4 → Dp K H3 r (.tuple [.str "told", rv]) → Dn.nx σ H4 → tIfS (tTest (tOp rNe (tOp (rBoth K) (tVar 7) (tC (V.int 0))) (tC (V.str "told")))) (tRet (tC (V.bl false))) tNext Dn σ H4 := by
        intro σ H4 Dn rv e s4 h q
        obtain ⟨p, xs, rfl, hq, ha⟩ := TD.of h
        obtain ⟨x1, x2, rfl⟩ : ∃ x1 x2, xs = [x1, x2] := match xs, dps_len ha with
          | [x1, x2], _ => ⟨x1, x2, rfl⟩
        cases ha with
        | cons y _ =>
          cases y
          exact ⟨_, e, ix_row (.inr (seqT_same s4 hq)) (by rfl) ⟨rfl, _, rfl, iteNS (by decide +kernel) q⟩⟩
      refine ⟨_, rfl, _, _, rfl, rfl, _, rfl, ?_⟩
      by_cases h3 : 3 < i
      · refine iteDT (by omega) ⟨_, rfl, _, rfl, m, u, t, bs, du, rfl, hm1.same s23, TO, dp_same s23 hu1, fun H4 s4 => ⟨_, rfl, ?_⟩⟩
        cases hn : isName t du with
        | false =>
          rw [if_pos ⟨h3, hn⟩] at hr3
          refine iteT ⟨_, rfl, _, rfl, by show 2 ≤ sizeLine; decide, fun z o hz _ => ?_⟩
          have s5 := new_same hz (.frz o (.tup [V.str "field", u]))
          have s45 := s4.trans s5
          refine ⟨r, .ref z, _, rfl, dp_same s45 hr3, .tup (.inl (.inr ⟨o, upd_same⟩)) (.cons (.str _) (.cons (dp_same (s23.trans s45) hu1) .nil)), ds_row rfl (Nat.le_of_ble_eq_true rfl) (fun y hy => ?_), fun H5 s6 => ⟨_, rfl, iteNS rfl ⟨_, _, rfl, s23.trans (s45.trans s6)⟩⟩⟩
          simp only [List.mem_cons, List.not_mem_nil, or_false] at hy
          rcases hy with rfl | rfl
          · exact ds_no rfl
          · exact hth.2
        | true =>
          rw [if_neg (fun z => by rw [hn] at z; exact Bool.noConfusion z.2)] at hr3
          exact iteF (fin rfl s4 hr3 ⟨_, _, rfl, s23.trans s4⟩)
      · rw [if_neg (fun z => h3 z.1)] at hr3
        exact iteDF (by omega) (fin rfl (Same.refl _) hr3 ⟨_, _, rfl, s23⟩)
  · rintro σ H2 ⟨f6, f7, rfl, s2⟩
    exact kq1 H2 s2
end
end Q
set_option Elab.async false
set_option linter.all false
set_option maxRecDepth 100000
set_option maxHeartbeats 4000000
/-! ### k06: what right calls tell is of few levels; what stays while the tape is read -/
namespace Q
open PySem L2 XD
theorem FaZ.tp {K : PySem.W.Frag} {H H' : Hp} {a b : Addr} {v : V} {d : PyData} (F : Tape b H a) (k : Kept a H H') (h : FaZ K H v d) : FaZ K H' v d := by
  obtain ⟨q, zs, gs, e, x, y, z⟩ := h
  exact ⟨q, zs, gs, e, x.elim (fun z => .inl (seqL_tp F k z)) (fun z => .inr (sqZ_tp F k z)), y, dp_tp.dps_tp F k z⟩
theorem Hnd.tp {K : PySem.W.Frag} {H H' : Hp} {a b : Addr} {t : Tbl} {kn : NB} {v : V} {d : PyData} (F : Tape b H a) (k : Kept a H H') (h : Hnd K H t kn v d) : Hnd K H' t kn v d := ⟨h.ok, dp_tp F k h.dp, h.fr, h.fz.tp F k⟩
theorem ds_two6 {a b : List Pr} (ha : a.length ≤ 1000) (hb : b.length ≤ 1000) : Ds 5 (twoD (some (a, b))) := by
  have key : ∀ {r : List Pr}, r.length ≤ 1000 → Ds 4 (ruleD r) := fun {r} h => ds_row rfl (by rw [List.length_map]; exact h) fun x hx => by
    obtain ⟨e, he, rfl⟩ := List.mem_map.mp hx
    refine ds_row rfl (Nat.le_of_ble_eq_true rfl) fun x hx => ?_
    simp only [List.mem_cons, List.not_mem_nil, or_false] at hx
    rcases hx with rfl | rfl <;> exact ds_no rfl
  refine ds_row rfl (Nat.le_of_ble_eq_true rfl) fun x hx => ?_
  simp only [List.mem_cons, List.not_mem_nil, or_false] at hx
  rcases hx with rfl | rfl
  · exact key ha
  · exact key hb
theorem lot_len {s : List Pr} (h6 : s.length < 7) {n : Nat} (hn : n ≤ s.length) {l : List Pr} (h : l ∈ lotsUp s n) : l.length ≤ 1000 := by
  obtain ⟨r, hr, hl⟩ := List.mem_flatMap.mp h
  have hr := List.mem_range.mp hr
  obtain ⟨idx, hi, rfl⟩ := List.mem_map.mp hl
  obtain ⟨i, hi', rfl⟩ := List.mem_iff_getElem.mp hi
  have := (XQ.lots_step s.length h6 r (by omega)).2.2 i hi'
  unfold lotAt
  rw [List.length_map]
  have e : (XQ.lotsC s.length r).getD i [] = (XQ.lotsC s.length r)[i] := by rw [List.getD_eq_getElem?_getD, List.getElem?_eq_getElem hi'] <;> rfl
  rw [e] at this
  exact Nat.le_trans this.2.1.1 (by decide)
theorem ds_res {t : Tbl} {rs : List (List Pr)} {d du : PyData} (T : TabOk t) (O : FormOk t rs) : ∀ n, Ds 5 (resD t rs d du n) := by
  intro n
  have fo := fills_ok (f := factsOf d) O
  have t6 := T.hi
  have al : (allPoss (fills rs (factsOf d) t) t).length = t.length := by
    unfold allPoss
    rw [List.length_map, List.length_range]
  match n with
  | 0 => exact ds_rowsD fo.1 fun r hr => by rw [fo.2 r hr]; omega
  | 1 =>
    refine ds_strs ?_
    unfold openOf
    rw [List.length_map]
    have := List.length_filter_le (fun e : Str × List Str => decide (1 < e.2.length)) (allPoss (fills rs (factsOf d) t) t)
    omega
  | 2 =>
    refine ds_lot ?_
    unfold forcedOf
    rw [List.length_map]
    have := List.length_filter_le (fun e : Str × List Str => decide (e.2.length = 1)) (allPoss (fills rs (factsOf d) t) t)
    omega
  | 3 =>
    show Ds 5 (clashD (clashOf rs (factsOf d) t))
    have sl : (sorted t (factsOf d)).length ≤ t.length := sorted_len
    unfold clashOf
    by_cases e : (fills rs (factsOf d) t).isEmpty = true
    · rw [if_pos e]
      refine ds_lot ?_
      cases ef : (lotsUp (sorted t (factsOf d)) (sorted t (factsOf d)).length).find? (noFill rs t) with
      | none =>
        show (sorted t (factsOf d)).length ≤ 1000
        omega
      | some l => exact lot_len (by omega) (Nat.le_refl _) (List.mem_of_find?_eq_some ef)
    · rw [if_neg e]
      exact ds_no rfl
  | 4 =>
    refine ds_strs ?_
    unfold possAt
    cases e : t[fix t du]? with
    | none => exact Nat.zero_le _
    | some e0 =>
      have h1 := (T.vs e0 (List.mem_of_getElem? e)).2.2
      have h2 := List.length_filter_le (fun v => decide ((e0.1, v) ∈ (fills rs (factsOf d) t).map fun row => row.getD (fix t du) d0)) e0.2
      exact Nat.le_trans h2 (by omega)
  | n + 5 =>
    show Ds 5 (twoD (twoOf (fills rs (factsOf d) t) (fix t du)))
    cases e : twoOf (fills rs (factsOf d) t) (fix t du) with
    | none => exact ds_no rfl
    | some p =>
      obtain ⟨x, y⟩ := p
      have : x ∈ fills rs (factsOf d) t ∧ y ∈ fills rs (factsOf d) t := by
        unfold twoOf at e
        split at e
        · cases e
        · rename_i r0 l hl
          obtain ⟨row, h1, h2⟩ := Option.map_eq_some_iff.mp e
          cases h2
          rw [hl]
          exact ⟨List.mem_cons_self, hl ▸ List.mem_of_find?_eq_some h1⟩
      exact ds_two6 (by rw [fo.2 x this.1]; omega) (by rw [fo.2 y this.2]; omega)
end Q
set_option Elab.async false
set_option linter.all false
set_option maxRecDepth 100000
set_option maxHeartbeats 4000000
/-! ### _law_model, the bound 90 written (k04 to k06) -/
namespace Q
open PySem L2 XD
def spModel (K : PySem.W.Frag) : Sp := fun vs H Q _ => ∃ (a b : Addr), vs = [.ref a] ∧ Tape b H a ∧
  ∀ (m : Addr) (t : Tbl) (bs : List NB) (H' : Hp), ModelAt K H' m t bs → ModelOk t bs 90 → Tape b H' a → Kept a H H' → Q (.ref m) H'
section
variable {P : Program} {w : World} {K : PySem.W.Frag} {mg : Str → Option Value} {base : Heap}
theorem scModel : FnScope ["tape", "pool", "most", "book", "product", "name", "words", "bans", "k", "ban", "at"] ["tape"] (defScope sModel) := ⟨rfl, rfl, rfl, by decide +kernel, rfl, by decide +kernel, by decide +kernel⟩
theorem ok_model {f : Addr} {fd : FuncData} (F : Fun K "_law_model" "_law_model" sModel f fd) (T : BtT mg) (T3 : mg "tuple" = none) (KD : Kn P w K mg base 2 "_law_draw" ["tape", "many"] spDrawT) (KN : Kn P w K mg base 3 "_law_names" ["tape", "many"] spNames) (KC : Kn P w K mg base 3 "_law_chosen" ["tape", "things", "many"] (spChosen K)) :
    FnOk P w K mg base CX0 4 f fd ["tape"] (spModel K) := by
  obtain ⟨fD, fdD, GD, kD, bD, mD⟩ := KD.ex
  obtain ⟨fN, fdN, GN, kN, bN, mN⟩ := KN.ex
  obtain ⟨fC, fdC, GC, kC, bC, mC⟩ := KC.ex
  refine F.ok scModel (fun vs H Q E h => ?_) (fun cdv A outer s H vs Q E hr h => ?_)
  · obtain ⟨a, b, rfl, _⟩ := h
    rfl
  obtain ⟨a, b, rfl, ha, k⟩ := h
  have hc1 : 1 ≤ 90 := by decide
  have hc2 : 90 ≤ 1000 := by decide
  have vt_ : PySem.bootBuiltins "tuple" = some (.type "tuple") := by decide +kernel
  refine ⟨_, pss_cons (ps_set (i := 1) scModel.nd rfl (.inl rfl) (pe_call GN hr rfl mN kN bN .nil pass0 (pa_cons (pv 0) (pa_cons pe_int pa_nil))))
    (pss_cons (ps_set (i := 2) scModel.nd rfl (.inl rfl) (pe_ix (ix_both K rfl) (pe_lst (pa_cons pe_int (pa_cons pe_int (pa_cons pe_int (pa_cons pe_int pa_nil))))) (pe_call GD (hr.mono (by decide)) rfl mD kD bD .nil pass0 (pa_cons (pv 0) (pa_cons pe_int pa_nil))) (fun _ _ => rfl)))
    (pss_cons (ps_set (i := 3) scModel.nd rfl (.inl rfl) (pe_lst pa_nil))
    (pss_cons (ps_set (i := 4) scModel.nd rfl (.inl rfl) pe_int)
    (pss_cons (ps_for PassesOwn.never rfl (pi_list (pe_call GC hr rfl mC kC bC .nil pass0 (pa_cons (pv 0) (pa_cons (pv 1) (pa_cons (pe_op op_add pe_int (pe_call GD (hr.mono (by decide)) rfl mD kD bD .nil pass0 (pa_cons (pv 0) (pa_cons (pe_ix (ix_both K rfl) (pe_lst (pa_cons pe_int (pa_cons pe_int pa_nil))) (pe_callTy call_int1 rfl T.int (by decide +kernel) (pa_cons (pe_and (pe_cmpR op_eq (pv 2) pe_int (nomark _)) (pe_one (pe_cmpR op_eq (pe_call GD (hr.mono (by decide)) rfl mD kD bD .nil pass0 (pa_cons (pv 0) (pa_cons pe_int pa_nil))) pe_int (nomark _)))) pa_nil)) (fun _ _ => rfl)) pa_nil)))) pa_nil))))) (pg_name (i := 5) scModel.nd rfl (.inl rfl))
      (pss_cons (ps_set (i := 6) scModel.nd rfl (.inl rfl) (pe_call GC hr rfl mC kC bC .nil pass0 (pa_cons (pv 0) (pa_cons (pv 1) (pa_cons (pe_op op_add pe_int (pe_call GD (hr.mono (by decide)) rfl mD kD bD .nil pass0 (pa_cons (pv 0) (pa_cons (pv 2) pa_nil)))) pa_nil)))))
      (pss_cons (ps_if (pt_cmpR op_gt (pe_mul (pv 4) (pe_callB call_len_seq rfl T.len PySem.boot_len (pa_cons (pv 6) pa_nil))) pe_int (nomark _)) (pss_one (ps_set (i := 6) scModel.nd rfl (.inl rfl) (pe_slice sl_list (pv 6) po_none (po_some pe_int)))) pss_nil)
      (pss_cons (ps_set (i := 4) scModel.nd rfl (.inl rfl) (pe_mul (pv 4) (pe_callB call_len_seq rfl T.len PySem.boot_len (pa_cons (pv 6) pa_nil))))
      (pss_one (ps_expr (pe_bm PySem.F.plainAttrs_list PySem.F.slot_list_append PySem.F.type_list_append mt_append (pv 3) (pa_cons (pe_tupZ (pa_cons (pv 5) (pa_cons (pe_callTy (call_tupK K rfl) rfl T3 vt_ (pa_cons (pv 6) pa_nil)) pa_nil))) pa_nil))))))))
    (pss_cons (ps_set (i := 7) scModel.nd rfl (.inl rfl) (pe_lst pa_nil))
    (pss_cons (ps_for PassesOwn.never rfl (pi_range1 rfl T.range (pa_cons (pe_call GD (hr.mono (by decide)) rfl mD kD bD .nil pass0 (pa_cons (pv 0) (pa_cons pe_int pa_nil))) pa_nil)) (pg_name (i := 8) scModel.nd rfl (.inl rfl))
      (pss_cons (ps_set (i := 9) scModel.nd rfl (.inl rfl) (pe_lst pa_nil))
      (pss_cons (ps_for PassesOwn.never rfl (pi_list (pe_call GC hr rfl mC kC bC .nil pass0 (pa_cons (pv 0) (pa_cons (pe_listRg rfl (by rfl) T.list (prg_1 (by rfl) T.range (pe_callB call_len_seq rfl T.len PySem.boot_len (pa_cons (pv 3) pa_nil)))) (pa_cons (pe_op op_add pe_int (pe_call GD (hr.mono (by decide)) rfl mD kD bD .nil pass0 (pa_cons (pv 0) (pa_cons pe_int pa_nil)))) pa_nil))))) (pg_name (i := 10) scModel.nd rfl (.inl rfl))
        (pss_one (ps_expr (pe_bm PySem.F.plainAttrs_list PySem.F.slot_list_append PySem.F.type_list_append mt_append (pv 9) (pa_cons (pe_tupZ (pa_cons (pv 10) (pa_cons (pe_call GD (hr.mono (by decide)) rfl mD kD bD .nil pass0 (pa_cons (pv 0) (pa_cons (pe_callB call_len_seq rfl T.len PySem.boot_len (pa_cons (pe_ix (ix_both K rfl) (pe_ix (ix_both K rfl) (pv 3) (pv 10) (fun _ _ => rfl)) pe_int (fun _ _ => rfl)) pa_nil)) pa_nil))) pa_nil))) pa_nil)))))
      (pss_one (ps_expr (pe_bm PySem.F.plainAttrs_list PySem.F.slot_list_append PySem.F.type_list_append mt_append (pv 7) (pa_cons (pe_callTy (call_tupK K rfl) rfl T3 vt_ (pa_cons (pv 9) pa_nil)) pa_nil)))))))
    (pss_one (ps_ret (pe_tupZ (pa_cons (pe_callTy (call_tupK K rfl) rfl T3 vt_ (pa_cons (pv 3) pa_nil)) (pa_cons (pe_callTy (call_tupK K rfl) rfl T3 vt_ (pa_cons (pv 7) pa_nil)) pa_nil))))))))))), ?_⟩
  refine ⟨_, rfl, a, b, 8, rfl, ha, by decide, by decide, fun PL us H1 hP0 hP hl8 hus F1 k1 => ?_⟩
  obtain ⟨Pa, Pb⟩ := ha.ne hP0
  dsimp only
  refine ⟨by show 4 ≤ sizeLine; decide, fun L1 hL1 => ?_⟩
  have s1 := new_same hL1 (.lst [V.int 3, V.int 3, V.int 3, V.int 5])
  refine ⟨_, rfl, a, b, 4, rfl, F1.same s1, by decide, fun r H2 r0 r1 F2 k2 => ?_⟩
  have r1 : r < 4 := by
    have : (if (4 : Int) > 1 then (4 : Int) else 1) = 4 := by decide
    omega
  obtain ⟨mo, emo, mo3, mo5⟩ : ∃ mo : Nat, atI [V.int 3, V.int 3, V.int 3, V.int 5] r = some (.int (mo : Nat)) ∧ 3 ≤ mo ∧ mo ≤ 5 := by
    rcases (by omega : r = 0 ∨ r = 1 ∨ r = 2 ∨ r = 3) with rfl | rfl | rfl | rfl
    · exact ⟨3, rfl, by decide, by decide⟩
    · exact ⟨3, rfl, by decide, by decide⟩
    · exact ⟨3, rfl, by decide, by decide⟩
    · exact ⟨5, rfl, by decide, by decide⟩
  have L1a := (F1.ne hL1).1
  refine ix_row (.inl (SqL.of (k2 _ _ L1a upd_same))) emo ?_
  refine ⟨by show 0 ≤ sizeLine; decide, fun B hB => ?_⟩
  obtain ⟨Ba, Bb⟩ := F2.ne hB
  have sB := new_same hB (.lst [])
  have F3 := F2.same sB
  have k13 : Kept a H1 (upd H2 B (.lst [])) := ((Kept.of_same s1).trans k2).trans (Kept.of_same sB)
  have hB1 : H1 B = none := none_kept ((Kept.of_same s1).trans k2) Ba hB
  have hB0 : H B = none := none_kept k1 Ba hB1
  have hP3 := k13 _ _ Pa hP
  have k03 := k1.trans k13
  have hB3 : upd H2 B (.lst []) B = some (.lst []) := upd_same
  generalize upd H2 B (.lst []) = H3 at F3 k13 hP3 k03 hB3
  clear k2 F2 sB hB
  dsimp only [gName]
  refine asg_c ?_
  refine seq_cut (fun σ H' => ∃ (t : Tbl) (ps : List Addr) (kvs : List (Key × V)) (f5 f6 f7 : Option V), σ = [some (.ref a), some (.ref PL), some (.int mo), some (.ref B), f5, f6, f7, none, none, none, none] ∧ H' B = some (.lst (ps.map V.ref)) ∧ TabR K H' ps kvs t ∧ TabOk t ∧ waysFrom 1 t ≤ 90 ∧ Tape b H' a ∧ Kept a H H') ?_ (fun join => ?_)
  · clear F3 k13 hP3 k03 hB3
    rintro σ H3 ⟨t, ps, kvs, f5, f6, f7, rfl, hB3, hT3, TO, hw, F3, k03⟩
    refine ⟨by show 0 ≤ sizeLine; decide, fun N hN => ?_⟩
    obtain ⟨Na, Nb⟩ := F3.ne hN
    have hN0 : H N = none := none_kept k03 Na hN
    have NB_ : N ≠ B := fun z => by
      rw [z, hB3] at hN
      cases hN
    have sN := new_same hN (.lst [])
    have R0 : Rl K H a b B N ps kvs t [] [] (upd H3 N (.lst [])) := ⟨sN _ _ hB3, hT3.same sN, upd_same, .nil, F3.same sN, k03.trans (Kept.of_same sN)⟩
    generalize upd H3 N (.lst []) = H4 at R0
    clear sN hN F3 k03 hB3 hT3
    have lim6 : (if (6 : Int) > 1 then (6 : Int) else 1) = 6 := by decide
    have lim4 : (if (4 : Int) > 1 then (4 : Int) else 1) = 4 := by decide
    have hpl : ps.length = t.length := R0.tr.len.1
    have TL := TO.lo
    have TH := TO.hi
    refine ⟨_, rfl, a, b, 6, rfl, R0.tp, by decide, fun r6 H5 y0 y1 F5 k5 => ?_⟩
    rw [lim6] at y1
    obtain ⟨n6, rfl⟩ : ∃ n : Nat, r6 = (n : Int) := ⟨r6.toNat, by omega⟩
    refine ⟨_, rfl, i62a n6, i62b (by omega), ?_⟩
    rw [Int.toNat_natCast]
    refine for_range (lo := 0) (n := n6) (fun i σ H' => ∃ (qs : List Addr) (bs : List NB) (f9 f10 f11 : Option V), σ = [some (.ref a), some (.ref PL), some (.int mo), some (.ref B), f5, f6, f7, some (.ref N), f9, f10, f11] ∧ Rl K H a b B N ps kvs t qs bs H' ∧ bs.length = i ∧ ∀ x ∈ bs, BanOk t x)
      ⟨[], [], none, none, none, rfl, R0.kept k5 F5, rfl, fun x h => absurd h List.not_mem_nil⟩ ?_ ?_
    · clear R0 k5 F5
      rintro i σ H6 hi ⟨qs, bs, f9, f10, f11, rfl, R, bl, bo⟩
      refine ⟨by show 0 ≤ sizeLine; decide, fun D hD => ?_⟩
      obtain ⟨Da, Db⟩ := R.tp.ne hD
      have hD0 : H D = none := none_kept R.kp Da hD
      have DB : D ≠ B := fun z => by
        rw [z, R.bk] at hD
        cases hD
      have DN : D ≠ N := fun z => by
        rw [z, R.ls] at hD
        cases hD
      have sD := new_same hD (.lst [])
      have R1 := R.same sD
      have d1 : upd H6 D (.lst []) D = some (.lst []) := upd_same
      generalize upd H6 D (.lst []) = H7 at R1 d1
      clear sD hD R
      refine ⟨_, rfl, _, rfl, B, _, rfl, .inl (SqL.of R1.bk), _, rfl, RgOk.of_le (by decide) (by rw [List.length_map]; omega) (by decide) (by rw [List.length_map]; omega), fun L hL => ?_⟩
      rw [List.length_map, hpl, rg_map]
      have sL := new_same hL (.lst ((List.range t.length).map fun (n : Nat) => V.int n))
      have R2 := R1.same sL
      refine ⟨_, rfl, a, b, 4, rfl, R2.tp, by decide, fun r7 H8 w0 w1 F8 k8 => ?_⟩
      rw [lim4] at w1
      obtain ⟨n7, rfl⟩ : ∃ n : Nat, r7 = (n : Int) := ⟨r7.toNat, by omega⟩
      refine ⟨_, _, rfl, rfl, a, b, L, _, 1 + n7, add1L _ _ _, F8, lst_tp R2.tp k8 upd_same, by rw [List.length_map, List.length_range]; omega, by omega, fun A ys zs H9 hA0 hA hper hlen F9 k9 => ?_⟩
      obtain ⟨ats, rfl, nnd, nin⟩ := perm_inj nat_inj hper List.nodup_range
      rw [List.length_map, List.length_map, List.length_range] at hlen
      have R3 := (R2.kept k8 F8).kept k9 F9
      have d3 : H9 D = some (.lst []) := lst_tp F8 k9 (lst_tp R2.tp k8 (sL _ _ d1))
      have AD : A ≠ D := fun z => by
        have := lst_tp R2.tp k8 (sL _ _ d1)
        rw [z, this] at hA0
        cases hA0
      clear R2 R1 sL hL k8 k9 F8 d1
      refine ⟨A, rfl, ⟨_, SqL.of hA⟩, for_list (K := K) (a := A) (xs := ats.map fun (n : Nat) => V.int n) (fun j σ H' => ∃ (zs : List Addr) (bn : NB) (f11 : Option V), σ = [some (.ref a), some (.ref PL), some (.int mo), some (.ref B), f5, f6, f7, some (.ref N), some (.int (0 + (i : Int))), some (.ref D), f11] ∧
          Rl K H a b B N ps kvs t qs bs H' ∧ H' A = some (.lst (ats.map fun (n : Nat) => V.int n)) ∧ H' D = some (.lst (zs.map V.ref)) ∧ Paired (prN K H') zs bn ∧ bn.map (·.1) = ats.take j ∧ ∀ p ∈ bn, ∃ e, t[p.1]? = some e ∧ p.2 < e.2.length)
        ⟨[], [], _, rfl, R3, hA, d3, .nil, rfl, fun p h => absurd h List.not_mem_nil⟩ (fun j σ H' _ ⟨_, _, _, _, _, z, _⟩ => SqL.of z) ?_ ?_⟩
      · clear R3 hA d3
        rintro j y σ H7 hj ⟨zs, bn, f11, rfl, R, hA, hD, hz, bm, bv⟩
        obtain ⟨at_, hat, rfl⟩ : ∃ z : Nat, ats[j]? = some z ∧ y = V.int (z : Nat) := by
          rw [List.getElem?_map] at hj
          obtain ⟨z, hz, e⟩ := Option.map_eq_some_iff.mp hj
          exact ⟨z, hz, e.symm⟩
        have hlt : at_ < t.length := List.mem_range.mp (nin _ (List.mem_of_getElem? hat))
        have e0 : t[at_]? = some t[at_] := List.getElem?_eq_getElem hlt
        have emem := List.getElem_mem hlt
        generalize t[at_] = e at e0 emem
        obtain ⟨q, v, c1, c2, c3⟩ := R.tr.get e0
        have he := TO.vs e emem
        refine ⟨_, rfl, .inl ⟨rfl, _, SqL.of hD⟩, _, rfl, _, rfl, _, rfl, _, rfl, ix_row (.inl (SqL.of R.bk)) (at_of rfl c1) (ix_row (.inr c2) (by rfl) ⟨v, _, rfl, .inr c3, a, b, _, rfl, R.tp, few200 (by rw [List.length_map]; omega), fun r8 H8 w0 w1 F8 k8 => ⟨by show 2 ≤ sizeLine; decide, fun x o hx ho => ?_⟩⟩)⟩
        rw [List.length_map] at w1
        have w2 : r8 < (e.2.length : Int) := by
          split at w1 <;> omega
        obtain ⟨n8, rfl⟩ : ∃ n : Nat, r8 = (n : Int) := ⟨r8.toNat, by omega⟩
        have sx : Same H8 (upd H8 x (.frz o (.tup [.int (at_ : Nat), .int (n8 : Nat)]))) := new_same hx _
        have RA := (R.kept k8 F8).same sx
        have dA := sx _ _ (lst_tp R.tp k8 hD)
        have aA := sx _ _ (lst_tp R.tp k8 hA)
        have zA := prsN_same sx (prsN_tp R.tp k8 hz)
        have xA : SqT K (upd H8 x (.frz o (.tup [.int (at_ : Nat), .int (n8 : Nat)]))) x [.int (at_ : Nat), .int (n8 : Nat)] := .inl (.inr ⟨o, upd_same⟩)
        generalize upd H8 x (.frz o (.tup [.int (at_ : Nat), .int (n8 : Nat)])) = HA at RA dA aA zA xA
        have bl2 : bn.length ≤ ats.length := by
          have h1 := congrArg List.length bm
          rw [List.length_map, List.length_take] at h1
          omega
        refine ⟨D, _, _, rfl, rfl, dA, small1000 (by rw [List.length_map, prd_len zA]; omega), zs ++ [x], bn ++ [(at_, n8)], _, rfl, RA.off dA hD0 DB DN Db, by rw [upd_ne AD]; exact aA, ?_, ?_, ?_, ?_⟩
        · rw [upd_same, List.map_append] <;> rfl
        · exact prsN_off dA (prd_snoc zA xA)
        · rw [List.map_append, bm, take_one hat] <;> rfl
        · intro p hp
          rcases List.mem_append.mp hp with hp | hp
          · exact bv p hp
          · rw [List.mem_singleton.mp hp]
            exact ⟨e, e0, by show n8 < _; omega⟩
      · clear R3 hA d3
        rintro σ H7 ⟨zs, bn, f11, rfl, R, hA, hD, hz, bm, bv⟩
        rw [List.length_map, List.take_of_length_le (Nat.le_refl _)] at bm
        have bl3 : bn.length = ats.length := by rw [← bm, List.length_map]
        refine ⟨_, rfl, .inl ⟨rfl, _, SqL.of R.ls⟩, _, rfl, D, _, rfl, .inl ⟨SqL.of hD, fun x o hx ho => ?_⟩⟩
        have sx : Same H7 (upd H7 x (.frz o (.tup (zs.map V.ref)))) := new_same hx _
        have RA := R.same sx
        have xA : BanN K (upd H7 x (.frz o (.tup (zs.map V.ref)))) x bn := ⟨zs, .inl (.inr ⟨o, upd_same⟩), prsN_same sx hz⟩
        generalize upd H7 x (.frz o (.tup (zs.map V.ref))) = HA at RA xA
        refine ⟨N, _, _, rfl, rfl, RA.ls, small1000 (by rw [List.length_map, prd_len RA.bn]; omega), qs ++ [x], bs ++ [bn], _, _, _, rfl, ⟨by rw [upd_ne NB_.symm]; exact RA.bk, TabR.off RA.ls RA.tr, ?_, ?_, RA.tp.off Na Nb, RA.kp.new hN0⟩, ?_, ?_⟩
        · rw [upd_same, List.map_append] <;> rfl
        · exact prd_imp (fun _ _ z => z.off RA.ls) (prd_snoc RA.bn xA)
        · rw [List.length_append, bl] <;> rfl
        · intro x hx
          rcases List.mem_append.mp hx with hx | hx
          · exact bo x hx
          · rw [List.mem_singleton.mp hx]
            exact ⟨by omega, by omega, by rw [bm]; exact nnd, bv⟩
    · clear R0 k5 F5
      rintro σ H6 ⟨qs, bs, f9, f10, f11, rfl, R, bl, bo⟩
      refine ⟨_, rfl, B, _, rfl, .inl ⟨SqL.of R.bk, fun x o hx ho => ?_⟩⟩
      have s1 := new_same hx (.frz o (.tup (ps.map V.ref)))
      have R1 := R.same s1
      have x1 : SqT K (upd H6 x (.frz o (.tup (ps.map V.ref)))) x (ps.map V.ref) := .inl (.inr ⟨o, upd_same⟩)
      generalize upd H6 x (.frz o (.tup (ps.map V.ref))) = H7 at R1 x1
      refine ⟨_, rfl, N, _, rfl, .inl ⟨SqL.of R1.ls, fun y o2 hy ho2 => ?_⟩⟩
      have s2 := new_same hy (.frz o2 (.tup (qs.map V.ref)))
      have R2 := R1.same s2
      have x2 := seqT_same s2 x1
      have y2 : SqT K (upd H7 y (.frz o2 (.tup (qs.map V.ref)))) y (qs.map V.ref) := .inl (.inr ⟨o2, upd_same⟩)
      generalize upd H7 y (.frz o2 (.tup (qs.map V.ref))) = H8 at R2 x2 y2
      refine ⟨by show 2 ≤ sizeLine; decide, fun z o3 hz ho3 => ?_⟩
      have s3 := new_same hz (.frz o3 (.tup [.ref x, .ref y]))
      have R3 := R2.same s3
      exact k z t bs _ ⟨x, y, ps, kvs, qs, .inl (.inr ⟨o3, upd_same⟩), seqT_same s3 x2, R3.tr, seqT_same s3 y2, R3.bn⟩ ⟨TO, hw, by omega, bo⟩ R3.tp R3.kp
  · have fin : ∀ (q : Int) (n : Nat), 1 ≤ n → n ≤ 6 → True := fun _ _ _ _ => trivial
    refine ⟨_, rfl, _, rfl, _, rfl, by show 2 ≤ sizeLine; decide, fun L2 hL2 => ?_⟩
    obtain ⟨L2a, L2b⟩ := F3.ne hL2
    have s2 := new_same hL2 (.lst [V.int 4, V.int 6])
    have F4 := F3.same s2
    refine ⟨_, rfl, rfl, _, rfl, iteB (fun _ => ⟨_, rfl, a, b, 4, rfl, F4, by decide, fun r4 H4 _ _ F5 k5 => ⟨rfl, ?_⟩⟩) (fun _ => ?_)⟩
    rotate_left
    have F5 := F4
    have k5 : Kept a (upd H3 L2 (.lst [V.int 4, V.int 6])) (upd H3 L2 (.lst [V.int 4, V.int 6])) := Kept.refl
    rotate_right
    all_goals
      refine .inr ⟨_, rfl, ?_⟩
      have hL2' := k5 L2 _ L2a upd_same
      have k35 := (Kept.of_same s2).trans k5
      clear F4 s2
      refine ix_row (.inl (SqL.of hL2')) (at46 _) ?_
      refine ⟨a, b, _, rfl, F5, few46 _, fun r5 H5 y0 y1 F6 k6 => ?_⟩
      have y2 := lim46 _ y1
      clear y1
      obtain ⟨n5, rfl⟩ : ∃ n : Nat, r5 = (n : Int) := ⟨r5.toNat, by omega⟩
      have hP5 := lst_tp F5 k6 (k35 _ _ Pa hP3)
      have hB5 := lst_tp F5 k6 (k35 _ _ Ba hB3)
      have k05 := (k03.trans k35).trans k6
      refine ⟨_, _, rfl, rfl, a, b, PL, us.map V.str, 1 + n5, add1L _ _ _, F6, hP5, by rw [List.length_map]; omega, by omega, fun N ys zs H6 hN0 hN hper hlen F7 k7 => ?_⟩
      obtain ⟨ns, rfl, nnd, nin⟩ := perm_inj str_inj hper hus.1
      rw [List.length_map, List.length_map] at hlen
      have nB : N ≠ B := fun z => by
        rw [z, hB5] at hN0
        cases hN0
      have nP : N ≠ PL := fun z => by
        rw [z, hP5] at hN0
        cases hN0
      have PB : PL ≠ B := fun z => by
        rw [← z] at hB1
        rw [hP] at hB1
        cases hB1
      have K6 : Bk K H a b PL N B (us.map V.str) (ns.map V.str) [] [] [] H6 := ⟨lst_tp F6 k7 hP5, hN, lst_tp F6 k7 hB5, .nil, F7, k05.trans k7⟩
      refine ⟨N, rfl, ⟨_, SqL.of hN⟩, for_list (K := K) (a := N) (xs := ns.map V.str) (fun i σ H' => ∃ (t : Tbl) (ps : List Addr) (kvs : List (Key × V)) (f6 f7 : Option V), σ = [some (.ref a), some (.ref PL), some (.int mo), some (.ref B), some (.int (waysFrom 1 t : Nat)), f6, f7, none, none, none, none] ∧
          Bk K H a b PL N B (us.map V.str) (ns.map V.str) ps kvs t H' ∧ t.map (·.1) = ns.take i ∧ (∀ e ∈ t, Wds e.2 ∧ 1 ≤ e.2.length ∧ e.2.length ≤ 5) ∧ waysFrom 1 t ≤ 90) ⟨[], [], [], none, none, rfl, K6, rfl, (fun e h => absurd h List.not_mem_nil), hc1⟩ (fun i σ H' _ ⟨_, _, _, _, _, _, z, _⟩ => SqL.of z.n) ?_ ?_⟩
      · rintro i y σ H' hi ⟨t, ps, kvs, f6, f7, rfl, Z, tn, tv, tw⟩
        obtain ⟨nm, hnm, rfl⟩ : ∃ z, ns[i]? = some z ∧ y = V.str z := by
          rw [List.getElem?_map] at hi
          obtain ⟨z, hz, e⟩ := Option.map_eq_some_iff.mp hi
          exact ⟨z, hz, e.symm⟩
        refine ⟨_, rfl, _, rfl, _, rfl, _, rfl, a, b, _, rfl, Z.tp, few200 (by omega), fun r7 H7 w0 w1 F8 k8 => ?_⟩
        have w2 : r7 < (mo : Int) := by
          split at w1 <;> omega
        clear w1
        obtain ⟨n7, rfl⟩ : ∃ n : Nat, r7 = (n : Int) := ⟨r7.toNat, by omega⟩
        have Z7 := Z.kept k8 F8
        refine ⟨_, _, rfl, rfl, a, b, PL, us.map V.str, 1 + n7, add1L _ _ _, F8, Z7.p, by rw [List.length_map]; omega, by omega, fun W ys2 zs2 H8 hW0 hW hper2 hlen2 F9 k9 => ?_⟩
        obtain ⟨ws, rfl, wnd, win⟩ := perm_inj str_inj hper2 hus.1
        rw [List.length_map, List.length_map] at hlen2
        have Z8 := Z7.kept k9 F9
        have wl : 1 ≤ ws.length ∧ ws.length ≤ 5 := by omega
        have i64 : -(2 ^ 64 : Int) < (waysFrom 1 t : Nat) ∧ ((waysFrom 1 t : Nat) : Int) < 2 ^ 64 := by
          constructor
          · have : -(2 ^ 64 : Int) < 0 := by decide
            omega
          · have : (15625 : Int) < 2 ^ 64 := by decide
            omega
        dsimp only
        refine seq_cut (fun σ H' => ∃ (W : Addr) (ws : List Str), σ = [some (.ref a), some (.ref PL), some (.int mo), some (.ref B), some (.int (waysFrom 1 t : Nat)), some (.str nm), some (.ref W), none, none, none, none] ∧ H' W = some (.lst (ws.map V.str)) ∧ Wds ws ∧ 1 ≤ ws.length ∧ ws.length ≤ 5 ∧ waysFrom 1 t * ws.length ≤ 90 ∧ Bk K H a b PL N B (us.map V.str) (ns.map V.str) ps kvs t H') ?_ (fun join => ?_)
        · clear hW hper2 hlen2 wnd win wl Z8 k9 F9 hW0 ws
          rintro σ H9 ⟨W, ws, rfl, hW, wok, wl1, wl5, wc, Z9⟩
          refine ⟨_, rfl, _, rfl, W, _, rfl, .inl (SqL.of hW), _, _, rfl, rfl, i64, ?_⟩
          rw [List.length_map]
          refine ⟨_, rfl, .inl ⟨rfl, _, SqL.of Z9.bk⟩, _, rfl, _, rfl, W, _, rfl, .inl ⟨SqL.of hW, fun v o hv ho => ⟨by show 2 ≤ sizeLine; decide, fun q o2 hq ho2 => ?_⟩⟩⟩
          have sv : Same H9 (upd H9 v (.frz o (.tup (ws.map V.str)))) := new_same hv _
          have sq : Same (upd H9 v (.frz o (.tup (ws.map V.str)))) (upd (upd H9 v (.frz o (.tup (ws.map V.str)))) q (.frz o2 (.tup [.str nm, .ref v]))) := new_same hq _
          have ZA := Z9.same (sv.trans sq)
          have tl : t.length ≤ 6 := by
            have h1 := congrArg List.length tn
            rw [List.length_map, List.length_take] at h1
            omega
          have h2 : SqT K (upd (upd H9 v (.frz o (.tup (ws.map V.str)))) q (.frz o2 (.tup [.str nm, .ref v]))) v (ws.map V.str) := seqT_same sq (.inl (.inr ⟨o, upd_same⟩))
          have h3 : SqT K (upd (upd H9 v (.frz o (.tup (ws.map V.str)))) q (.frz o2 (.tup [.str nm, .ref v]))) q [.str nm, .ref v] := .inl (.inr ⟨o2, upd_same⟩)
          generalize upd (upd H9 v (.frz o (.tup (ws.map V.str)))) q (.frz o2 (.tup [.str nm, .ref v])) = HA at ZA h2 h3
          refine ⟨B, _, _, rfl, rfl, ZA.bk, small1000 (by rw [List.length_map, ZA.tr.len.1]; omega), ?_⟩
          have Bnb : B ≠ b := Bb
          refine ⟨t ++ [(nm, ws)], ps ++ [q], kvs ++ [((.inr nm : Key), V.ref v)], some (.str nm), some (.ref W), ?_, ⟨by rw [upd_ne PB]; exact ZA.p, by rw [upd_ne nB]; exact ZA.n, ?_, ?_, ZA.tp.off Ba Bnb, ZA.kp.new hB0⟩, ?_, ?_, ?_⟩
          · rw [ways_put]
            show [_, _, _, _, some (V.int _), _, _, _, _, _, _] = _
            rw [Int.natCast_mul]
          · rw [upd_same, List.map_append] <;> rfl
          · exact TabR.off ZA.bk (TabR.snoc h3 h2 (fun x hx => word_ok (wok.2 x hx)) ZA.tr)
          · rw [List.map_append, tn, take_one hnm] <;> rfl
          · intro x hx
            rcases List.mem_append.mp hx with hx | hx
            · exact tv x hx
            · rw [List.mem_singleton.mp hx]
              exact ⟨wok, wl1, wl5⟩
          · rw [ways_put]
            exact wc
        · refine ⟨_, rfl, _, rfl, W, _, rfl, .inl (SqL.of hW), _, _, rfl, rfl, i64, _, _, rfl, rfl, _, rfl, iteB (fun e => ?_) (fun e => ?_)⟩
          · refine ⟨_, rfl, _, rfl, W, _, rfl, SqL.of hW, fun W2 hW2 => ?_⟩
            have s9 := new_same hW2 (.lst (cutV (ws.map V.str) none (some (1 : Int))))
            refine join _ _ ⟨W2, ws.take 1, rfl, ?_, ⟨(List.take_sublist 1 ws).nodup wnd, fun x hx => hus.2 x (win x (List.mem_of_mem_take hx))⟩, ?_, ?_, ?_, Z8.same s9⟩
            · rw [upd_same]
              have := cutV_to (ws.map V.str) 1
              rw [List.map_take]
              exact congrArg (fun z => some (HO.lst z)) this
            · rw [List.length_take]
              omega
            · rw [List.length_take]
              omega
            · rw [List.length_take, Nat.min_eq_left wl.1, Nat.mul_one]
              exact tw
          · refine join _ _ ⟨W, ws, rfl, hW, ⟨wnd, fun x hx => hus.2 x (win x hx)⟩, wl.1, wl.2, ?_, Z8⟩
            have e2 := of_decide_eq_false e
            rw [List.length_map] at e2
            have e3 : ((waysFrom 1 t * ws.length : Nat) : Int) ≤ (90 : Int) := by
              rw [Int.natCast_mul]
              omega
            omega
      · rintro σ H' ⟨t, ps, kvs, f6, f7, rfl, Z, tn, tv, tw⟩
        rw [List.length_map, List.take_of_length_le (Nat.le_refl _)] at tn
        have tl : t.length = ns.length := by
          rw [← tn, List.length_map]
        refine join _ _ ⟨t, ps, kvs, _, _, _, rfl, Z.bk, Z.tr, ⟨by omega, by omega, by rw [tn]; exact ⟨nnd, fun x hx => hus.2 x (nin x hx)⟩, tv⟩, tw, Z.tp, Z.kp⟩
end
end Q
set_option Elab.async false
set_option linter.all false
set_option maxRecDepth 100000
set_option maxHeartbeats 4000000
/-! ### k06: the law -/
namespace Q
open PySem L2 XD
theorem ModelOk.up90 {t : Tbl} {bs : List NB} (h : ModelOk t bs 90) : ModelOk t bs 1000 := ⟨h.tb, Nat.le_trans h.ws (by decide), h.ln, h.bs⟩
/-- data in which no list is -/
def NL : Nat → PyData → Prop
  | 0, _ => False
  | k + 1, d => (∀ xs, d ≠ .list xs) ∧ ∀ xs, d = .tuple xs → ∀ x ∈ xs, NL k x
theorem nl_no {k : Nat} {d : PyData} (e : rowOf d = none) : NL (k + 1) d := by
  constructor
  · intro xs z
    rw [z] at e
    cases e
  · intro xs z
    rw [z] at e
    cases e
theorem nl_tup {k : Nat} {xs : List PyData} (h : ∀ x ∈ xs, NL k x) : NL (k + 1) (.tuple xs) := by
  constructor
  · intro ys z
    cases z
  · intro ys z
    cases z
    exact h
theorem nl_strs {k : Nat} {ws : List Str} : NL (k + 2) (.tuple (ws.map PyData.str)) := by
  refine nl_tup fun x hx => ?_
  obtain ⟨w, _, rfl⟩ := List.mem_map.mp hx
  exact nl_no rfl
theorem nl_rule {k : Nat} {r : List Pr} : NL (k + 3) (ruleD r) := by
  refine nl_tup fun x hx => ?_
  obtain ⟨e, _, rfl⟩ := List.mem_map.mp hx
  refine nl_tup fun y hy => ?_
  simp only [List.mem_cons, List.not_mem_nil, or_false] at hy
  rcases hy with rfl | rfl <;> exact nl_no rfl
theorem nl_res (t : Tbl) (rs : List (List Pr)) (d du : PyData) : ∀ n, NL 4 (resD t rs d du n) := by
  intro n
  match n with
  | 0 =>
    refine nl_tup fun x hx => ?_
    obtain ⟨r, _, rfl⟩ := List.mem_map.mp hx
    exact nl_rule
  | 1 => exact nl_strs
  | 2 => exact nl_rule
  | 3 =>
    show NL 4 (clashD (clashOf rs (factsOf d) t))
    cases clashOf rs (factsOf d) t with
    | none => exact nl_no rfl
    | some l => exact nl_rule
  | 4 => exact nl_strs
  | n + 5 =>
    show NL 4 (twoD (twoOf (fills rs (factsOf d) t) (fix t du)))
    cases twoOf (fills rs (factsOf d) t) (fix t du) with
    | none => exact nl_no rfl
    | some p =>
      refine nl_tup fun x hx => ?_
      simp only [List.mem_cons, List.not_mem_nil, or_false] at hx
      rcases hx with rfl | rfl <;> exact nl_rule
theorem dp_nl {K : PySem.W.Frag} {H : Hp} {D : Addr} {ys : List V} (e : H D = some (.lst ys)) : ∀ (k : Nat) {v : V} {d : PyData}, NL k d → Dp K H v d → Dp K (rmL [D] H) v d
  | 0, _, _, h, _ => h.elim
  | k + 1, v, d, h, hd => by
    cases hd with
    | non => exact .non
    | bl b => exact .bl b
    | int i => exact .int i
    | str x => exact .str x
    | lst q r => exact absurd rfl (h.1 _)
    | @tup a xs ds q r =>
      refine .tup (seqT_rm e q) ?_
      have hs := h.2 _ rfl
      have key : ∀ {xs : List V} {ds : List PyData}, DpAll K H xs ds → (∀ x ∈ ds, NL k x) → DpAll K (rmL [D] H) xs ds := by
        intro xs
        induction xs with
        | nil =>
          intro ds r _
          cases r
          exact .nil
        | cons x xs ih =>
          intro ds r hs
          cases r with
          | cons a b => exact .cons (dp_nl e k (hs _ List.mem_cons_self) a) (ih b fun y hy => hs y (List.mem_cons_of_mem _ hy))
      exact key r hs
/-- a list over range(m), item by item; the list is there -/
theorem lc_rngL {K : PySem.W.Frag} {S : List Addr} {m i : Nat} {ta : TA} {te : TE} {vs : List Nat} {σ : L2.St} {H : Hp} {Q : VK} (es : List PyData) (A : Alive S H) (ht : ∀ Q' : List V → Hp → Prop, Q' [.int m] H → ta σ H Q') (hm : m ≤ 900) (he : es.length = m)
    (hw : ∀ x, wipe ((wipe σ vs).set i (some x)) vs = wipe σ vs)
    (hs : ∀ (D : Addr) (j : Nat) (e : PyData) (H' : Hp) (Qc : VK) (us : List V), es[j]? = some e → H' D = some (.lst us) → Alive (D :: S) H' → Same H H' → Same (rmL S H) (rmL (D :: S) H') → (∀ y H4, Same H' H4 → Dp K (rmL (D :: S) H4) y e → Qc y H4) → te ((wipe σ vs).set i (some (.int (j : Nat)))) H' Qc)
    (hd : ∀ D us H', H D = none → Same H H' → H' D = some (.lst us) → DpAll K (rmL (D :: S) H') us es → Q (.ref D) H') : tLc (iRng1 ta) (gName i) tYes te vs σ H Q := by
  refine ht _ ⟨_, rfl, ?_, ?_, fun D hD => ?_⟩
  · have : -(2 ^ 62 : Int) ≤ 0 := by decide
    omega
  · have : (1000 : Int) < 2 ^ 62 := by decide
    omega
  have em : ((m : Int)).toNat = m := by omega
  rw [em]
  refine lc_range (lo := 0) (n := m) (fun j H' => ∃ us, H' D = some (.lst us) ∧ DpAll K (rmL (D :: S) H') us (es.take j) ∧ Same H H') ⟨[], upd_same, .nil, new_same hD _⟩ (fun j H' hj hP => ?_) (fun H' hP => ?_)
  · obtain ⟨us, g1, g2, g4⟩ := hP
    have ee : es[j]? = some es[j] := List.getElem?_eq_getElem (by omega)
    have AD : Alive (D :: S) H' := fun b hb => by
      rcases List.mem_cons.mp hb with rfl | hb
      · rw [g1]
        exact fun z => by cases z
      · exact A.same g4 b hb
    have ex : (0 : Int) + (j : Int) = ((j : Nat) : Int) := by omega
    rw [ex]
    refine ⟨hw _, ?_⟩
    unfold tYes
    refine iteT ?_
    refine hs D j _ H' _ us ee g1 AD g4 (same_in hD g4) fun y H4 s4 h4 => ⟨us, s4 _ _ g1, small1000 ?_, us ++ [y], upd_same, ?_, fun b o z => ?_⟩
    · rw [dps_len g2, List.length_take]
      omega
    · rw [rm_put List.mem_cons_self, take_one ee]
      exact dps_snoc (dps_same (rm_same s4) g2) h4
    · rw [upd_ne (ne_of_none z hD)]
      exact s4 _ _ (g4 _ _ z)
  · obtain ⟨us, g1, g2, g4⟩ := hP
    rw [List.take_of_length_le (by omega)] at g2
    exact hd D us H' hD g4 g1 g2
abbrev nLaw : List Str := ["script", "tape", "model", "sheet", "known", "good", "name", "way", "before", "turn", "handed"]
/-- where the law stands -/
structure Law6 (K : PySem.W.Frag) (C : Addr) (H : Hp) (a b m x pf pr L : Addr) (t : Tbl) (bs : List NB) (kn : NB) (v : V) (d : PyData) (us : List V) (es : List PyData) : Prop where
  tp : Tape b H a
  sd : Std K C H m x pf pr t bs
  hn : Hnd K H t kn v d
  ls : H L = some (.lst us)
  bf : DpAll K H us es
theorem Law6.same {K : PySem.W.Frag} {C : Addr} {H H' : Hp} {a b m x pf pr L : Addr} {t : Tbl} {bs : List NB} {kn : NB} {v : V} {d : PyData} {us : List V} {es : List PyData} (s : Same H H') (h : Law6 K C H a b m x pf pr L t bs kn v d us es) : Law6 K C H' a b m x pf pr L t bs kn v d us es :=
  ⟨h.tp.same s, h.sd.same s, h.hn.same s, s _ _ h.ls, dps_same s h.bf⟩
theorem Law6.kept {K : PySem.W.Frag} {C : Addr} {H H' : Hp} {a b m x pf pr L : Addr} {t : Tbl} {bs : List NB} {kn : NB} {v : V} {d : PyData} {us : List V} {es : List PyData} (k : Kept a H H') (F : Tape b H' a) (h : Law6 K C H a b m x pf pr L t bs kn v d us es) : Law6 K C H' a b m x pf pr L t bs kn v d us es :=
  ⟨F, h.sd.tp h.tp k, h.hn.tp h.tp k, lst_tp h.tp k h.ls, dp_tp.dps_tp h.tp k h.bf⟩
section
variable {P : Program} {w : World} {K : PySem.W.Frag} {mg : Str → Option Value} {base : Heap}
theorem scLaw : FnScope nLaw ["script"] (defScope sLaw) := ⟨rfl, rfl, rfl, by decide +kernel, rfl, by decide +kernel, by decide +kernel⟩
theorem ok_law {f fC C CV CB : Addr} {fd fdC : FuncData} (F : Fun K "law" "law" sLaw f fd) (T : BtT mg)
    (KA : Kn P w K mg base 1 "_law_tape" ["script"] (spTape K)) (KM : Kn P w K mg base 4 "_law_model" ["tape"] (spModel K)) (KH : Kn P w K mg base 8 "_law_form" ["model"] (spSheet K C)) (KD : Kn P w K mg base 2 "_law_draw" ["tape", "many"] spDrawT)
    (KN : Kn P w K mg base 4 "_law_known" ["tape", "model"] (spKnownN K)) (KI : Kn P w K mg base 3 "_law_handed" ["tape", "model", "known"] (spHandedB K))
    (GC : FnOk P w K mg base (L2N.CX P w) 7 fC fdC ["way", "sheet", "handed", "name"] (spCalled K C CV CB)) (kC : PySem.W.keepIn K (.ref fC) = true) (bC : Binds K fdC ["way", "sheet", "handed", "name"] []) (mC : mg "_law_called" = some (.ref fC))
    (KF : Kn P w K mg base 5 "_law_odd_facts" ["tape", "model"] (spOddFacts K)) (KT : Kn P w K mg base 3 "_law_thing" ["tape", "model"] (spThing K)) (KX : Kn P w K mg base 9 "_law_right" ["tape", "sheet", "model", "handed", "name"] (spRight6 K C)) (KS : Kn P w K mg base 5 "_law_same" ["actual", "due"] (spSame K 5)) :
    FnOk P w K mg base CX0 10 f fd ["script"] (spLaw K) := by
  obtain ⟨fA, fdA, GA, kA, bA, mA⟩ := KA.ex
  obtain ⟨fM, fdM, GM, kM, bM, mM⟩ := KM.ex
  obtain ⟨fH, fdH, GH, kH, bH, mH⟩ := KH.ex
  obtain ⟨fD, fdD, GD, kD, bD, mD⟩ := KD.ex
  obtain ⟨fN, fdN, GN, kN, bN, mN⟩ := KN.ex
  obtain ⟨fI, fdI, GI, kI, bI, mI⟩ := KI.ex
  obtain ⟨fF, fdF, GF, kF, bF, mF⟩ := KF.ex
  obtain ⟨fT, fdT, GT, kT, bT, mT⟩ := KT.ex
  obtain ⟨fX, fdX, GX, kX, bX, mX⟩ := KX.ex
  obtain ⟨fS, fdS, GS, kS, bS, mS⟩ := KS.ex
  refine F.ok scLaw (fun vs H Q E h => ?_) (fun cdv A outer s H vs Q E hr h => ?_)
  · obtain ⟨a, ns, rfl, _⟩ := h
    rfl
  obtain ⟨sc, ns, rfl, hS, _, kq⟩ := h
  refine ⟨_, pss_cons (ps_set (i := 1) scLaw.nd rfl (.inl rfl) (pe_call GA (hr.mono (by decide)) rfl mA kA bA .nil pass0 (pa_cons (pv 0) pa_nil)))
    (pss_cons (ps_set (i := 2) scLaw.nd rfl (.inl rfl) (pe_call GM (hr.mono (by decide)) rfl mM kM bM .nil pass0 (pa_cons (pv 1) pa_nil)))
    (pss_cons (ps_set (i := 3) scLaw.nd rfl (.inr rfl) (pe_call GH (hr.mono (by decide)) rfl mH kH bH .nil pass0 (pa_cons (pv 2) pa_nil)))
    (pss_cons (ps_set (i := 4) scLaw.nd rfl (.inl rfl) (pe_call GN (hr.mono (by decide)) rfl mN kN bN .nil pass0 (pa_cons (pv 1) (pa_cons (pv 2) pa_nil))))
    (pss_cons (ps_set (i := 5) scLaw.nd rfl (.inr rfl) (pe_call GI (hr.mono (by decide)) rfl mI kI bI .nil pass0 (pa_cons (pv 1) (pa_cons (pv 2) (pa_cons (pv 4) pa_nil)))))
    (pss_cons (ps_set (i := 6) scLaw.nd rfl (.inr rfl) (pe_ix (ix_both K rfl) (pe_ix (ix_both K rfl) (pe_ix (ix_both K rfl) (pv 2) pe_int (fun _ _ => rfl)) (pe_call GD (hr.mono (by decide)) rfl mD kD bD .nil pass0 (pa_cons (pv 1) (pa_cons (pe_callB call_len_seq rfl T.len PySem.boot_len (pa_cons (pe_ix (ix_both K rfl) (pv 2) pe_int (fun _ _ => rfl)) pa_nil)) pa_nil))) (fun _ _ => rfl)) pe_int (fun _ _ => rfl)))
    (pss_cons (ps_setLc (i := 8) (own := [("way", 7)]) (g := gName 7) (tt := tYes) (by rfl) scLaw.nd rfl rfl (sw_true rfl rfl rfl (by decide +kernel)) (pi_range1 rfl T.range (pa_cons pe_int pa_nil)) (blkOk_by (N := nLaw) (sc := defScope sLaw) (by decide +kernel))
      (fun _ _ _ _ _ => pg_name (i := 7) scLaw.nd rfl (.inl rfl)) (fun _ _ _ _ _ => pts_nil)
      (fun _ _ _ _ _ => pe_call GC (hr.mono (by decide)) rfl mC kC bC .nil passF (pa_cons (pv 7) (pa_cons (pv 3) (pa_cons (pv 5) (pa_cons (pv 6) pa_nil))))))
    (pss_cons (ps_for PassesOwn.never rfl (pi_range1 rfl T.range (pa_cons pe_int pa_nil)) (pg_name (i := 9) scLaw.nd rfl (.inl rfl))
      (pss_cons (ps_set (i := 10) scLaw.nd rfl (.inl rfl) (pe_call GF (hr.mono (by decide)) rfl mF kF bF .nil pass0 (pa_cons (pv 1) (pa_cons (pv 2) pa_nil))))
      (pss_cons (ps_if (pt_not (pt_val (pe_call GX (hr.mono (by decide)) rfl mX kX bX .nil pass0 (pa_cons (pv 1) (pa_cons (pv 3) (pa_cons (pv 2) (pa_cons (pv 10) (pa_cons (pv 6) pa_nil)))))))) (pss_one (ps_ret pe_bl)) pss_nil)
      (pss_cons (ps_if (pt_not (pt_val (pe_call GX (hr.mono (by decide)) rfl mX kX bX .nil pass0 (pa_cons (pv 1) (pa_cons (pv 3) (pa_cons (pv 2) (pa_cons (pv 10) (pa_cons (pe_call GT (hr.mono (by decide)) rfl mT kT bT .nil pass0 (pa_cons (pv 1) (pa_cons (pv 2) pa_nil))) pa_nil)))))))) (pss_one (ps_ret pe_bl)) pss_nil)
      (pss_one (ps_if (pt_not (pt_val (pe_call GX (hr.mono (by decide)) rfl mX kX bX .nil pass0 (pa_cons (pv 1) (pa_cons (pv 3) (pa_cons (pv 2) (pa_cons (pv 5) (pa_cons (pe_call GT (hr.mono (by decide)) rfl mT kT bT .nil pass0 (pa_cons (pv 1) (pa_cons (pv 2) pa_nil))) pa_nil)))))))) (pss_one (ps_ret pe_bl)) pss_nil))))))
    (pss_cons (ps_for PassesOwn.never rfl (pi_range1 rfl T.range (pa_cons pe_int pa_nil)) (pg_name (i := 7) scLaw.nd rfl (.inl rfl))
      (pss_one (ps_if (pt_not (pt_val (pe_call GS (hr.mono (by decide)) rfl mS kS bS .nil pass0 (pa_cons (pe_call GC (hr.mono (by decide)) rfl mC kC bC .nil passF (pa_cons (pv 7) (pa_cons (pv 3) (pa_cons (pv 5) (pa_cons (pv 6) pa_nil))))) (pa_cons (pe_ix (ix_both K rfl) (pv 8) (pv 7) (fun _ _ => rfl)) pa_nil))))) (pss_one (ps_ret pe_bl)) pss_nil)))
    (pss_one (ps_ret pe_bl)))))))))), ?_⟩
  refine ⟨_, rfl, sc, ns, rfl, hS, fun a b H1 s1 F1 _ _ => ?_⟩
  refine ⟨_, rfl, a, b, rfl, F1, fun m t bs H3 hm MO F3 k3 => ?_⟩
  have MO := MO.up90
  refine ⟨_, rfl, m, t, bs, rfl, hm, MO, fun x pf pr H4 s4 hx0 f1 f2 f3 => ?_⟩
  have S4 : Std K C H4 m x pf pr t bs := ⟨hm.same s4, MO, f1, f2, f3⟩
  have F4 := F3.same s4
  have TO := MO.tb
  have TL := TO.lo
  have TU := TO.hi
  clear hm f1 f2 f3 hx0 s4 F3 k3 F1 s1
  refine ⟨_, rfl, _, rfl, a, b, m, t, bs, rfl, F4, S4.md, MO.tb, fun D zs kn H5 hD0 hD hz KO F5 k5 => ?_⟩
  have S5 := S4.tp F4 k5
  refine ⟨_, rfl, _, rfl, _, rfl, a, b, m, D, t, bs, zs, kn, rfl, F5, S5.md, TU, .inl (SqL.of hD), hz, KO, fun v d H6 db fb zb F6 k6 => ?_⟩
  have S6 := S5.tp F5 k6
  have N6 : Hnd K H6 t kn v d := ⟨KO, db, fb, zb⟩
  clear S4 F4 k5 S5 F5 k6 hD hz db fb zb hD0
  obtain ⟨B, N, ps, kvs, qs, m1, m2, m3, m4, m5⟩ := id S6.md
  have hpl : ps.length = t.length := m3.len.1
  refine ⟨_, rfl, ix_row (.inr m1) (by rfl) ⟨_, rfl, _, rfl, ix_row (.inr m1) (by rfl) ⟨B, _, rfl, .inr m2, a, b, _, rfl, F6, few200 (by rw [List.length_map]; omega), fun r H7 r0 r1 F7 k7 => ?_⟩⟩⟩
  rw [List.length_map, hpl] at r1
  obtain ⟨j, rfl⟩ : ∃ n : Nat, r = (n : Int) := ⟨r.toNat, by omega⟩
  have hj : j < t.length := by
    split at r1 <;> omega
  have e0 : t[j]? = some t[j] := List.getElem?_eq_getElem hj
  have emem := List.getElem_mem hj
  generalize t[j] = e at e0 emem
  obtain ⟨q, v3, c1, c2, c3⟩ := (m3.tp F6 k7).get e0
  have hnm : e.1 ∈ t.map (·.1) := List.mem_map.mpr ⟨_, emem, rfl⟩
  have hen : word e.1 = true := TO.nm.2 e.1 hnm
  refine ix_row (.inr (seqT_tp F6 k7 m2)) (at_of rfl c1) (ix_row (.inr c2) (by rfl) ?_)
  have S7 := S6.tp F6 k7
  have N7 := N6.tp F6 k7
  clear S6 N6 F6 k7 m1 m2 m3 m4 m5 c1 c2 c3 r0 r1
  generalize e.1 = n at hnm hen
  have thn : TH (.str n) := th_str (ok_of (word_small hen))
  have isn : isName t (.str n) = true := decide_eq_true hnm
  have ya := (ask_of S7 N7).2.1
  have nobad : ∀ {p : Prop}, areFacts t d = false → p := fun z => by
    rw [ya] at z
    cases z
  have noname : ∀ {p : Prop}, isName t (.str n) = false → p := fun z => by
    rw [isn] at z
    cases z
  have O7 := (ask_of S7 N7).1.ok
  try dsimp only [L2.start, gName]
  refine asg_lcX ?_
  refine lc_rngL (K := K) (S := []) (m := 6) ((List.range 6).map (resD t (once ((rsOf t bs).map (bySeq t))) d (.str n))) (fun b hb => absurd hb List.not_mem_nil) (fun Q' z => z) (by decide) (by rw [List.length_map, List.length_range]) (fun y => rfl) (fun L i ei H' Qc us he hL AL s_ sr hq => ?_) (fun L us H8 hL0 s8 hL8 hus => ?_)
  · have hi : i < 6 := by
      have := (List.getElem?_eq_some_iff.mp he).1
      rwa [List.length_map, List.length_range] at this
    rw [List.getElem?_map, List.getElem?_range hi] at he
    cases he
    have A := (ask_of (S7.same s_) (N7.same s_)).1
    exact ⟨_, rfl, _, rfl, _, rfl, _, rfl, i, x, pf, pr, v, .str n, t, _, d, .str n, rfl, hi, A, TU, .str n, thn.1, nobad, fun _ _ z => noname z, fun _ _ r H2 sc dr => hq r H2 sc (dp_nl (sc _ _ hL) 4 (nl_res t _ d (.str n) i) dr)⟩
  have W8 : Law6 K C H8 a b m x pf pr L t bs kn v d us ((List.range 6).map (resD t (once ((rsOf t bs).map (bySeq t))) d (.str n))) := ⟨F7.same s8, S7.same s8, N7.same s8, hL8, dps_same rm_le hus⟩
  clear S7 N7 F7 hus hL8 hL0 s8
  try dsimp only
  refine ⟨_, rfl, by decide, by decide, ?_⟩
  refine for_range (lo := 0) (n := 8) (fun i σ H' => ∃ f7 f9 f10 : Option V, σ = [some (.ref sc), some (.ref a), some (.ref m), some (.ref x), some (.ref D), some v, some (.str n), f7, some (.ref L), f9, f10] ∧ Law6 K C H' a b m x pf pr L t bs kn v d us ((List.range 6).map (resD t (once ((rsOf t bs).map (bySeq t))) d (.str n)))) ⟨_, _, _, rfl, W8⟩ ?_ ?_
  · clear W8
    rintro i σ H9 hi ⟨f7, f9, f10, rfl, W9⟩
    refine ⟨_, rfl, _, rfl, a, b, m, t, bs, rfl, W9.tp, W9.sd.md, TO, fun v2 d2 Ha dv fo fz Fa ka => ?_⟩
    have Wa := W9.kept ka Fa
    have Aa := (ask_of Wa.sd Wa.hn).1
    refine ⟨_, rfl, _, rfl, _, rfl, _, rfl, _, rfl, a, m, x, pf, pr, v2, .str n, t, bs, _, d2, .str n, rfl, Wa.sd.md, TO, ⟨Aa.fa, Aa.tf, Aa.rf, Aa.ok, dv, fo, fz⟩, .str n, thn, fun Hb sb => ⟨_, rfl, iteNS rfl (nxt ?_)⟩⟩
    have Wb := Wa.same sb
    refine ⟨_, rfl, _, rfl, _, rfl, _, rfl, _, rfl, _, rfl, a, b, m, t, bs, rfl, Wb.tp, Wb.sd.md, TO, fun u du Hc hu hth Fc kc => ?_⟩
    have Wc := Wb.kept kc Fc
    have Ac := (ask_of Wc.sd Wc.hn).1
    refine ⟨a, m, x, pf, pr, v2, u, t, bs, _, d2, du, rfl, Wc.sd.md, TO, ⟨Ac.fa, Ac.tf, Ac.rf, Ac.ok, dp_tp Wb.tp kc (dp_same sb dv), fo, fun z => ((fz z).same sb).tp Wb.tp kc⟩, hu, hth, fun Hd sd => ⟨_, rfl, iteNS rfl (nxt ?_)⟩⟩
    have Wd := Wc.same sd
    refine ⟨_, rfl, _, rfl, _, rfl, _, rfl, _, rfl, _, rfl, a, b, m, t, bs, rfl, Wd.tp, Wd.sd.md, TO, fun u2 du2 He hu2 hth2 Fe ke => ?_⟩
    have We := Wd.kept ke Fe
    exact ⟨a, m, x, pf, pr, v, u2, t, bs, _, d, du2, rfl, We.sd.md, TO, (ask_of We.sd We.hn).1, hu2, hth2, fun Hf sf => ⟨_, rfl, iteNS rfl ⟨_, _, _, rfl, We.same sf⟩⟩⟩
  · rintro σ H9 ⟨f7, f9, f10, rfl, W9⟩
    refine ⟨_, rfl, by decide, by decide, ?_⟩
    refine for_range (lo := 0) (n := 6) (fun i σ H' => ∃ f7 : Option V, σ = [some (.ref sc), some (.ref a), some (.ref m), some (.ref x), some (.ref D), some v, some (.str n), f7, some (.ref L), f9, f10] ∧ Law6 K C H' a b m x pf pr L t bs kn v d us ((List.range 6).map (resD t (once ((rsOf t bs).map (bySeq t))) d (.str n)))) ⟨_, rfl, W9⟩ ?_ ?_
    · clear W9
      rintro i σ Ha hi ⟨f7, rfl, Wa⟩
      have ei : (0 : Int) + (i : Int) = ((i : Nat) : Int) := by omega
      rw [ei]
      refine ⟨_, rfl, _, rfl, _, rfl, _, rfl, i, x, pf, pr, v, .str n, t, _, d, .str n, rfl, hi, (ask_of Wa.sd Wa.hn).1, TU, .str n, thn.1, nobad, fun _ _ z => noname z, fun _ _ r Hb sb dr => ?_⟩
      have Wb := Wa.same sb
      have ul := dps_len Wb.bf
      rw [List.length_map, List.length_range] at ul
      have eu : us[i]? = some us[i] := List.getElem?_eq_getElem (by omega)
      obtain ⟨di, x1, x2⟩ := dps_get Wb.bf eu
      rw [List.getElem?_map, List.getElem?_range hi] at x1
      cases x1
      exact ⟨_, rfl, _, rfl, ix_row (.inl (SqL.of Wb.ls)) (at_of rfl eu) ⟨r, us[i], _, rfl, dr, x2, ds_res TO O7 i, fun Hc sc_ => ⟨_, rfl, iteNS rfl ⟨_, rfl, Wb.same sc_⟩⟩⟩⟩
    · rintro σ Ha ⟨f7, rfl, Wa⟩
      exact kq Ha
end
end Q
set_option Elab.async false
set_option linter.all false
set_option maxRecDepth 100000
set_option maxHeartbeats 4000000
/-! ### fillings, over rows_that_fit -/
namespace Q
open PySem L2 XD
section
variable {P : Program} {w : World} {K : PySem.W.Frag} {mg : Str → Option Value} {base : Heap}
theorem scFills : FnScope ["form", "facts"] ["form", "facts"] (defScope sFillings) := ⟨rfl, rfl, rfl, by decide +kernel, rfl, by decide +kernel, by decide +kernel⟩
theorem ok_fillings {f C CV : Addr} {fd : FuncData} (F : Fun K "fillings" "fillings" sFillings f fd) (Z : Fk P w K mg base C) (R : Bv K mg CV)
    (KA : Kn P w K mg base 3 "are_facts" ["fields", "facts"] (spAreFacts K)) (KW : Kn P w K mg base 3 "rows_that_fit" ["form", "facts"] (spRowsFit K C)) : FnOk P w K mg base (L2N.CX P w) 4 f fd ["form", "facts"] (spFillings K C CV) := by
  obtain ⟨fA, fdA, GA, kA, bA, mA⟩ := KA.ex
  obtain ⟨fW, fdW, GW, kW, bW, mW⟩ := KW.ex
  obtain ⟨fG, fdG, GG, bG, mG⟩ := Z.gf
  obtain ⟨fIv, qv, XV⟩ := R.v
  refine Fun_okN F scFills (fun vs H Q E h => ?_) (fun cdv A outer s H vs Q E hr h => ?_)
  · obtain ⟨x, pf, pr, v, t, rs, d, rfl, _⟩ := h
    rfl
  have hr1 : Room 1 _ := hr.mono (by decide)
  refine ⟨_, pss_cons (ps_if (pt_not (pt_val (pe_call GA hr rfl mA kA bA .nil pass0 (pa_cons (pe_meth0 (pv 0) Z.fc.cl mG GG hr1 bG .nil pass0) (pa_cons (pv 1) pa_nil))))) (pss_one (L2N.ps_raise rfl (L2N.takes_of rfl rfl rfl rfl) (XM.pmk XV R.gv hr (pa_cons pe_int pa_nil)))) pss_nil)
    (pss_one (ps_ret (pe_call GW hr rfl mW kW bW .nil pass0 (pa_cons (pv 0) (pa_cons (pv 1) pa_nil))))), ?_⟩
  obtain ⟨x, pf, pr, v, t, rs, d, rfl, ⟨dx, hx⟩, hT, hR, O, hv, hok, hz, kno, kyes⟩ := h
  refine ⟨_, rfl, x, dx, _, rfl, hx, noF, x, pf, pr, rfl, ⟨dx, hx⟩, _, rfl, pf, t, v, d, rfl, hT, hv, hok, fun H1 s1 => ⟨_, rfl, ?_⟩⟩
  cases eA : areFacts t d with
  | false => exact iteT ⟨.int 1, rfl, fun dd hd => kno eA dd H1 s1 hd⟩
  | true =>
  obtain ⟨q, zs, gs, rfl, hq, er, hzs⟩ := hz eA
  refine iteF (nxt ?_)
  try dsimp only
  exact ⟨_, rfl, _, rfl, x, pf, pr, .ref q, t, rs, d, rfl, ⟨dx, s1 _ _ hx⟩, hT.same s1, rulesAtS s1 hR, O, eA, ⟨q, zs, gs, rfl, hq.elim (fun z => .inl (s1.seq z)) (fun z => .inr (z.same s1)), er, dps_same s1 hzs⟩, fun z H2 s2 hr => kyes eA z H2 (s1.trans s2) hr⟩
end
end Q
set_option Elab.async false
set_option linter.all false
set_option maxRecDepth 100000
set_option maxHeartbeats 4000000
/-! ### _place, _values_there, possible, _all_possible -/
namespace Q
open PySem L2 XD
section
variable {P : Program} {w : World} {K : PySem.W.Frag} {mg : Str → Option Value} {base : Heap}
theorem scPlace : FnScope ["form", "field", "name", "_", "names"] ["form", "field"] (defScope sPlace) := ⟨rfl, rfl, rfl, by decide +kernel, rfl, by decide +kernel, by decide +kernel⟩
theorem ok_place {f C CB : Addr} {fd : FuncData} (F : Fun K "_place" "_place" sPlace f fd) (Z : Fk P w K mg base C) (B : Bf K mg CB) : FnOk P w K mg base (L2N.CX P w) 2 f fd ["form", "field"] (spPlace K C CB) := by
  obtain ⟨fG, fdG, GG, bG, mG⟩ := Z.gf
  obtain ⟨fIb, qb, XB⟩ := B.b
  refine Fun_okN F scPlace (fun vs H Q E h => ?_) (fun cdv A outer s H vs Q E hr h => ?_)
  · obtain ⟨x, pf, pr, v, t, d, rfl, _⟩ := h
    rfl
  have hu2 : (A.deeper (PyProof.Rows.envOfC "_place" (defScope sPlace) s.heap.objs.size f cdv)).units + 65 < cLine := by
    have := hr.un
    omega
  refine ⟨_, pss_cons (ps_setLc (i := 4) (own := [("name", 2), ("_", 3)]) (g := gTup K 2 (gCons (gName 2) (gCons (gName 3) gNil))) (tt := tYes) (by rfl) scPlace.nd rfl rfl (sw_true rfl rfl rfl (by decide +kernel)) (pi_row (pe_meth0 (pv 0) Z.fc.cl mG GG hr bG .nil pass0)) (blkOk_by (N := ["form", "field", "name", "_", "names"]) (sc := defScope sPlace) (by decide +kernel))
      (fun _ _ _ _ _ => pg_tup rfl (pgs_cons (pg_name (i := 2) scPlace.nd rfl (.inl rfl)) (pgs_cons (pg_name (i := 3) scPlace.nd rfl (.inl rfl)) pgs_nil))) (fun _ _ _ _ _ => pts_nil) (fun _ _ _ _ _ => pv 2))
    (pss_cons (ps_if (pt_cmpR (op_notInD hu2) (pv 1) (pv 4) (by with_unfolding_all rfl)) (pss_one (L2N.ps_raise rfl (L2N.takes_of rfl rfl rfl rfl) (XM.pmk XB B.gb hr (pa_cons (pv 1) pa_nil)))) pss_nil)
    (pss_one (ps_ret (pe_bm PySem.F.plainAttrs_list PySem.F.slot_list_index PySem.F.type_list_index mt_index (pv 4) (pa_cons (pv 1) pa_nil))))), ?_⟩
  obtain ⟨x, pf, pr, v, t, d, rfl, ⟨dx, hx⟩, hT, hts, hv, hsh, kno, kyes⟩ := h
  obtain ⟨ps0, tk, hpz, hTR, hnd, htm⟩ := hT
  have htl : (ps0.map V.ref).length = t.length := by rw [List.length_map, hTR.len.1]
  refine asg_lcX ?_
  refine lc_g (ys := ps0.map V.ref) (fun i v R => v = .str ((t.map (·.1)).getD i Str.empty)) (fun _ => true) (fun i v R R' s h => h) (fun Q' z => ⟨_, rfl, x, dx, _, rfl, hx, noF, x, pf, pr, rfl, ⟨dx, hx⟩, z⟩) (.inr hpz.sqT) (by omega) (fun D i y H' yes no AD s1 s2 hy hyes hno => ?_) (fun D H' zs hD s1 hz hP => ?_)
  · obtain ⟨q1, v1, n, ws, rfl, e1, e2, e3⟩ := hTR.at hy
    refine ⟨q1, _, rfl, seqT_same s1 e2, rfl, .str n, _, rfl, .ref v1, [], rfl, rfl, rfl, ?_⟩
    unfold tYes
    refine iteT ⟨_, rfl, hyes rfl _ _ (Same.refl _) ?_⟩
    rw [getD_of (by rw [List.getElem?_map, e1] <;> rfl)]
  · have ez : zs = (t.map (·.1)).map V.str := by
      have : ∀ {zs : List V} {is : List Nat}, Paired (fun z i => z = V.str ((t.map (·.1)).getD i Str.empty)) zs is → zs = (is.map fun i => (t.map (·.1)).getD i Str.empty).map V.str := by
        intro zs is h
        induction h with
        | nil => rfl
        | cons a b ih => rw [a, ih] <;> rfl
      rw [this hP, List.filter_eq_self.mpr (fun _ _ => rfl), htl]
      congr 1
      have := map_range (t.map (·.1)) Str.empty
      rw [List.length_map] at this
      exact this
    subst ez
    have hv1 := dp_same s1 hv
    have hds : SeqAt.shaped (.list ((t.map (·.1)).map PyData.str)) = true := by
      unfold SeqAt.shaped
      rw [Bool.and_eq_true]
      refine ⟨?_, decide_eq_true ?_⟩
      · rw [PyData.canLay0]
        exact lay_strs _ fun w hw => by
          obtain ⟨e, he, rfl⟩ := List.mem_map.mp hw
          exact (hts e he).1
      · rw [PyData.depth, strs_depth]
        decide
    refine ⟨_, rfl, _, rfl, d, (t.map (·.1)).map PyData.str, hv1, .lst (SqL.of hz) (dps_strs _), hsh, hds, _, rfl, ?_⟩
    rw [names_any]
    cases d with
    | str n =>
      show if (!decide (n ∈ t.map (·.1))) = true then _ else _
      by_cases hin : n ∈ t.map (·.1)
      · obtain ⟨i, hi, e⟩ := List.mem_iff_getElem.mp hin
        have hi' : i < t.length := by rw [List.length_map] at hi; exact hi
        have et : t[i]? = some (n, t[i].2) := by
          rw [List.getElem?_eq_getElem hi']
          rw [List.getElem_map] at e
          rw [← e]
        refine iteNS (by rw [decide_eq_true hin] <;> rfl) (nxt ?_)
        dsimp only
        cases hv1
        refine ⟨_, rfl, .inl ⟨rfl, _, SqL.of hz⟩, _, rfl, D, _, .str n, i, .str n, rfl, rfl, SqL.of hz, rfl, flat_words _, ?_, by simp [eqV], fun m z' hm hz' => ?_, kyes i n _ rfl et H' s1⟩
        · rw [List.getElem?_map, List.getElem?_map, et] <;> rfl
        · rw [List.getElem?_map] at hz'
          obtain ⟨x, hx', rfl⟩ := Option.map_eq_some_iff.mp hz'
          have hne : x ≠ n := fun z => by
            subst z
            obtain ⟨hm', em⟩ := List.getElem?_eq_some_iff.mp hx'
            have := (List.getElem_inj hnd).mp (em.trans e.symm)
            omega
          simp [eqV, hne]
      · rw [decide_eq_false hin]
        refine iteT ⟨_, rfl, _, rfl, fun dd hd => kno (fun m e => by cases e; exact hin) dd H' s1 hd⟩
    | _ => exact iteT ⟨_, rfl, _, rfl, fun dd hd => kno (fun m e => by cases e) dd H' s1 hd⟩
abbrev nVals : List Str := ["form", "rows", "place", "name", "values", "row", "found", "value"]
theorem scVals : FnScope nVals ["form", "rows", "place"] (defScope sValuesThere) := ⟨rfl, rfl, rfl, by decide +kernel, rfl, by decide +kernel, by decide +kernel⟩
theorem ok_vals {f C : Addr} {fd : FuncData} (F : Fun K "_values_there" "_values_there" sValuesThere f fd) (Z : Fk P w K mg base C) (Tt : mg "tuple" = none) : FnOk P w K mg base CX0 2 f fd ["form", "rows", "place"] (spVals K C) := by
  obtain ⟨fG, fdG, GG, bG, mG⟩ := Z.gf
  refine F.ok scVals (fun vs H Q E h => ?_) (fun cdv A outer s H vs Q E hr h => ?_)
  · obtain ⟨x, pf, pr, z, i, t, rows, rfl, _⟩ := h
    rfl
  obtain ⟨x, pf, pr, z, i, t, rows, rfl, ⟨dx, hx⟩, hT, ⟨vs0, hz, hP⟩, hi, hl, hlen, hv, k⟩ := h
  have vt_ : PySem.bootBuiltins "tuple" = some (.type "tuple") := by decide +kernel
  have hu1 : (A.deeper (PyProof.Rows.envOfC "_values_there" (defScope sValuesThere) s.heap.objs.size f cdv)).units + 1 < cLine := hu_of hr
  have hu0 : (A.deeper (PyProof.Rows.envOfC "_values_there" (defScope sValuesThere) s.heap.objs.size f cdv)).units < cLine := by omega
  refine ⟨_, pss_cons (ps_asg (pe_ix (ix_both K rfl) (pe_meth0 (pv 0) Z.fc.cl mG GG hr bG .nil pass0) (pv 2) (fun _ _ => rfl)) (pg_row rfl (pgs_cons (pg_name (i := 3) scVals.nd rfl (.inr rfl)) (pgs_cons (pg_name (i := 4) scVals.nd rfl (.inl rfl)) pgs_nil))))
    (pss_cons (ps_set (i := 6) scVals.nd rfl (.inr rfl) (XK.pe_dcT (own := [("row", 5)]) (g := gName 5) (tt := tYes) hu0 (by rfl) scVals.nd (pi_row (pv 1)) (blkOk_by (N := nVals) (sc := defScope sValuesThere) (by decide +kernel))
      (fun _ _ _ _ _ => pg_name (i := 5) scVals.nd rfl (.inl rfl)) (fun _ _ _ _ _ => pts_nil) (fun _ _ _ _ _ => pe_ix (ix_both K rfl) (pv 5) (pv 2) (fun _ _ => rfl)) (fun _ _ _ _ _ => pe_bl)))
    (pss_one (ps_ret (pe_callTy (call_tupK K rfl) rfl Tt vt_ (pa_cons (pe_lc (own := [("value", 7)]) (g := gName 7) (by rfl) scVals.nd (pi_row (pv 4)) (blkOk_by (N := nVals) (sc := defScope sValuesThere) (by decide +kernel))
      (fun _ _ _ _ _ => pg_name (i := 7) scVals.nd rfl (.inl rfl)) (fun _ _ _ _ _ => pts_one (pt_cmp (pc_din hu1 (pe_tup (pa_cons (pv 3) (pa_cons (pv 7) pa_nil))) (pv 6)) (by with_unfolding_all rfl))) (fun _ _ _ _ _ => pv 7)) pa_nil))))), ?_⟩
  obtain ⟨ps0, tk, hpz, hTR, hnd, htm⟩ := hT
  have htl : (ps0.map V.ref).length = t.length := by rw [List.length_map, hTR.len.1]
  have hvl := prd_len hP
  obtain ⟨y0, hy0⟩ : ∃ y0, (ps0.map V.ref)[i]? = some y0 := ⟨_, List.getElem?_eq_getElem (by omega)⟩
  obtain ⟨q1, v1, n, vals, rfl, e1, e2, e3⟩ := hTR.at hy0
  have epos : possAt rows t i = vals.filter fun v => decide ((n, v) ∈ rows.map fun row => row.getD i d0) := by
    unfold possAt
    rw [e1]
  have hvals : vals.length ≤ 1000 := hv _ (List.mem_of_getElem? e1)
  refine ⟨_, rfl, x, dx, _, rfl, hx, noF, x, pf, pr, rfl, ⟨dx, hx⟩, _, rfl, ix_row (.inr hpz.sqT) (at_of rfl hy0) (.inl ⟨q1, _, rfl, e2, rfl, .str n, _, rfl, .ref v1, [], rfl, rfl, ?_⟩)⟩
  dsimp only
  refine asg_dcT ?_
  refine dcT_c (ys := vs0) (rows.map fun row => keyOf (row.getD i d0)) (.bl true) (fun Q' z => ⟨_, rfl, z⟩) (.inr hz) (by rw [List.length_map, hvl]) (by omega) (fun D j y H' yes s1 hy hyes => ?_) (fun D H1 hD s1 hD1 => ?_)
  · obtain ⟨row, er, p, qs, rfl, hp, hqs⟩ := prd_at hP hy
    have hrl := hlen row (List.mem_of_getElem? er)
    have hql := prd_len hqs
    obtain ⟨q, hq⟩ : ∃ q, qs[i]? = some q := ⟨_, List.getElem?_eq_getElem (by omega)⟩
    obtain ⟨e, ee, hqe⟩ := prd_at hqs hq
    refine ⟨rfl, _, rfl, _, rfl, ix_row (.inr (seqT_same s1 hp)) (at_of rfl (by rw [List.getElem?_map, hq] <;> rfl)) ?_⟩
    refine hyes (keyOf e) q _ (by rw [List.getElem?_map, er]; show some (keyOf (row.getD i d0)) = _; rw [getD_of ee]) (s1 _ _ hqe) (Same.refl _)
  · refine ret_cb ?_
    refine lc_g (ys := vals.map V.str) (fun j v R => v = .str (vals.getD j Str.empty)) (fun j => decide ((n, vals.getD j Str.empty) ∈ rows.map fun row => row.getD i d0)) (fun i v R R' s h => h) (fun Q' z => ⟨_, rfl, z⟩) (.inr (seqT_same s1 e3)) (by rw [List.length_map]; exact hvals) (fun D2 j y H' yes no AD s2 s3 hy hyes hno => ?_) (fun D2 H2 zs hD2 s2 hz2 hP2 => ?_)
    · obtain ⟨val, ev, rfl⟩ : ∃ val, vals[j]? = some val ∧ y = .str val := by
        rw [List.getElem?_map] at hy
        obtain ⟨p, a, b⟩ := Option.map_eq_some_iff.mp hy
        exact ⟨p, a, b.symm⟩
      have eg := getD_of (d := Str.empty) ev
      refine ⟨rfl, _, rfl, _, rfl, by show 2 ≤ sizeLine; decide, fun p hp => ⟨_, rfl, D, _, rfl, DGet.t (k := keyOf (n, val)) (new_same hp _ _ _ (s2 _ _ hD1)) upd_same, _, rfl, ?_⟩⟩
      have sp := new_same hp (.tup [V.str n, V.str val])
      by_cases hin : (n, val) ∈ rows.map fun row => row.getD i d0
      · have hk : keyOf (n, val) ∈ rows.map fun row => keyOf (row.getD i d0) := by
          obtain ⟨row, hr, e⟩ := List.mem_map.mp hin
          exact List.mem_map.mpr ⟨row, hr, by show keyOf (row.getD i d0) = _; rw [e]⟩
        rw [putAll_val.1 hk]
        refine iteT ⟨_, rfl, hyes (by rw [eg]; exact decide_eq_true hin) _ _ sp ?_⟩
        rw [eg]
      · have hk : keyOf (n, val) ∉ rows.map fun row => keyOf (row.getD i d0) := fun z => by
          obtain ⟨row, hr, e⟩ := List.mem_map.mp z
          exact hin (List.mem_map.mpr ⟨row, hr, keyOf_inj e⟩)
        rw [putAll_val.2 hk]
        exact iteF (hno (by rw [eg]; exact decide_eq_false hin) _ sp)
    · have ez : zs = (possAt rows t i).map V.str := by
        have : ∀ {zs : List V} {is : List Nat}, Paired (fun z j => z = V.str (vals.getD j Str.empty)) zs is → zs = (is.map fun j => vals.getD j Str.empty).map V.str := by
          intro zs is h
          induction h with
          | nil => rfl
          | cons a b ih => rw [a, ih] <;> rfl
        rw [this hP2, epos]
        congr 1
        conv => rhs; rw [← map_range vals Str.empty]
        rw [List.filter_map, List.length_map] <;> rfl
      refine ⟨D2, zs, rfl, .inl ⟨SqL.of hz2, fun z' o hz' _ => ?_⟩⟩
      refine k z' _ ((s1.trans s2).trans (new_same hz' _)) (.inl (.inr ⟨o, ?_⟩))
      rw [upd_same, ez]
theorem scPossible : FnScope ["form", "facts", "field", "rows", "place"] ["form", "facts", "field"] (defScope sPossible) := ⟨rfl, rfl, rfl, by decide +kernel, rfl, by decide +kernel, by decide +kernel⟩
theorem ok_possible {f fG fP C CV CB : Addr} {fd fdG fdP : FuncData} (F : Fun K "possible" "possible" sPossible f fd)
    (GG : FnOk P w K mg base (L2N.CX P w) 4 fG fdG ["form", "facts"] (spFillings K C CV)) (kG : PySem.W.keepIn K (.ref fG) = true) (bG : Binds K fdG ["form", "facts"] []) (mG : mg "fillings" = some (.ref fG))
    (GP : FnOk P w K mg base (L2N.CX P w) 2 fP fdP ["form", "field"] (spPlace K C CB)) (kP : PySem.W.keepIn K (.ref fP) = true) (bP : Binds K fdP ["form", "field"] []) (mP : mg "_place" = some (.ref fP))
    (KV : Kn P w K mg base 2 "_values_there" ["form", "rows", "place"] (spVals K C)) : FnOk P w K mg base (L2N.CX P w) 5 f fd ["form", "facts", "field"] (spPossible K C CV CB) := by
  obtain ⟨fV, fdV, GV, kV, bV, mV⟩ := KV.ex
  refine Fun_okN F scPossible (fun vs H Q E h => ?_) (fun cdv A outer s H vs Q E hr h => ?_)
  · obtain ⟨x, pf, pr, v, u, t, rs, d, du, rfl, _⟩ := h
    rfl
  refine ⟨_, pss_cons (ps_set (i := 3) scPossible.nd rfl (.inl rfl) (pe_call GG hr rfl mG kG bG .nil (L2N.passes_call (L2N.takes_of rfl rfl rfl rfl) (fun _ _ _ _ h => h)) (pa_cons (pv 0) (pa_cons (pv 1) pa_nil))))
    (pss_cons (ps_set (i := 4) scPossible.nd rfl (.inl rfl) (pe_call GP (hr.mono (by decide)) rfl mP kP bP .nil (L2N.passes_call (L2N.takes_of rfl rfl rfl rfl) (fun _ _ _ _ h => h)) (pa_cons (pv 0) (pa_cons (pv 2) pa_nil))))
    (pss_one (ps_ret (pe_call GV (hr.mono (by decide)) rfl mV kV bV .nil pass0 (pa_cons (pv 0) (pa_cons (pv 3) (pa_cons (pv 4) pa_nil))))))), ?_⟩
  obtain ⟨x, pf, pr, v, u, t, rs, d, du, rfl, A0, hu, hsh, kbad, kfld, kyes⟩ := h
  refine ⟨_, rfl, _, rfl, x, pf, pr, v, t, rs, d, rfl, A0.fa, A0.tf, A0.rf, A0.ok, A0.dp, A0.fo, A0.fz, kbad, fun ya z1 H1 s1 hrows => ?_⟩
  have A1 := A0.same s1
  refine ⟨_, rfl, _, rfl, x, pf, pr, u, t, du, rfl, A1.fa, A1.tf, A1.ok.ts, dp_same s1 hu, hsh, fun hn dd H' s' hd => kfld ya hn dd H' (s1.trans s') hd, fun i n ws e et H2 s2 => ?_⟩
  have A2 := A1.same s2
  have fo := fills_ok (f := factsOf d) A0.ok
  exact ⟨_, rfl, _, rfl, _, rfl, x, pf, pr, z1, i, t, _, rfl, A2.fa, A2.tf, hrows.same s2, (List.getElem?_eq_some_iff.mp et).1, fo.1, fo.2, fun e he => (A0.ok.vn e he).2, fun z H3 s3 hz => kyes ya i n ws e et z H3 ((s1.trans s2).trans s3) hz⟩
abbrev nAllP : List Str := ["form", "facts", "rows", "fields", "place"]
theorem scAllP : FnScope nAllP ["form", "facts"] (defScope sAllPossible) := ⟨rfl, rfl, rfl, by decide +kernel, rfl, by decide +kernel, by decide +kernel⟩
theorem ok_allP {f fG C CV : Addr} {fd fdG : FuncData} (F : Fun K "_all_possible" "_all_possible" sAllPossible f fd) (Z : Fk P w K mg base C) (Tr : mg "range" = none) (Tl : mg "len" = none)
    (GG : FnOk P w K mg base (L2N.CX P w) 4 fG fdG ["form", "facts"] (spFillings K C CV)) (kG : PySem.W.keepIn K (.ref fG) = true) (bG : Binds K fdG ["form", "facts"] []) (mG : mg "fillings" = some (.ref fG))
    (KV : Kn P w K mg base 2 "_values_there" ["form", "rows", "place"] (spVals K C)) : FnOk P w K mg base (L2N.CX P w) 5 f fd ["form", "facts"] (spAllP K C CV) := by
  obtain ⟨fV, fdV, GV, kV, bV, mV⟩ := KV.ex
  obtain ⟨fM, fdM, GM, bM, mM⟩ := Z.gf
  refine Fun_okN F scAllP (fun vs H Q E h => ?_) (fun cdv A outer s H vs Q E hr h => ?_)
  · obtain ⟨x, pf, pr, v, t, rs, d, rfl, _⟩ := h
    rfl
  have hr1 : Room 1 _ := hr.mono (by decide)
  have hr2 : Room 2 _ := hr.mono (by decide)
  refine ⟨_, pss_cons (ps_set (i := 2) scAllP.nd rfl (.inr rfl) (pe_call GG hr rfl mG kG bG .nil (L2N.passes_call (L2N.takes_of rfl rfl rfl rfl) (fun _ _ _ _ h => h)) (pa_cons (pv 0) (pa_cons (pv 1) pa_nil))))
    (PSs.nox (pss_cons (ps_set (i := 3) scAllP.nd rfl (.inr rfl) (pe_meth0 (pv 0) Z.fc.cl mM GM hr1 bM .nil pass0))
    (pss_one (ps_ret (pe_lc (own := [("place", 4)]) (g := gName 4) (tt := tYes) (by rfl) scAllP.nd (pi_range1 rfl Tr (pa_cons (pe_callB call_len_seq rfl Tl PySem.boot_len (pa_cons (pv 3) pa_nil)) pa_nil)) (blkOk_by (N := nAllP) (sc := defScope sAllPossible) (by decide +kernel))
      (fun _ _ _ _ _ => pg_name (i := 4) scAllP.nd rfl (.inl rfl)) (fun _ _ _ _ _ => pts_nil)
      (fun _ _ _ _ _ => pe_tupZ (pa_cons (pe_ix (ix_both K rfl) (pe_ix (ix_both K rfl) (pv 3) (pv 4) (fun _ _ => rfl)) pe_int (fun _ _ => rfl)) (pa_cons (pe_call GV hr2 rfl mV kV bV .nil pass0 (pa_cons (pv 0) (pa_cons (pv 2) (pa_cons (pv 4) pa_nil)))) pa_nil)))))))), ?_⟩
  obtain ⟨x, pf, pr, v, t, rs, d, rfl, A0, kbad, kyes⟩ := h
  refine ⟨_, rfl, _, rfl, x, pf, pr, v, t, rs, d, rfl, A0.fa, A0.tf, A0.rf, A0.ok, A0.dp, A0.fo, A0.fz, kbad, fun ya z1 H1 s1 hrows => ?_⟩
  have A1 := A0.same s1
  have fo := fills_ok (f := factsOf d) A0.ok
  obtain ⟨dx, hx⟩ := A1.fa
  obtain ⟨ps0, tk, hpz, hTR, hnd, htm⟩ := id A1.tf
  have htl : (ps0.map V.ref).length = t.length := by rw [List.length_map, hTR.len.1]
  refine ⟨_, rfl, x, dx, _, rfl, hx, noF, x, pf, pr, rfl, ⟨dx, hx⟩, ?_⟩
  dsimp only [gName]
  refine ret_lc ?_
  refine lc_gr (n := t.length) (fun i v R => ∃ p, v = .ref p ∧ EntAt K R p (nmAt t i, possAt (fills rs (factsOf d) t) t i)) (fun _ => true) (fun i v R R' s ⟨p, e, h⟩ => ⟨p, e, h.same s⟩) (fun Q' z => ⟨_, rfl, pf, _, rfl, .inr hpz.sqT, by rw [htl]; exact z⟩) htm (fun D i H' yes no AD s2 s3 hi hyes hno => ?_) (fun D H' zs hD s2 hz hP => ?_)
  · obtain ⟨y0, hy0⟩ : ∃ y0, (ps0.map V.ref)[i]? = some y0 := ⟨_, List.getElem?_eq_getElem (by omega)⟩
    obtain ⟨q1, v1, n, vals, rfl, e1, e2, e3⟩ := hTR.at hy0
    have A2 := A1.same s2
    refine ⟨rfl, ?_⟩
    unfold tYes
    refine iteT ⟨_, rfl, _, rfl, ix_row (.inr (seqT_same s2 hpz.sqT)) (at_of rfl hy0) (ix_row (.inr (seqT_same s2 e2)) (by rfl) ⟨_, rfl, _, rfl, _, rfl, x, pf, pr, z1, i, t, _, rfl, A2.fa, A2.tf, hrows.same s2, hi, fo.1, fo.2, fun e he => (A0.ok.vn e he).2, fun z H3 s4 hz => ?_⟩)⟩
    refine ⟨by show 2 ≤ sizeLine; decide, fun p o hp ho => ?_⟩
    have sp := new_same hp (.frz o (.tup [V.str n, V.ref z]))
    obtain ⟨acc, hacc⟩ := AD
    have AD3 : Alive [D] H3 := (alive_of hacc).same s4
    refine hyes rfl _ _ (s4.trans sp) ⟨p, rfl, z, ?_, ?_⟩
    · have en : nmAt t i = n := getD_of (by rw [List.getElem?_map, e1] <;> rfl)
      rw [en]
      exact .inl (.inr ⟨o, rm_new AD3 hp⟩)
    · exact seqT_same (rm_same sp) (seqT_rm (s4 _ _ hacc) hz)
  · obtain ⟨us, rfl, hus⟩ := refs_of (T := EntAt K (rmL [D] H')) hP
    rw [List.filter_eq_self.mpr (fun _ _ => rfl)] at hus
    exact kyes ya D us H' (s1.trans s2) hz (prd_imp (fun _ _ z => z.same rm_le) hus)
end
end Q
set_option Elab.async false
set_option linter.all false
set_option maxRecDepth 100000
set_option maxHeartbeats 8000000
namespace Q
open PySem L2 XD
theorem kit_own {K : PySem.W.Frag} {C D : Addr} {b : Bool} (hc : PySem.W.isClsIn K D = true) (ht : PySem.W.typeIn K (.ref D) = some (.type "type")) (s : PySem.W.subIn K (.ref C) (.ref D) = some b) (o : PySem.W.subIn K (.ref D) (.ref D) = some true) :
    PySem.W.kitOne K (.ref C) (.ref D) = some b := by
  unfold PySem.W.kitOne
  by_cases e : (Value.ref C == Value.ref D) = true
  · rw [if_pos e]
    have q : C = D := Value.ref.inj (beq_iff_eq.mp e)
    subst q
    rw [s] at o
    exact o.symm
  · rw [if_neg e]
    have hc' : (PySem.W.clsIn K D).isSome = true := hc
    show (if ((PySem.W.clsIn K D).isSome && PySem.W.typeIn K (.ref D) == some (.type "type")) = true then PySem.W.subIn K (.ref C) (.ref D) else none) = some b
    rw [hc', ht]
    exact s
theorem kit_data {K : PySem.W.Frag} {D : Addr} {T : String} {b : Bool} (hc : PySem.W.isClsIn K D = true) (ht : PySem.W.typeIn K (.ref D) = some (.type "type")) (s : PySem.W.subIn K (.type T) (.ref D) = some b) : PySem.W.kitOne K (.type T) (.ref D) = some b := by
  unfold PySem.W.kitOne
  rw [if_neg (show ¬ ((Value.type T == Value.ref D) = true) from fun e => by cases beq_iff_eq.mp e)]
  have hc' : (PySem.W.clsIn K D).isSome = true := hc
  show (if ((PySem.W.clsIn K D).isSome && PySem.W.typeIn K (.ref D) == some (.type "type")) = true then PySem.W.subIn K (.type T) (.ref D) else none) = some b
  rw [hc', ht]
  exact s
theorem not_first {K : PySem.W.Frag} {D : Addr} {T : String} (s : PySem.W.subIn K (.type T) (.ref D) = some false) : PySem.W.notFirst K D (.type T) = true := by
  unfold PySem.W.notFirst
  rw [s]
  simp
theorem fn_of_ty {K : PySem.W.Frag} {f : Addr} (h : PySem.W.typeIn K (.ref f) = some (.type "function")) : PySem.W.isFn K (.ref f) = true := by
  unfold PySem.W.isFn
  rw [h]
  simp
theorem data_all {p : PyData → Prop} (h1 : p .none) (h2 : ∀ b, p (.bool b)) (h3 : ∀ i, p (.int i)) (h4 : ∀ s, p (.str s)) (h5 : ∀ xs, p (.list xs)) (h6 : ∀ xs, p (.tuple xs)) : ∀ d : PyData, (∀ kvs, d ≠ .dict kvs) → p d := fun d h => by
  cases d with
  | dict kvs => exact absurd rfl (h kvs)
  | none => exact h1
  | bool b => exact h2 b
  | int i => exact h3 i
  | str s => exact h4 s
  | list xs => exact h5 xs
  | tuple xs => exact h6 xs
theorem all_mk {l : PySem.W.OpenLaw} {w : World} {K : PySem.W.Frag} {h : Heap} {mg : Str → Option Value} {fa c0 i0 c1 i1 c2 i2 cB cF fInit fFieldsM fRulesM fEqM cT fTInit fTFit fTClash fIsRow fIsPair fIsSmall fIsWord fUnlike fAreFacts fInSeq fRowsThatFit fFillings fPossible fTwoWays fOpenFields fForced fClash fBars fOneStands fPlace fValuesThere fAllPossible fAreFields fAreValues fAreRules fWays fEach fTape fLoad fDraw fNames fSame fModel fChosen fSheet fKnown fHanded fLIsRow fLAreFacts fIsField fCalled fLTold fOddPair fOddFacts fThing fRight fLaw : Addr} (X : K.In h) (G : h.Ns mainGlobals mg) (hfa : mg "law" = some (.ref fa))
    {odc0 anc0 odc1 anc1 odc2 anc2 odInit anInit odFieldsM anFieldsM odRulesM anRulesM odEqM anEqM odTInit anTInit odTFit anTFit odTClash anTClash odIsRow anIsRow odIsPair anIsPair odIsSmall anIsSmall odIsWord anIsWord odUnlike anUnlike odAreFacts anAreFacts odInSeq anInSeq odRowsThatFit anRowsThatFit odFillings anFillings odPossible anPossible odTwoWays anTwoWays odOpenFields anOpenFields odForced anForced odClash anClash odBars anBars odOneStands anOneStands odPlace anPlace odValuesThere anValuesThere odAllPossible anAllPossible odAreFields anAreFields odAreValues anAreValues odAreRules anAreRules odWays anWays odEach anEach odTape anTape odLoad anLoad odDraw anDraw odNames anNames odSame anSame odModel anModel odChosen anChosen odSheet anSheet odKnown anKnown odHanded anHanded odLIsRow anLIsRow odLAreFacts anLAreFacts odIsField anIsField odCalled anCalled odLTold anLTold odOddPair anOddPair odOddFacts anOddFacts odThing anThing odRight anRight odLaw anLaw : Option Addr} {slc0 slc1 slc2 slInit slFieldsM slRulesM slEqM slTInit slTFit slTClash slIsRow slIsPair slIsSmall slIsWord slUnlike slAreFacts slInSeq slRowsThatFit slFillings slPossible slTwoWays slOpenFields slForced slClash slBars slOneStands slPlace slValuesThere slAllPossible slAreFields slAreValues slAreRules slWays slEach slTape slLoad slDraw slNames slSame slModel slChosen slSheet slKnown slHanded slLIsRow slLAreFacts slIsField slCalled slLTold slOddPair slOddFacts slThing slRight slLaw : Array (Option Value)} {occ0 dcc0 pmc0 cdc0 ctc0 occ1 dcc1 pmc1 cdc1 ctc1 occ2 dcc2 pmc2 cdc2 ctc2 ocInit kVInit dcInit pmInit cdInit ctInit ocFieldsM kVFieldsM dcFieldsM pmFieldsM cdFieldsM ctFieldsM ocRulesM kVRulesM dcRulesM pmRulesM cdRulesM ctRulesM ocEqM kVEqM dcEqM pmEqM cdEqM ctEqM ocTInit kVTInit dcTInit pmTInit cdTInit ctTInit ocTFit kVTFit dcTFit pmTFit cdTFit ctTFit ocTClash kVTClash dcTClash pmTClash cdTClash ctTClash ocIsRow kVIsRow dcIsRow pmIsRow cdIsRow ctIsRow ocIsPair kVIsPair dcIsPair pmIsPair cdIsPair ctIsPair ocIsSmall kVIsSmall dcIsSmall pmIsSmall cdIsSmall ctIsSmall ocIsWord kVIsWord dcIsWord pmIsWord cdIsWord ctIsWord ocUnlike kVUnlike dcUnlike pmUnlike cdUnlike ctUnlike ocAreFacts kVAreFacts dcAreFacts pmAreFacts cdAreFacts ctAreFacts ocInSeq kVInSeq dcInSeq pmInSeq cdInSeq ctInSeq ocRowsThatFit kVRowsThatFit dcRowsThatFit pmRowsThatFit cdRowsThatFit ctRowsThatFit ocFillings kVFillings dcFillings pmFillings cdFillings ctFillings ocPossible kVPossible dcPossible pmPossible cdPossible ctPossible ocTwoWays kVTwoWays dcTwoWays pmTwoWays cdTwoWays ctTwoWays ocOpenFields kVOpenFields dcOpenFields pmOpenFields cdOpenFields ctOpenFields ocForced kVForced dcForced pmForced cdForced ctForced ocClash kVClash dcClash pmClash cdClash ctClash ocBars kVBars dcBars pmBars cdBars ctBars ocOneStands kVOneStands dcOneStands pmOneStands cdOneStands ctOneStands ocPlace kVPlace dcPlace pmPlace cdPlace ctPlace ocValuesThere kVValuesThere dcValuesThere pmValuesThere cdValuesThere ctValuesThere ocAllPossible kVAllPossible dcAllPossible pmAllPossible cdAllPossible ctAllPossible ocAreFields kVAreFields dcAreFields pmAreFields cdAreFields ctAreFields ocAreValues kVAreValues dcAreValues pmAreValues cdAreValues ctAreValues ocAreRules kVAreRules dcAreRules pmAreRules cdAreRules ctAreRules ocWays kVWays dcWays pmWays cdWays ctWays ocEach kVEach dcEach pmEach cdEach ctEach ocTape kVTape dcTape pmTape cdTape ctTape ocLoad kVLoad dcLoad pmLoad cdLoad ctLoad ocDraw kVDraw dcDraw pmDraw cdDraw ctDraw ocNames kVNames dcNames pmNames cdNames ctNames ocSame kVSame dcSame pmSame cdSame ctSame ocModel kVModel dcModel pmModel cdModel ctModel ocChosen kVChosen dcChosen pmChosen cdChosen ctChosen ocSheet kVSheet dcSheet pmSheet cdSheet ctSheet ocKnown kVKnown dcKnown pmKnown cdKnown ctKnown ocHanded kVHanded dcHanded pmHanded cdHanded ctHanded ocLIsRow kVLIsRow dcLIsRow pmLIsRow cdLIsRow ctLIsRow ocLAreFacts kVLAreFacts dcLAreFacts pmLAreFacts cdLAreFacts ctLAreFacts ocIsField kVIsField dcIsField pmIsField cdIsField ctIsField ocCalled kVCalled dcCalled pmCalled cdCalled ctCalled ocLTold kVLTold dcLTold pmLTold cdLTold ctLTold ocOddPair kVOddPair dcOddPair pmOddPair cdOddPair ctOddPair ocOddFacts kVOddFacts dcOddFacts pmOddFacts cdOddFacts ctOddFacts ocThing kVThing dcThing pmThing cdThing ctThing ocRight kVRight dcRight pmRight cdRight ctRight ocLaw kVLaw dcLaw pmLaw cdLaw ctLaw : Value}
    (g0 : PySem.W.nsIn K mainGlobals "BadValue" = some (some (.ref c0)))
    (ini0 : PySem.W.excInitIn K c0 XM.exTail "Exception.__new__" = true)
    (ovr0 : PySem.W.excOver K c0 XM.exTail = true)
    (tkn0 : PySem.W.takerIn K c0 "at" = some none)
    (sa0 : PySem.W.findIn K (.ref c0) "__setattr__" = some (some (.builtin "object.__setattr__")))
    (ga0 : PySem.W.findIn K (.ref c0) "__getattribute__" = some (some (.builtin "BaseException.__getattribute__")))
    (gg0 : PySem.W.findIn K (.ref c0) "__getattr__" = some none)
    (no0 : PySem.W.findIn K (.ref c0) "at" = some none)
    (ic0 : PySem.W.findIn K (.ref c0) "__init__" = some (some (.ref i0)))
    (tc0 : PySem.W.typeIn K (.ref i0) = some (.type "function"))
    (kc0 : PySem.W.keepIn K (.ref c0) = true)
    (ex0 : PySem.W.subIn K (.ref c0) (.type "BaseException") = some true)
    (ty0 : PySem.W.typeIn K (.ref c0) = some (.type "type"))
    (hd0 : PySem.W.hasDictIn K c0 = true)
    (is0 : PySem.W.isClsIn K c0 = true)
    (cc0 : PySem.W.findIn K (.ref c0) "__class__" = some (some (.builtin "object.__class__")))
    (mo0 : PySem.W.mroIn K c0 (.type "object") = some true)
    (lc0 : K.lookup i0 = some ⟨occ0, odc0, .func (PySem.W.fnOf "__init__" "BadValue.__init__" (defArgs (inClass (sEBadValue) 0)) (defBody (inClass (sEBadValue) 0)) (defScope (inClass (sEBadValue) 0)) .none .none dcc0 pmc0 anc0 cdc0 ctc0), slc0⟩)
    (cc0X : PySem.W.codeIn K cdc0 "BadValue.__init__" = true)
    (s00 : PySem.W.subIn K (.ref c0) (.ref c0) = some true)
    (s01 : PySem.W.subIn K (.ref c0) (.ref c1) = some false)
    (s02 : PySem.W.subIn K (.ref c0) (.ref c2) = some false)
    (sB0 : PySem.W.subIn K (.ref c0) (.ref cB) = some true)
    (g1 : PySem.W.nsIn K mainGlobals "BadField" = some (some (.ref c1)))
    (ini1 : PySem.W.excInitIn K c1 XM.exTail "Exception.__new__" = true)
    (ovr1 : PySem.W.excOver K c1 XM.exTail = true)
    (tkn1 : PySem.W.takerIn K c1 "name" = some none)
    (sa1 : PySem.W.findIn K (.ref c1) "__setattr__" = some (some (.builtin "object.__setattr__")))
    (ga1 : PySem.W.findIn K (.ref c1) "__getattribute__" = some (some (.builtin "BaseException.__getattribute__")))
    (gg1 : PySem.W.findIn K (.ref c1) "__getattr__" = some none)
    (no1 : PySem.W.findIn K (.ref c1) "name" = some none)
    (ic1 : PySem.W.findIn K (.ref c1) "__init__" = some (some (.ref i1)))
    (tc1 : PySem.W.typeIn K (.ref i1) = some (.type "function"))
    (kc1 : PySem.W.keepIn K (.ref c1) = true)
    (ex1 : PySem.W.subIn K (.ref c1) (.type "BaseException") = some true)
    (ty1 : PySem.W.typeIn K (.ref c1) = some (.type "type"))
    (hd1 : PySem.W.hasDictIn K c1 = true)
    (is1 : PySem.W.isClsIn K c1 = true)
    (cc1 : PySem.W.findIn K (.ref c1) "__class__" = some (some (.builtin "object.__class__")))
    (mo1 : PySem.W.mroIn K c1 (.type "object") = some true)
    (lc1 : K.lookup i1 = some ⟨occ1, odc1, .func (PySem.W.fnOf "__init__" "BadField.__init__" (defArgs (inClass (sEBadField) 0)) (defBody (inClass (sEBadField) 0)) (defScope (inClass (sEBadField) 0)) .none .none dcc1 pmc1 anc1 cdc1 ctc1), slc1⟩)
    (cc1X : PySem.W.codeIn K cdc1 "BadField.__init__" = true)
    (s10 : PySem.W.subIn K (.ref c1) (.ref c0) = some false)
    (s11 : PySem.W.subIn K (.ref c1) (.ref c1) = some true)
    (s12 : PySem.W.subIn K (.ref c1) (.ref c2) = some false)
    (sB1 : PySem.W.subIn K (.ref c1) (.ref cB) = some true)
    (g2 : PySem.W.nsIn K mainGlobals "TooMany" = some (some (.ref c2)))
    (ini2 : PySem.W.excInitIn K c2 XM.exTail "Exception.__new__" = true)
    (ovr2 : PySem.W.excOver K c2 XM.exTail = true)
    (tkn2 : PySem.W.takerIn K c2 "word" = some none)
    (sa2 : PySem.W.findIn K (.ref c2) "__setattr__" = some (some (.builtin "object.__setattr__")))
    (ga2 : PySem.W.findIn K (.ref c2) "__getattribute__" = some (some (.builtin "BaseException.__getattribute__")))
    (gg2 : PySem.W.findIn K (.ref c2) "__getattr__" = some none)
    (no2 : PySem.W.findIn K (.ref c2) "word" = some none)
    (ic2 : PySem.W.findIn K (.ref c2) "__init__" = some (some (.ref i2)))
    (tc2 : PySem.W.typeIn K (.ref i2) = some (.type "function"))
    (kc2 : PySem.W.keepIn K (.ref c2) = true)
    (ex2 : PySem.W.subIn K (.ref c2) (.type "BaseException") = some true)
    (ty2 : PySem.W.typeIn K (.ref c2) = some (.type "type"))
    (hd2 : PySem.W.hasDictIn K c2 = true)
    (is2 : PySem.W.isClsIn K c2 = true)
    (cc2 : PySem.W.findIn K (.ref c2) "__class__" = some (some (.builtin "object.__class__")))
    (mo2 : PySem.W.mroIn K c2 (.type "object") = some true)
    (lc2 : K.lookup i2 = some ⟨occ2, odc2, .func (PySem.W.fnOf "__init__" "TooMany.__init__" (defArgs (inClass (sETooMany) 0)) (defBody (inClass (sETooMany) 0)) (defScope (inClass (sETooMany) 0)) .none .none dcc2 pmc2 anc2 cdc2 ctc2), slc2⟩)
    (cc2X : PySem.W.codeIn K cdc2 "TooMany.__init__" = true)
    (s20 : PySem.W.subIn K (.ref c2) (.ref c0) = some false)
    (s21 : PySem.W.subIn K (.ref c2) (.ref c1) = some false)
    (s22 : PySem.W.subIn K (.ref c2) (.ref c2) = some true)
    (sB2 : PySem.W.subIn K (.ref c2) (.ref cB) = some true)
    (gB : PySem.W.nsIn K mainGlobals "TalkError" = some (some (.ref cB)))
    (exB : PySem.W.subIn K (.ref cB) (.type "BaseException") = some true)
    (tyB : PySem.W.typeIn K (.ref cB) = some (.type "type"))
    (hdB : PySem.W.hasDictIn K cB = true)
    (isB : PySem.W.isClsIn K cB = true)
    (sBB : PySem.W.subIn K (.ref cB) (.ref cB) = some true)
    (spG : PySem.W.specialIn K (.builtin "object.__class__") "__get__" = some (some (.builtin "getset_descriptor.__get__")))
    (tkG : PySem.W.takesIn K (.builtin "object.__class__") = some true)
    (gF : PySem.W.nsIn K mainGlobals "Form" = some (some (.ref cF)))
    (pgF : PySem.W.plainGet K cF Str.empty = true)
    (hdF : PySem.W.hasDictIn K cF = true)
    (poF : PySem.W.plainOver K cF = true)
    (saF : PySem.W.findIn K (.ref cF) "__setattr__" = some (some (.builtin "object.__setattr__")))
    (nfF : PySem.W.findIn K (.ref cF) "_fields" = some none)
    (nrF : PySem.W.findIn K (.ref cF) "_rules" = some none)
    (ccF : PySem.W.findIn K (.ref cF) "__class__" = some (some (.builtin "object.__class__")))
    (moF : PySem.W.mroIn K cF (.type "object") = some true)
    (isF : PySem.W.isClsIn K cF = true)
    (tyF : PySem.W.typeIn K (.ref cF) = some (.type "type"))
    (sFF : PySem.W.subIn K (.ref cF) (.ref cF) = some true)
    (mkF : PySem.W.makesIn K cF = true)
    (kF : PySem.W.keepIn K (.ref cF) = true)
    (aInit : PySem.W.findIn K (.ref cF) "__init__" = some (some (.ref fInit)))
    (tInit : PySem.W.typeIn K (.ref fInit) = some (.type "function"))
    (lInit : K.lookup fInit = some ⟨ocInit, odInit, .func (PySem.W.fnOf "__init__" "Form.__init__" (defArgs sInit) (defBody sInit) (defScope sInit) .none kVInit dcInit pmInit anInit cdInit ctInit), slInit⟩)
    (cInit : PySem.W.codeIn K cdInit "Form.__init__" = true)
    (kInit : PySem.W.keepIn K (.ref fInit) = true)
    (aFieldsM : PySem.W.findIn K (.ref cF) "fields" = some (some (.ref fFieldsM)))
    (tFieldsM : PySem.W.typeIn K (.ref fFieldsM) = some (.type "function"))
    (lFieldsM : K.lookup fFieldsM = some ⟨ocFieldsM, odFieldsM, .func (PySem.W.fnOf "fields" "Form.fields" (defArgs sFieldsM) (defBody sFieldsM) (defScope sFieldsM) .none kVFieldsM dcFieldsM pmFieldsM anFieldsM cdFieldsM ctFieldsM), slFieldsM⟩)
    (cFieldsM : PySem.W.codeIn K cdFieldsM "Form.fields" = true)
    (kFieldsM : PySem.W.keepIn K (.ref fFieldsM) = true)
    (aRulesM : PySem.W.findIn K (.ref cF) "rules" = some (some (.ref fRulesM)))
    (tRulesM : PySem.W.typeIn K (.ref fRulesM) = some (.type "function"))
    (lRulesM : K.lookup fRulesM = some ⟨ocRulesM, odRulesM, .func (PySem.W.fnOf "rules" "Form.rules" (defArgs sRulesM) (defBody sRulesM) (defScope sRulesM) .none kVRulesM dcRulesM pmRulesM anRulesM cdRulesM ctRulesM), slRulesM⟩)
    (cRulesM : PySem.W.codeIn K cdRulesM "Form.rules" = true)
    (kRulesM : PySem.W.keepIn K (.ref fRulesM) = true)
    (aEqM : PySem.W.findIn K (.ref cF) "__eq__" = some (some (.ref fEqM)))
    (tEqM : PySem.W.typeIn K (.ref fEqM) = some (.type "function"))
    (lEqM : K.lookup fEqM = some ⟨ocEqM, odEqM, .func (PySem.W.fnOf "__eq__" "Form.__eq__" (defArgs sEqM) (defBody sEqM) (defScope sEqM) .none kVEqM dcEqM pmEqM anEqM cdEqM ctEqM), slEqM⟩)
    (cEqM : PySem.W.codeIn K cdEqM "Form.__eq__" = true)
    (kEqM : PySem.W.keepIn K (.ref fEqM) = true)
    (nNoneType : PySem.W.subIn K (.type "NoneType") (.ref cF) = some false)
    (nbool : PySem.W.subIn K (.type "bool") (.ref cF) = some false)
    (nint : PySem.W.subIn K (.type "int") (.ref cF) = some false)
    (nstr : PySem.W.subIn K (.type "str") (.ref cF) = some false)
    (nlist : PySem.W.subIn K (.type "list") (.ref cF) = some false)
    (ntuple : PySem.W.subIn K (.type "tuple") (.ref cF) = some false)
    (gT : PySem.W.nsIn K mainGlobals "Table" = some (some (.ref cT)))
    (pgT : PySem.W.plainGet K cT Str.empty = true)
    (hdT : PySem.W.hasDictIn K cT = true)
    (poT : PySem.W.plainOver K cT = true)
    (saT : PySem.W.findIn K (.ref cT) "__setattr__" = some (some (.builtin "object.__setattr__")))
    (nfT : PySem.W.findIn K (.ref cT) "_fields" = some none)
    (nrT : PySem.W.findIn K (.ref cT) "_rows" = some none)
    (nlT : PySem.W.findIn K (.ref cT) "_lot_of" = some none)
    (mkT : PySem.W.makesIn K cT = true)
    (kT : PySem.W.keepIn K (.ref cT) = true)
    (aTInit : PySem.W.findIn K (.ref cT) "__init__" = some (some (.ref fTInit)))
    (tTInit : PySem.W.typeIn K (.ref fTInit) = some (.type "function"))
    (lTInit : K.lookup fTInit = some ⟨ocTInit, odTInit, .func (PySem.W.fnOf "__init__" "Table.__init__" (defArgs sTblInit) (defBody sTblInit) (defScope sTblInit) .none kVTInit dcTInit pmTInit anTInit cdTInit ctTInit), slTInit⟩)
    (cTInit : PySem.W.codeIn K cdTInit "Table.__init__" = true)
    (kTInit : PySem.W.keepIn K (.ref fTInit) = true)
    (aTFit : PySem.W.findIn K (.ref cT) "fitting" = some (some (.ref fTFit)))
    (tTFit : PySem.W.typeIn K (.ref fTFit) = some (.type "function"))
    (lTFit : K.lookup fTFit = some ⟨ocTFit, odTFit, .func (PySem.W.fnOf "fitting" "Table.fitting" (defArgs sTblFitting) (defBody sTblFitting) (defScope sTblFitting) .none kVTFit dcTFit pmTFit anTFit cdTFit ctTFit), slTFit⟩)
    (cTFit : PySem.W.codeIn K cdTFit "Table.fitting" = true)
    (kTFit : PySem.W.keepIn K (.ref fTFit) = true)
    (aTClash : PySem.W.findIn K (.ref cT) "clash" = some (some (.ref fTClash)))
    (tTClash : PySem.W.typeIn K (.ref fTClash) = some (.type "function"))
    (lTClash : K.lookup fTClash = some ⟨ocTClash, odTClash, .func (PySem.W.fnOf "clash" "Table.clash" (defArgs sTblClash) (defBody sTblClash) (defScope sTblClash) .none kVTClash dcTClash pmTClash anTClash cdTClash ctTClash), slTClash⟩)
    (cTClash : PySem.W.codeIn K cdTClash "Table.clash" = true)
    (kTClash : PySem.W.keepIn K (.ref fTClash) = true)
    (aIsRow : PySem.W.nsIn K mainGlobals "is_row" = some (some (.ref fIsRow)))
    (lIsRow : K.lookup fIsRow = some ⟨ocIsRow, odIsRow, .func (PySem.W.fnOf "is_row" "is_row" (defArgs sIsRow) (defBody sIsRow) (defScope sIsRow) .none kVIsRow dcIsRow pmIsRow anIsRow cdIsRow ctIsRow), slIsRow⟩)
    (cIsRow : PySem.W.codeIn K cdIsRow "is_row" = true)
    (kIsRow : PySem.W.keepIn K (.ref fIsRow) = true)
    (aIsPair : PySem.W.nsIn K mainGlobals "is_pair" = some (some (.ref fIsPair)))
    (lIsPair : K.lookup fIsPair = some ⟨ocIsPair, odIsPair, .func (PySem.W.fnOf "is_pair" "is_pair" (defArgs sIsPair) (defBody sIsPair) (defScope sIsPair) .none kVIsPair dcIsPair pmIsPair anIsPair cdIsPair ctIsPair), slIsPair⟩)
    (cIsPair : PySem.W.codeIn K cdIsPair "is_pair" = true)
    (kIsPair : PySem.W.keepIn K (.ref fIsPair) = true)
    (aIsSmall : PySem.W.nsIn K mainGlobals "is_small" = some (some (.ref fIsSmall)))
    (lIsSmall : K.lookup fIsSmall = some ⟨ocIsSmall, odIsSmall, .func (PySem.W.fnOf "is_small" "is_small" (defArgs sIsSmall) (defBody sIsSmall) (defScope sIsSmall) .none kVIsSmall dcIsSmall pmIsSmall anIsSmall cdIsSmall ctIsSmall), slIsSmall⟩)
    (cIsSmall : PySem.W.codeIn K cdIsSmall "is_small" = true)
    (kIsSmall : PySem.W.keepIn K (.ref fIsSmall) = true)
    (aIsWord : PySem.W.nsIn K mainGlobals "is_word" = some (some (.ref fIsWord)))
    (lIsWord : K.lookup fIsWord = some ⟨ocIsWord, odIsWord, .func (PySem.W.fnOf "is_word" "is_word" (defArgs sIsWord) (defBody sIsWord) (defScope sIsWord) .none kVIsWord dcIsWord pmIsWord anIsWord cdIsWord ctIsWord), slIsWord⟩)
    (cIsWord : PySem.W.codeIn K cdIsWord "is_word" = true)
    (kIsWord : PySem.W.keepIn K (.ref fIsWord) = true)
    (aUnlike : PySem.W.nsIn K mainGlobals "are_unlike_words" = some (some (.ref fUnlike)))
    (lUnlike : K.lookup fUnlike = some ⟨ocUnlike, odUnlike, .func (PySem.W.fnOf "are_unlike_words" "are_unlike_words" (defArgs sUnlike) (defBody sUnlike) (defScope sUnlike) .none kVUnlike dcUnlike pmUnlike anUnlike cdUnlike ctUnlike), slUnlike⟩)
    (cUnlike : PySem.W.codeIn K cdUnlike "are_unlike_words" = true)
    (kUnlike : PySem.W.keepIn K (.ref fUnlike) = true)
    (aAreFacts : PySem.W.nsIn K mainGlobals "are_facts" = some (some (.ref fAreFacts)))
    (lAreFacts : K.lookup fAreFacts = some ⟨ocAreFacts, odAreFacts, .func (PySem.W.fnOf "are_facts" "are_facts" (defArgs sAreFacts) (defBody sAreFacts) (defScope sAreFacts) .none kVAreFacts dcAreFacts pmAreFacts anAreFacts cdAreFacts ctAreFacts), slAreFacts⟩)
    (cAreFacts : PySem.W.codeIn K cdAreFacts "are_facts" = true)
    (kAreFacts : PySem.W.keepIn K (.ref fAreFacts) = true)
    (aInSeq : PySem.W.nsIn K mainGlobals "in_sequence" = some (some (.ref fInSeq)))
    (lInSeq : K.lookup fInSeq = some ⟨ocInSeq, odInSeq, .func (PySem.W.fnOf "in_sequence" "in_sequence" (defArgs sInSeq) (defBody sInSeq) (defScope sInSeq) .none kVInSeq dcInSeq pmInSeq anInSeq cdInSeq ctInSeq), slInSeq⟩)
    (cInSeq : PySem.W.codeIn K cdInSeq "in_sequence" = true)
    (kInSeq : PySem.W.keepIn K (.ref fInSeq) = true)
    (aRowsThatFit : PySem.W.nsIn K mainGlobals "rows_that_fit" = some (some (.ref fRowsThatFit)))
    (lRowsThatFit : K.lookup fRowsThatFit = some ⟨ocRowsThatFit, odRowsThatFit, .func (PySem.W.fnOf "rows_that_fit" "rows_that_fit" (defArgs sRowsThatFit) (defBody sRowsThatFit) (defScope sRowsThatFit) .none kVRowsThatFit dcRowsThatFit pmRowsThatFit anRowsThatFit cdRowsThatFit ctRowsThatFit), slRowsThatFit⟩)
    (cRowsThatFit : PySem.W.codeIn K cdRowsThatFit "rows_that_fit" = true)
    (kRowsThatFit : PySem.W.keepIn K (.ref fRowsThatFit) = true)
    (aFillings : PySem.W.nsIn K mainGlobals "fillings" = some (some (.ref fFillings)))
    (lFillings : K.lookup fFillings = some ⟨ocFillings, odFillings, .func (PySem.W.fnOf "fillings" "fillings" (defArgs sFillings) (defBody sFillings) (defScope sFillings) .none kVFillings dcFillings pmFillings anFillings cdFillings ctFillings), slFillings⟩)
    (cFillings : PySem.W.codeIn K cdFillings "fillings" = true)
    (kFillings : PySem.W.keepIn K (.ref fFillings) = true)
    (aPossible : PySem.W.nsIn K mainGlobals "possible" = some (some (.ref fPossible)))
    (lPossible : K.lookup fPossible = some ⟨ocPossible, odPossible, .func (PySem.W.fnOf "possible" "possible" (defArgs sPossible) (defBody sPossible) (defScope sPossible) .none kVPossible dcPossible pmPossible anPossible cdPossible ctPossible), slPossible⟩)
    (cPossible : PySem.W.codeIn K cdPossible "possible" = true)
    (kPossible : PySem.W.keepIn K (.ref fPossible) = true)
    (aTwoWays : PySem.W.nsIn K mainGlobals "two_ways" = some (some (.ref fTwoWays)))
    (lTwoWays : K.lookup fTwoWays = some ⟨ocTwoWays, odTwoWays, .func (PySem.W.fnOf "two_ways" "two_ways" (defArgs sTwoWays) (defBody sTwoWays) (defScope sTwoWays) .none kVTwoWays dcTwoWays pmTwoWays anTwoWays cdTwoWays ctTwoWays), slTwoWays⟩)
    (cTwoWays : PySem.W.codeIn K cdTwoWays "two_ways" = true)
    (kTwoWays : PySem.W.keepIn K (.ref fTwoWays) = true)
    (aOpenFields : PySem.W.nsIn K mainGlobals "open_fields" = some (some (.ref fOpenFields)))
    (lOpenFields : K.lookup fOpenFields = some ⟨ocOpenFields, odOpenFields, .func (PySem.W.fnOf "open_fields" "open_fields" (defArgs sOpenFields) (defBody sOpenFields) (defScope sOpenFields) .none kVOpenFields dcOpenFields pmOpenFields anOpenFields cdOpenFields ctOpenFields), slOpenFields⟩)
    (cOpenFields : PySem.W.codeIn K cdOpenFields "open_fields" = true)
    (kOpenFields : PySem.W.keepIn K (.ref fOpenFields) = true)
    (aForced : PySem.W.nsIn K mainGlobals "forced" = some (some (.ref fForced)))
    (lForced : K.lookup fForced = some ⟨ocForced, odForced, .func (PySem.W.fnOf "forced" "forced" (defArgs sForced) (defBody sForced) (defScope sForced) .none kVForced dcForced pmForced anForced cdForced ctForced), slForced⟩)
    (cForced : PySem.W.codeIn K cdForced "forced" = true)
    (kForced : PySem.W.keepIn K (.ref fForced) = true)
    (aClash : PySem.W.nsIn K mainGlobals "clash" = some (some (.ref fClash)))
    (lClash : K.lookup fClash = some ⟨ocClash, odClash, .func (PySem.W.fnOf "clash" "clash" (defArgs sClash) (defBody sClash) (defScope sClash) .none kVClash dcClash pmClash anClash cdClash ctClash), slClash⟩)
    (cClash : PySem.W.codeIn K cdClash "clash" = true)
    (kClash : PySem.W.keepIn K (.ref fClash) = true)
    (aBars : PySem.W.nsIn K mainGlobals "_bars" = some (some (.ref fBars)))
    (lBars : K.lookup fBars = some ⟨ocBars, odBars, .func (PySem.W.fnOf "_bars" "_bars" (defArgs sBars) (defBody sBars) (defScope sBars) .none kVBars dcBars pmBars anBars cdBars ctBars), slBars⟩)
    (cBars : PySem.W.codeIn K cdBars "_bars" = true)
    (kBars : PySem.W.keepIn K (.ref fBars) = true)
    (aOneStands : PySem.W.nsIn K mainGlobals "_one_stands" = some (some (.ref fOneStands)))
    (lOneStands : K.lookup fOneStands = some ⟨ocOneStands, odOneStands, .func (PySem.W.fnOf "_one_stands" "_one_stands" (defArgs sOneStands) (defBody sOneStands) (defScope sOneStands) .none kVOneStands dcOneStands pmOneStands anOneStands cdOneStands ctOneStands), slOneStands⟩)
    (cOneStands : PySem.W.codeIn K cdOneStands "_one_stands" = true)
    (kOneStands : PySem.W.keepIn K (.ref fOneStands) = true)
    (aPlace : PySem.W.nsIn K mainGlobals "_place" = some (some (.ref fPlace)))
    (lPlace : K.lookup fPlace = some ⟨ocPlace, odPlace, .func (PySem.W.fnOf "_place" "_place" (defArgs sPlace) (defBody sPlace) (defScope sPlace) .none kVPlace dcPlace pmPlace anPlace cdPlace ctPlace), slPlace⟩)
    (cPlace : PySem.W.codeIn K cdPlace "_place" = true)
    (kPlace : PySem.W.keepIn K (.ref fPlace) = true)
    (aValuesThere : PySem.W.nsIn K mainGlobals "_values_there" = some (some (.ref fValuesThere)))
    (lValuesThere : K.lookup fValuesThere = some ⟨ocValuesThere, odValuesThere, .func (PySem.W.fnOf "_values_there" "_values_there" (defArgs sValuesThere) (defBody sValuesThere) (defScope sValuesThere) .none kVValuesThere dcValuesThere pmValuesThere anValuesThere cdValuesThere ctValuesThere), slValuesThere⟩)
    (cValuesThere : PySem.W.codeIn K cdValuesThere "_values_there" = true)
    (kValuesThere : PySem.W.keepIn K (.ref fValuesThere) = true)
    (aAllPossible : PySem.W.nsIn K mainGlobals "_all_possible" = some (some (.ref fAllPossible)))
    (lAllPossible : K.lookup fAllPossible = some ⟨ocAllPossible, odAllPossible, .func (PySem.W.fnOf "_all_possible" "_all_possible" (defArgs sAllPossible) (defBody sAllPossible) (defScope sAllPossible) .none kVAllPossible dcAllPossible pmAllPossible anAllPossible cdAllPossible ctAllPossible), slAllPossible⟩)
    (cAllPossible : PySem.W.codeIn K cdAllPossible "_all_possible" = true)
    (kAllPossible : PySem.W.keepIn K (.ref fAllPossible) = true)
    (aAreFields : PySem.W.nsIn K mainGlobals "_are_fields" = some (some (.ref fAreFields)))
    (lAreFields : K.lookup fAreFields = some ⟨ocAreFields, odAreFields, .func (PySem.W.fnOf "_are_fields" "_are_fields" (defArgs sAreFields) (defBody sAreFields) (defScope sAreFields) .none kVAreFields dcAreFields pmAreFields anAreFields cdAreFields ctAreFields), slAreFields⟩)
    (cAreFields : PySem.W.codeIn K cdAreFields "_are_fields" = true)
    (kAreFields : PySem.W.keepIn K (.ref fAreFields) = true)
    (aAreValues : PySem.W.nsIn K mainGlobals "_are_values" = some (some (.ref fAreValues)))
    (lAreValues : K.lookup fAreValues = some ⟨ocAreValues, odAreValues, .func (PySem.W.fnOf "_are_values" "_are_values" (defArgs sAreValues) (defBody sAreValues) (defScope sAreValues) .none kVAreValues dcAreValues pmAreValues anAreValues cdAreValues ctAreValues), slAreValues⟩)
    (cAreValues : PySem.W.codeIn K cdAreValues "_are_values" = true)
    (kAreValues : PySem.W.keepIn K (.ref fAreValues) = true)
    (aAreRules : PySem.W.nsIn K mainGlobals "_are_rules" = some (some (.ref fAreRules)))
    (lAreRules : K.lookup fAreRules = some ⟨ocAreRules, odAreRules, .func (PySem.W.fnOf "_are_rules" "_are_rules" (defArgs sAreRules) (defBody sAreRules) (defScope sAreRules) .none kVAreRules dcAreRules pmAreRules anAreRules cdAreRules ctAreRules), slAreRules⟩)
    (cAreRules : PySem.W.codeIn K cdAreRules "_are_rules" = true)
    (kAreRules : PySem.W.keepIn K (.ref fAreRules) = true)
    (aWays : PySem.W.nsIn K mainGlobals "_ways_to_fill" = some (some (.ref fWays)))
    (lWays : K.lookup fWays = some ⟨ocWays, odWays, .func (PySem.W.fnOf "_ways_to_fill" "_ways_to_fill" (defArgs sWays) (defBody sWays) (defScope sWays) .none kVWays dcWays pmWays anWays cdWays ctWays), slWays⟩)
    (cWays : PySem.W.codeIn K cdWays "_ways_to_fill" = true)
    (kWays : PySem.W.keepIn K (.ref fWays) = true)
    (aEach : PySem.W.nsIn K mainGlobals "_each_once" = some (some (.ref fEach)))
    (lEach : K.lookup fEach = some ⟨ocEach, odEach, .func (PySem.W.fnOf "_each_once" "_each_once" (defArgs sEach) (defBody sEach) (defScope sEach) .none kVEach dcEach pmEach anEach cdEach ctEach), slEach⟩)
    (cEach : PySem.W.codeIn K cdEach "_each_once" = true)
    (kEach : PySem.W.keepIn K (.ref fEach) = true)
    (aTape : PySem.W.nsIn K mainGlobals "_law_tape" = some (some (.ref fTape)))
    (lTape : K.lookup fTape = some ⟨ocTape, odTape, .func (PySem.W.fnOf "_law_tape" "_law_tape" (defArgs sTape) (defBody sTape) (defScope sTape) .none kVTape dcTape pmTape anTape cdTape ctTape), slTape⟩)
    (cTape : PySem.W.codeIn K cdTape "_law_tape" = true)
    (kTape : PySem.W.keepIn K (.ref fTape) = true)
    (aLoad : PySem.W.nsIn K mainGlobals "_law_load" = some (some (.ref fLoad)))
    (lLoad : K.lookup fLoad = some ⟨ocLoad, odLoad, .func (PySem.W.fnOf "_law_load" "_law_load" (defArgs sLoad) (defBody sLoad) (defScope sLoad) .none kVLoad dcLoad pmLoad anLoad cdLoad ctLoad), slLoad⟩)
    (cLoad : PySem.W.codeIn K cdLoad "_law_load" = true)
    (kLoad : PySem.W.keepIn K (.ref fLoad) = true)
    (aDraw : PySem.W.nsIn K mainGlobals "_law_draw" = some (some (.ref fDraw)))
    (lDraw : K.lookup fDraw = some ⟨ocDraw, odDraw, .func (PySem.W.fnOf "_law_draw" "_law_draw" (defArgs sDraw) (defBody sDraw) (defScope sDraw) .none kVDraw dcDraw pmDraw anDraw cdDraw ctDraw), slDraw⟩)
    (cDraw : PySem.W.codeIn K cdDraw "_law_draw" = true)
    (kDraw : PySem.W.keepIn K (.ref fDraw) = true)
    (aNames : PySem.W.nsIn K mainGlobals "_law_names" = some (some (.ref fNames)))
    (lNames : K.lookup fNames = some ⟨ocNames, odNames, .func (PySem.W.fnOf "_law_names" "_law_names" (defArgs sNames) (defBody sNames) (defScope sNames) .none kVNames dcNames pmNames anNames cdNames ctNames), slNames⟩)
    (cNames : PySem.W.codeIn K cdNames "_law_names" = true)
    (kNames : PySem.W.keepIn K (.ref fNames) = true)
    (aSame : PySem.W.nsIn K mainGlobals "_law_same" = some (some (.ref fSame)))
    (lSame : K.lookup fSame = some ⟨ocSame, odSame, .func (PySem.W.fnOf "_law_same" "_law_same" (defArgs sSame) (defBody sSame) (defScope sSame) .none kVSame dcSame pmSame anSame cdSame ctSame), slSame⟩)
    (cSame : PySem.W.codeIn K cdSame "_law_same" = true)
    (kSame : PySem.W.keepIn K (.ref fSame) = true)
    (aModel : PySem.W.nsIn K mainGlobals "_law_model" = some (some (.ref fModel)))
    (lModel : K.lookup fModel = some ⟨ocModel, odModel, .func (PySem.W.fnOf "_law_model" "_law_model" (defArgs sModel) (defBody sModel) (defScope sModel) .none kVModel dcModel pmModel anModel cdModel ctModel), slModel⟩)
    (cModel : PySem.W.codeIn K cdModel "_law_model" = true)
    (kModel : PySem.W.keepIn K (.ref fModel) = true)
    (aChosen : PySem.W.nsIn K mainGlobals "_law_chosen" = some (some (.ref fChosen)))
    (lChosen : K.lookup fChosen = some ⟨ocChosen, odChosen, .func (PySem.W.fnOf "_law_chosen" "_law_chosen" (defArgs sChosen) (defBody sChosen) (defScope sChosen) .none kVChosen dcChosen pmChosen anChosen cdChosen ctChosen), slChosen⟩)
    (cChosen : PySem.W.codeIn K cdChosen "_law_chosen" = true)
    (kChosen : PySem.W.keepIn K (.ref fChosen) = true)
    (aSheet : PySem.W.nsIn K mainGlobals "_law_form" = some (some (.ref fSheet)))
    (lSheet : K.lookup fSheet = some ⟨ocSheet, odSheet, .func (PySem.W.fnOf "_law_form" "_law_form" (defArgs sSheet) (defBody sSheet) (defScope sSheet) .none kVSheet dcSheet pmSheet anSheet cdSheet ctSheet), slSheet⟩)
    (cSheet : PySem.W.codeIn K cdSheet "_law_form" = true)
    (kSheet : PySem.W.keepIn K (.ref fSheet) = true)
    (aKnown : PySem.W.nsIn K mainGlobals "_law_known" = some (some (.ref fKnown)))
    (lKnown : K.lookup fKnown = some ⟨ocKnown, odKnown, .func (PySem.W.fnOf "_law_known" "_law_known" (defArgs sKnown) (defBody sKnown) (defScope sKnown) .none kVKnown dcKnown pmKnown anKnown cdKnown ctKnown), slKnown⟩)
    (cKnown : PySem.W.codeIn K cdKnown "_law_known" = true)
    (kKnown : PySem.W.keepIn K (.ref fKnown) = true)
    (aHanded : PySem.W.nsIn K mainGlobals "_law_handed" = some (some (.ref fHanded)))
    (lHanded : K.lookup fHanded = some ⟨ocHanded, odHanded, .func (PySem.W.fnOf "_law_handed" "_law_handed" (defArgs sHanded) (defBody sHanded) (defScope sHanded) .none kVHanded dcHanded pmHanded anHanded cdHanded ctHanded), slHanded⟩)
    (cHanded : PySem.W.codeIn K cdHanded "_law_handed" = true)
    (kHanded : PySem.W.keepIn K (.ref fHanded) = true)
    (aLIsRow : PySem.W.nsIn K mainGlobals "_law_is_row" = some (some (.ref fLIsRow)))
    (lLIsRow : K.lookup fLIsRow = some ⟨ocLIsRow, odLIsRow, .func (PySem.W.fnOf "_law_is_row" "_law_is_row" (defArgs sLIsRow) (defBody sLIsRow) (defScope sLIsRow) .none kVLIsRow dcLIsRow pmLIsRow anLIsRow cdLIsRow ctLIsRow), slLIsRow⟩)
    (cLIsRow : PySem.W.codeIn K cdLIsRow "_law_is_row" = true)
    (kLIsRow : PySem.W.keepIn K (.ref fLIsRow) = true)
    (aLAreFacts : PySem.W.nsIn K mainGlobals "_law_are_facts" = some (some (.ref fLAreFacts)))
    (lLAreFacts : K.lookup fLAreFacts = some ⟨ocLAreFacts, odLAreFacts, .func (PySem.W.fnOf "_law_are_facts" "_law_are_facts" (defArgs sLAreFacts) (defBody sLAreFacts) (defScope sLAreFacts) .none kVLAreFacts dcLAreFacts pmLAreFacts anLAreFacts cdLAreFacts ctLAreFacts), slLAreFacts⟩)
    (cLAreFacts : PySem.W.codeIn K cdLAreFacts "_law_are_facts" = true)
    (kLAreFacts : PySem.W.keepIn K (.ref fLAreFacts) = true)
    (aIsField : PySem.W.nsIn K mainGlobals "_law_is_field" = some (some (.ref fIsField)))
    (lIsField : K.lookup fIsField = some ⟨ocIsField, odIsField, .func (PySem.W.fnOf "_law_is_field" "_law_is_field" (defArgs sIsField) (defBody sIsField) (defScope sIsField) .none kVIsField dcIsField pmIsField anIsField cdIsField ctIsField), slIsField⟩)
    (cIsField : PySem.W.codeIn K cdIsField "_law_is_field" = true)
    (kIsField : PySem.W.keepIn K (.ref fIsField) = true)
    (aCalled : PySem.W.nsIn K mainGlobals "_law_called" = some (some (.ref fCalled)))
    (lCalled : K.lookup fCalled = some ⟨ocCalled, odCalled, .func (PySem.W.fnOf "_law_called" "_law_called" (defArgs sCalled) (defBody sCalled) (defScope sCalled) .none kVCalled dcCalled pmCalled anCalled cdCalled ctCalled), slCalled⟩)
    (cCalled : PySem.W.codeIn K cdCalled "_law_called" = true)
    (kCalled : PySem.W.keepIn K (.ref fCalled) = true)
    (aLTold : PySem.W.nsIn K mainGlobals "_law_told" = some (some (.ref fLTold)))
    (lLTold : K.lookup fLTold = some ⟨ocLTold, odLTold, .func (PySem.W.fnOf "_law_told" "_law_told" (defArgs sLTold) (defBody sLTold) (defScope sLTold) .none kVLTold dcLTold pmLTold anLTold cdLTold ctLTold), slLTold⟩)
    (cLTold : PySem.W.codeIn K cdLTold "_law_told" = true)
    (kLTold : PySem.W.keepIn K (.ref fLTold) = true)
    (aOddPair : PySem.W.nsIn K mainGlobals "_law_odd_pair" = some (some (.ref fOddPair)))
    (lOddPair : K.lookup fOddPair = some ⟨ocOddPair, odOddPair, .func (PySem.W.fnOf "_law_odd_pair" "_law_odd_pair" (defArgs sOddPair) (defBody sOddPair) (defScope sOddPair) .none kVOddPair dcOddPair pmOddPair anOddPair cdOddPair ctOddPair), slOddPair⟩)
    (cOddPair : PySem.W.codeIn K cdOddPair "_law_odd_pair" = true)
    (kOddPair : PySem.W.keepIn K (.ref fOddPair) = true)
    (aOddFacts : PySem.W.nsIn K mainGlobals "_law_odd_facts" = some (some (.ref fOddFacts)))
    (lOddFacts : K.lookup fOddFacts = some ⟨ocOddFacts, odOddFacts, .func (PySem.W.fnOf "_law_odd_facts" "_law_odd_facts" (defArgs sOddFacts) (defBody sOddFacts) (defScope sOddFacts) .none kVOddFacts dcOddFacts pmOddFacts anOddFacts cdOddFacts ctOddFacts), slOddFacts⟩)
    (cOddFacts : PySem.W.codeIn K cdOddFacts "_law_odd_facts" = true)
    (kOddFacts : PySem.W.keepIn K (.ref fOddFacts) = true)
    (aThing : PySem.W.nsIn K mainGlobals "_law_thing" = some (some (.ref fThing)))
    (lThing : K.lookup fThing = some ⟨ocThing, odThing, .func (PySem.W.fnOf "_law_thing" "_law_thing" (defArgs sThing) (defBody sThing) (defScope sThing) .none kVThing dcThing pmThing anThing cdThing ctThing), slThing⟩)
    (cThing : PySem.W.codeIn K cdThing "_law_thing" = true)
    (kThing : PySem.W.keepIn K (.ref fThing) = true)
    (aRight : PySem.W.nsIn K mainGlobals "_law_right" = some (some (.ref fRight)))
    (lRight : K.lookup fRight = some ⟨ocRight, odRight, .func (PySem.W.fnOf "_law_right" "_law_right" (defArgs sRight) (defBody sRight) (defScope sRight) .none kVRight dcRight pmRight anRight cdRight ctRight), slRight⟩)
    (cRight : PySem.W.codeIn K cdRight "_law_right" = true)
    (kRight : PySem.W.keepIn K (.ref fRight) = true)
    (aLaw : PySem.W.nsIn K mainGlobals "law" = some (some (.ref fLaw)))
    (lLaw : K.lookup fLaw = some ⟨ocLaw, odLaw, .func (PySem.W.fnOf "law" "law" (defArgs sLaw) (defBody sLaw) (defScope sLaw) .none kVLaw dcLaw pmLaw anLaw cdLaw ctLaw), slLaw⟩)
    (cLaw : PySem.W.codeIn K cdLaw "law" = true)
    (kLaw : PySem.W.keepIn K (.ref fLaw) = true)
    (v_MOST_LETTERS : ∃ t, PySem.W.nsIn K mainGlobals "MOST_LETTERS" = some (some (.int 8 t)))
    (v_MOST_FIELDS : ∃ t, PySem.W.nsIn K mainGlobals "MOST_FIELDS" = some (some (.int 6 t)))
    (v_MOST_VALUES : ∃ t, PySem.W.nsIn K mainGlobals "MOST_VALUES" = some (some (.int 5 t)))
    (v_MOST_RULES : ∃ t, PySem.W.nsIn K mainGlobals "MOST_RULES" = some (some (.int 20 t)))
    (v_MOST_PAIRS : ∃ t, PySem.W.nsIn K mainGlobals "MOST_PAIRS" = some (some (.int 4 t)))
    (v_MOST_FILLINGS : ∃ t, PySem.W.nsIn K mainGlobals "MOST_FILLINGS" = some (some (.int 1000 t)))
    (y_combinations : PySem.W.nsIn K mainGlobals "combinations" = some (some (.type "itertools.combinations")))
    (z_isinstance : PySem.W.nsIn K mainGlobals "isinstance" = some none)
    (z_list : PySem.W.nsIn K mainGlobals "list" = some none)
    (z_tuple : PySem.W.nsIn K mainGlobals "tuple" = some none)
    (z_str : PySem.W.nsIn K mainGlobals "str" = some none)
    (z_len : PySem.W.nsIn K mainGlobals "len" = some none)
    (z_all : PySem.W.nsIn K mainGlobals "all" = some none)
    (z_set : PySem.W.nsIn K mainGlobals "set" = some none)
    (z_dict : PySem.W.nsIn K mainGlobals "dict" = some none)
    (z_int : PySem.W.nsIn K mainGlobals "int" = some none)
    (z_abs : PySem.W.nsIn K mainGlobals "abs" = some none)
    (z_range : PySem.W.nsIn K mainGlobals "range" = some none)
    (z_bool : PySem.W.nsIn K mainGlobals "bool" = some none)
    (z_min : PySem.W.nsIn K mainGlobals "min" = some none) :
    ∃ fd : FuncData, (∀ (s : Shared) (v : Value), BindsTo s fd ⟨[v], []⟩ [("script", v)]) ∧ ∀ base : Heap, K.In base → base.Ns mainGlobals mg → FnOk l.prog w K mg base CX0 10 fa fd ["script"] (spLaw K) := by
  have e := hfa.symm.trans (PySem.W.mg_of X G aLaw)
  cases e
  have t0 : XM.XcT K c0 i0 "at" "BadValue.__init__" := ⟨.inl rfl, ini0, ovr0, tkn0, sa0, ga0, gg0, no0, ic0, tc0, kc0, ex0, ty0, hd0, ⟨_, _, _, _, _, _, _, _, _, _, _, _, _, _, lc0, cc0X⟩⟩
  have q0 : XH.ClsQ K c0 := ⟨ga0, gg0, ex0, hd0, cc0, spG, tkG, mo0⟩
  have m_g0 := PySem.W.mg_of X G g0
  have t1 : XM.XcT K c1 i1 "name" "BadField.__init__" := ⟨.inr (.inl rfl), ini1, ovr1, tkn1, sa1, ga1, gg1, no1, ic1, tc1, kc1, ex1, ty1, hd1, ⟨_, _, _, _, _, _, _, _, _, _, _, _, _, _, lc1, cc1X⟩⟩
  have q1 : XH.ClsQ K c1 := ⟨ga1, gg1, ex1, hd1, cc1, spG, tkG, mo1⟩
  have m_g1 := PySem.W.mg_of X G g1
  have t2 : XM.XcT K c2 i2 "word" "TooMany.__init__" := ⟨.inr (.inr rfl), ini2, ovr2, tkn2, sa2, ga2, gg2, no2, ic2, tc2, kc2, ex2, ty2, hd2, ⟨_, _, _, _, _, _, _, _, _, _, _, _, _, _, lc2, cc2X⟩⟩
  have q2 : XH.ClsQ K c2 := ⟨ga2, gg2, ex2, hd2, cc2, spG, tkG, mo2⟩
  have m_g2 := PySem.W.mg_of X G g2
  have m_gB := PySem.W.mg_of X G gB
  have m_gF := PySem.W.mg_of X G gF
  have clF : Cls K cF := ⟨pgF, hdF, poF, saF⟩
  have mkF' : Mk K cF fInit := ⟨mkF, aInit, fn_of_ty tInit, kF⟩
  have FInit := fun_mk (st := sInit) lInit cInit kInit
  have bInit := FInit.binds (ps := ["self", "fields", "rules"]) fun _ _ _ _ _ _ us hl => match us, hl with | [_, _, _], _ => rfl
  have meInit : Meth K cF "__init__" fInit := ⟨aInit, fn_of_ty tInit, kInit⟩
  have FFieldsM := fun_mk (st := sFieldsM) lFieldsM cFieldsM kFieldsM
  have bFieldsM := FFieldsM.binds (ps := ["self"]) fun _ _ _ _ _ _ us hl => match us, hl with | [_], _ => rfl
  have meFieldsM : Meth K cF "fields" fFieldsM := ⟨aFieldsM, fn_of_ty tFieldsM, kFieldsM⟩
  have FRulesM := fun_mk (st := sRulesM) lRulesM cRulesM kRulesM
  have bRulesM := FRulesM.binds (ps := ["self"]) fun _ _ _ _ _ _ us hl => match us, hl with | [_], _ => rfl
  have meRulesM : Meth K cF "rules" fRulesM := ⟨aRulesM, fn_of_ty tRulesM, kRulesM⟩
  have FEqM := fun_mk (st := sEqM) lEqM cEqM kEqM
  have bEqM := FEqM.binds (ps := ["self", "other"]) fun _ _ _ _ _ _ us hl => match us, hl with | [_, _], _ => rfl
  have meEqM : Meth K cF "__eq__" fEqM := ⟨aEqM, fn_of_ty tEqM, kEqM⟩
  have m_gT := PySem.W.mg_of X G gT
  have clT : Cls K cT := ⟨pgT, hdT, poT, saT⟩
  have mkT' : Mk K cT fTInit := ⟨mkT, aTInit, fn_of_ty tTInit, kT⟩
  have TT : Tc K mg cT := ⟨clT, nfT, nrT, nlT, m_gT⟩
  have FTInit := fun_mk (st := sTblInit) lTInit cTInit kTInit
  have bTInit := FTInit.binds (ps := ["self", "form"]) fun _ _ _ _ _ _ us hl => match us, hl with | [_, _], _ => rfl
  have meTInit : Meth K cT "__init__" fTInit := ⟨aTInit, fn_of_ty tTInit, kTInit⟩
  have FTFit := fun_mk (st := sTblFitting) lTFit cTFit kTFit
  have bTFit := FTFit.binds (ps := ["self", "facts"]) fun _ _ _ _ _ _ us hl => match us, hl with | [_, _], _ => rfl
  have meTFit : Meth K cT "fitting" fTFit := ⟨aTFit, fn_of_ty tTFit, kTFit⟩
  have FTClash := fun_mk (st := sTblClash) lTClash cTClash kTClash
  have bTClash := FTClash.binds (ps := ["self", "facts"]) fun _ _ _ _ _ _ us hl => match us, hl with | [_, _], _ => rfl
  have meTClash : Meth K cT "clash" fTClash := ⟨aTClash, fn_of_ty tTClash, kTClash⟩
  have FIsRow := fun_mk (st := sIsRow) lIsRow cIsRow kIsRow
  have bIsRow := FIsRow.binds (ps := ["thing"]) fun _ _ _ _ _ _ us hl => match us, hl with | [_], _ => rfl
  have mIsRow := PySem.W.mg_of X G aIsRow
  have FIsPair := fun_mk (st := sIsPair) lIsPair cIsPair kIsPair
  have bIsPair := FIsPair.binds (ps := ["thing"]) fun _ _ _ _ _ _ us hl => match us, hl with | [_], _ => rfl
  have mIsPair := PySem.W.mg_of X G aIsPair
  have FIsSmall := fun_mk (st := sIsSmall) lIsSmall cIsSmall kIsSmall
  have bIsSmall := FIsSmall.binds (ps := ["string"]) fun _ _ _ _ _ _ us hl => match us, hl with | [_], _ => rfl
  have mIsSmall := PySem.W.mg_of X G aIsSmall
  have FIsWord := fun_mk (st := sIsWord) lIsWord cIsWord kIsWord
  have bIsWord := FIsWord.binds (ps := ["thing"]) fun _ _ _ _ _ _ us hl => match us, hl with | [_], _ => rfl
  have mIsWord := PySem.W.mg_of X G aIsWord
  have FUnlike := fun_mk (st := sUnlike) lUnlike cUnlike kUnlike
  have bUnlike := FUnlike.binds (ps := ["things"]) fun _ _ _ _ _ _ us hl => match us, hl with | [_], _ => rfl
  have mUnlike := PySem.W.mg_of X G aUnlike
  have FAreFacts := fun_mk (st := sAreFacts) lAreFacts cAreFacts kAreFacts
  have bAreFacts := FAreFacts.binds (ps := ["fields", "facts"]) fun _ _ _ _ _ _ us hl => match us, hl with | [_, _], _ => rfl
  have mAreFacts := PySem.W.mg_of X G aAreFacts
  have FInSeq := fun_mk (st := sInSeq) lInSeq cInSeq kInSeq
  have bInSeq := FInSeq.binds (ps := ["fields", "facts"]) fun _ _ _ _ _ _ us hl => match us, hl with | [_, _], _ => rfl
  have mInSeq := PySem.W.mg_of X G aInSeq
  have FRowsThatFit := fun_mk (st := sRowsThatFit) lRowsThatFit cRowsThatFit kRowsThatFit
  have bRowsThatFit := FRowsThatFit.binds (ps := ["form", "facts"]) fun _ _ _ _ _ _ us hl => match us, hl with | [_, _], _ => rfl
  have mRowsThatFit := PySem.W.mg_of X G aRowsThatFit
  have FFillings := fun_mk (st := sFillings) lFillings cFillings kFillings
  have bFillings := FFillings.binds (ps := ["form", "facts"]) fun _ _ _ _ _ _ us hl => match us, hl with | [_, _], _ => rfl
  have mFillings := PySem.W.mg_of X G aFillings
  have FPossible := fun_mk (st := sPossible) lPossible cPossible kPossible
  have bPossible := FPossible.binds (ps := ["form", "facts", "field"]) fun _ _ _ _ _ _ us hl => match us, hl with | [_, _, _], _ => rfl
  have mPossible := PySem.W.mg_of X G aPossible
  have FTwoWays := fun_mk (st := sTwoWays) lTwoWays cTwoWays kTwoWays
  have bTwoWays := FTwoWays.binds (ps := ["form", "facts", "field"]) fun _ _ _ _ _ _ us hl => match us, hl with | [_, _, _], _ => rfl
  have mTwoWays := PySem.W.mg_of X G aTwoWays
  have FOpenFields := fun_mk (st := sOpenFields) lOpenFields cOpenFields kOpenFields
  have bOpenFields := FOpenFields.binds (ps := ["form", "facts"]) fun _ _ _ _ _ _ us hl => match us, hl with | [_, _], _ => rfl
  have mOpenFields := PySem.W.mg_of X G aOpenFields
  have FForced := fun_mk (st := sForced) lForced cForced kForced
  have bForced := FForced.binds (ps := ["form", "facts"]) fun _ _ _ _ _ _ us hl => match us, hl with | [_, _], _ => rfl
  have mForced := PySem.W.mg_of X G aForced
  have FClash := fun_mk (st := sClash) lClash cClash kClash
  have bClash := FClash.binds (ps := ["form", "facts"]) fun _ _ _ _ _ _ us hl => match us, hl with | [_, _], _ => rfl
  have mClash := PySem.W.mg_of X G aClash
  have FBars := fun_mk (st := sBars) lBars cBars kBars
  have bBars := FBars.binds (ps := ["form", "pair"]) fun _ _ _ _ _ _ us hl => match us, hl with | [_, _], _ => rfl
  have mBars := PySem.W.mg_of X G aBars
  have FOneStands := fun_mk (st := sOneStands) lOneStands cOneStands kOneStands
  have bOneStands := FOneStands.binds (ps := ["lots", "row"]) fun _ _ _ _ _ _ us hl => match us, hl with | [_, _], _ => rfl
  have mOneStands := PySem.W.mg_of X G aOneStands
  have FPlace := fun_mk (st := sPlace) lPlace cPlace kPlace
  have bPlace := FPlace.binds (ps := ["form", "field"]) fun _ _ _ _ _ _ us hl => match us, hl with | [_, _], _ => rfl
  have mPlace := PySem.W.mg_of X G aPlace
  have FValuesThere := fun_mk (st := sValuesThere) lValuesThere cValuesThere kValuesThere
  have bValuesThere := FValuesThere.binds (ps := ["form", "rows", "place"]) fun _ _ _ _ _ _ us hl => match us, hl with | [_, _, _], _ => rfl
  have mValuesThere := PySem.W.mg_of X G aValuesThere
  have FAllPossible := fun_mk (st := sAllPossible) lAllPossible cAllPossible kAllPossible
  have bAllPossible := FAllPossible.binds (ps := ["form", "facts"]) fun _ _ _ _ _ _ us hl => match us, hl with | [_, _], _ => rfl
  have mAllPossible := PySem.W.mg_of X G aAllPossible
  have FAreFields := fun_mk (st := sAreFields) lAreFields cAreFields kAreFields
  have bAreFields := FAreFields.binds (ps := ["fields"]) fun _ _ _ _ _ _ us hl => match us, hl with | [_], _ => rfl
  have mAreFields := PySem.W.mg_of X G aAreFields
  have FAreValues := fun_mk (st := sAreValues) lAreValues cAreValues kAreValues
  have bAreValues := FAreValues.binds (ps := ["values"]) fun _ _ _ _ _ _ us hl => match us, hl with | [_], _ => rfl
  have mAreValues := PySem.W.mg_of X G aAreValues
  have FAreRules := fun_mk (st := sAreRules) lAreRules cAreRules kAreRules
  have bAreRules := FAreRules.binds (ps := ["fields", "rules"]) fun _ _ _ _ _ _ us hl => match us, hl with | [_, _], _ => rfl
  have mAreRules := PySem.W.mg_of X G aAreRules
  have FWays := fun_mk (st := sWays) lWays cWays kWays
  have bWays := FWays.binds (ps := ["fields"]) fun _ _ _ _ _ _ us hl => match us, hl with | [_], _ => rfl
  have mWays := PySem.W.mg_of X G aWays
  have FEach := fun_mk (st := sEach) lEach cEach kEach
  have bEach := FEach.binds (ps := ["rules"]) fun _ _ _ _ _ _ us hl => match us, hl with | [_], _ => rfl
  have mEach := PySem.W.mg_of X G aEach
  have FTape := fun_mk (st := sTape) lTape cTape kTape
  have bTape := FTape.binds (ps := ["script"]) fun _ _ _ _ _ _ us hl => match us, hl with | [_], _ => rfl
  have mTape := PySem.W.mg_of X G aTape
  have FLoad := fun_mk (st := sLoad) lLoad cLoad kLoad
  have bLoad := FLoad.binds (ps := ["tape"]) fun _ _ _ _ _ _ us hl => match us, hl with | [_], _ => rfl
  have mLoad := PySem.W.mg_of X G aLoad
  have FDraw := fun_mk (st := sDraw) lDraw cDraw kDraw
  have bDraw := FDraw.binds (ps := ["tape", "many"]) fun _ _ _ _ _ _ us hl => match us, hl with | [_, _], _ => rfl
  have mDraw := PySem.W.mg_of X G aDraw
  have FNames := fun_mk (st := sNames) lNames cNames kNames
  have bNames := FNames.binds (ps := ["tape", "many"]) fun _ _ _ _ _ _ us hl => match us, hl with | [_, _], _ => rfl
  have mNames := PySem.W.mg_of X G aNames
  have FSame := fun_mk (st := sSame) lSame cSame kSame
  have bSame := FSame.binds (ps := ["actual", "due"]) fun _ _ _ _ _ _ us hl => match us, hl with | [_, _], _ => rfl
  have mSame := PySem.W.mg_of X G aSame
  have FModel := fun_mk (st := sModel) lModel cModel kModel
  have bModel := FModel.binds (ps := ["tape"]) fun _ _ _ _ _ _ us hl => match us, hl with | [_], _ => rfl
  have mModel := PySem.W.mg_of X G aModel
  have FChosen := fun_mk (st := sChosen) lChosen cChosen kChosen
  have bChosen := FChosen.binds (ps := ["tape", "things", "many"]) fun _ _ _ _ _ _ us hl => match us, hl with | [_, _, _], _ => rfl
  have mChosen := PySem.W.mg_of X G aChosen
  have FSheet := fun_mk (st := sSheet) lSheet cSheet kSheet
  have bSheet := FSheet.binds (ps := ["model"]) fun _ _ _ _ _ _ us hl => match us, hl with | [_], _ => rfl
  have mSheet := PySem.W.mg_of X G aSheet
  have FKnown := fun_mk (st := sKnown) lKnown cKnown kKnown
  have bKnown := FKnown.binds (ps := ["tape", "model"]) fun _ _ _ _ _ _ us hl => match us, hl with | [_, _], _ => rfl
  have mKnown := PySem.W.mg_of X G aKnown
  have FHanded := fun_mk (st := sHanded) lHanded cHanded kHanded
  have bHanded := FHanded.binds (ps := ["tape", "model", "known"]) fun _ _ _ _ _ _ us hl => match us, hl with | [_, _, _], _ => rfl
  have mHanded := PySem.W.mg_of X G aHanded
  have FLIsRow := fun_mk (st := sLIsRow) lLIsRow cLIsRow kLIsRow
  have bLIsRow := FLIsRow.binds (ps := ["thing"]) fun _ _ _ _ _ _ us hl => match us, hl with | [_], _ => rfl
  have mLIsRow := PySem.W.mg_of X G aLIsRow
  have FLAreFacts := fun_mk (st := sLAreFacts) lLAreFacts cLAreFacts kLAreFacts
  have bLAreFacts := FLAreFacts.binds (ps := ["model", "thing"]) fun _ _ _ _ _ _ us hl => match us, hl with | [_, _], _ => rfl
  have mLAreFacts := PySem.W.mg_of X G aLAreFacts
  have FIsField := fun_mk (st := sIsField) lIsField cIsField kIsField
  have bIsField := FIsField.binds (ps := ["model", "thing"]) fun _ _ _ _ _ _ us hl => match us, hl with | [_, _], _ => rfl
  have mIsField := PySem.W.mg_of X G aIsField
  have FCalled := fun_mk (st := sCalled) lCalled cCalled kCalled
  have bCalled := FCalled.binds (ps := ["way", "sheet", "handed", "name"]) fun _ _ _ _ _ _ us hl => match us, hl with | [_, _, _, _], _ => rfl
  have mCalled := PySem.W.mg_of X G aCalled
  have FLTold := fun_mk (st := sLTold) lLTold cLTold kLTold
  have bLTold := FLTold.binds (ps := ["way", "sheet", "handed", "name"]) fun _ _ _ _ _ _ us hl => match us, hl with | [_, _, _, _], _ => rfl
  have mLTold := PySem.W.mg_of X G aLTold
  have FOddPair := fun_mk (st := sOddPair) lOddPair cOddPair kOddPair
  have bOddPair := FOddPair.binds (ps := ["tape", "model", "pair"]) fun _ _ _ _ _ _ us hl => match us, hl with | [_, _, _], _ => rfl
  have mOddPair := PySem.W.mg_of X G aOddPair
  have FOddFacts := fun_mk (st := sOddFacts) lOddFacts cOddFacts kOddFacts
  have bOddFacts := FOddFacts.binds (ps := ["tape", "model"]) fun _ _ _ _ _ _ us hl => match us, hl with | [_, _], _ => rfl
  have mOddFacts := PySem.W.mg_of X G aOddFacts
  have FThing := fun_mk (st := sThing) lThing cThing kThing
  have bThing := FThing.binds (ps := ["tape", "model"]) fun _ _ _ _ _ _ us hl => match us, hl with | [_, _], _ => rfl
  have mThing := PySem.W.mg_of X G aThing
  have FRight := fun_mk (st := sRight) lRight cRight kRight
  have bRight := FRight.binds (ps := ["tape", "sheet", "model", "handed", "name"]) fun _ _ _ _ _ _ us hl => match us, hl with | [_, _, _, _, _], _ => rfl
  have mRight := PySem.W.mg_of X G aRight
  have FLaw := fun_mk (st := sLaw) lLaw cLaw kLaw
  have bLaw := FLaw.binds (ps := ["script"]) fun _ _ _ _ _ _ us hl => match us, hl with | [_], _ => rfl
  have mLaw := PySem.W.mg_of X G aLaw
  have m_MOST_LETTERS : ∃ t, mg "MOST_LETTERS" = some (.int 8 t) := by
    obtain ⟨t, h⟩ := v_MOST_LETTERS
    exact ⟨t, PySem.W.mg_of X G h⟩
  have m_MOST_FIELDS : ∃ t, mg "MOST_FIELDS" = some (.int 6 t) := by
    obtain ⟨t, h⟩ := v_MOST_FIELDS
    exact ⟨t, PySem.W.mg_of X G h⟩
  have m_MOST_VALUES : ∃ t, mg "MOST_VALUES" = some (.int 5 t) := by
    obtain ⟨t, h⟩ := v_MOST_VALUES
    exact ⟨t, PySem.W.mg_of X G h⟩
  have m_MOST_RULES : ∃ t, mg "MOST_RULES" = some (.int 20 t) := by
    obtain ⟨t, h⟩ := v_MOST_RULES
    exact ⟨t, PySem.W.mg_of X G h⟩
  have m_MOST_PAIRS : ∃ t, mg "MOST_PAIRS" = some (.int 4 t) := by
    obtain ⟨t, h⟩ := v_MOST_PAIRS
    exact ⟨t, PySem.W.mg_of X G h⟩
  have m_MOST_FILLINGS : ∃ t, mg "MOST_FILLINGS" = some (.int 1000 t) := by
    obtain ⟨t, h⟩ := v_MOST_FILLINGS
    exact ⟨t, PySem.W.mg_of X G h⟩
  have m_combinations := PySem.W.mg_of X G y_combinations
  have m_isinstance := PySem.W.mg_none_of X G z_isinstance
  have m_list := PySem.W.mg_none_of X G z_list
  have m_tuple := PySem.W.mg_none_of X G z_tuple
  have m_str := PySem.W.mg_none_of X G z_str
  have m_len := PySem.W.mg_none_of X G z_len
  have m_all := PySem.W.mg_none_of X G z_all
  have m_set := PySem.W.mg_none_of X G z_set
  have m_dict := PySem.W.mg_none_of X G z_dict
  have m_int := PySem.W.mg_none_of X G z_int
  have m_abs := PySem.W.mg_none_of X G z_abs
  have m_range := PySem.W.mg_none_of X G z_range
  have m_bool := PySem.W.mg_none_of X G z_bool
  have m_min := PySem.W.mg_none_of X G z_min
  have Tb : Bb mg := ⟨m_isinstance, m_list, m_tuple, m_str, m_len, m_all, m_set, m_dict, m_MOST_LETTERS⟩
  have Tm : Fm mg := ⟨m_MOST_FIELDS, m_MOST_VALUES, m_MOST_RULES, m_MOST_PAIRS, m_MOST_FILLINGS⟩
  have Tt : BtT mg := ⟨m_int, m_list, m_len, m_abs, m_range⟩
  have Ts : Bs mg := ⟨m_isinstance, m_tuple, m_list, m_len, m_all, m_range, m_str, m_bool, m_int⟩
  have R : Er K mg c0 c2 := ⟨⟨_, _, t0⟩, ⟨_, _, t2⟩, m_g0, m_g2⟩
  have Rv : Bv K mg c0 := ⟨⟨_, _, t0⟩, m_g0⟩
  have T : Fc K mg cF := ⟨clF, nfF, nrF, m_gF, m_isinstance, fun e => .ins e clF ccF spG tkG moF, kit_own isF tyF sFF sFF, data_all (kit_data isF tyF nNoneType) (fun _ => kit_data isF tyF nbool) (fun _ => kit_data isF tyF nint) (fun _ => kit_data isF tyF nstr) (fun _ => kit_data isF tyF nlist) (fun _ => kit_data isF tyF ntuple)⟩
  refine ⟨PySem.W.fnOf "law" "law" (defArgs sLaw) (defBody sLaw) (defScope sLaw) .none kVLaw dcLaw pmLaw anLaw cdLaw ctLaw, fun s v => .of_eq rfl, fun base _ _ => ?_⟩
  have GIsRow := ok_isrow (P := l.prog) (w := w) (base := base) FIsRow Tb
  have KIsRow : Kn l.prog w K mg base _ _ _ _ := ⟨fIsRow, _, GIsRow, FIsRow.kp, bIsRow, mIsRow⟩
  have GIsPair := ok_ispair FIsPair Tb GIsRow FIsRow.kp bIsRow mIsRow
  have KIsPair : Kn l.prog w K mg base _ _ _ _ := ⟨fIsPair, _, GIsPair, FIsPair.kp, bIsPair, mIsPair⟩
  have GIsSmall := ok_issmall (P := l.prog) (w := w) (base := base) FIsSmall Tb
  have GIsWord := ok_isword FIsWord Tb GIsSmall FIsSmall.kp bIsSmall mIsSmall
  have GUnlike := ok_unlike FUnlike Tb GIsWord FIsWord.kp bIsWord mIsWord
  have KUnlike : Kn l.prog w K mg base _ _ _ _ := ⟨fUnlike, _, GUnlike, FUnlike.kp, bUnlike, mUnlike⟩
  have GAreFacts := ok_arefacts FAreFacts Tb GIsRow FIsRow.kp bIsRow mIsRow GIsPair FIsPair.kp bIsPair mIsPair
  have KAreFacts : Kn l.prog w K mg base _ _ _ _ := ⟨fAreFacts, _, GAreFacts, FAreFacts.kp, bAreFacts, mAreFacts⟩
  have KInSeq : Kn l.prog w K mg base _ _ _ _ := ⟨fInSeq, _, ok_inseq FInSeq Tb, FInSeq.kp, bInSeq, mInSeq⟩
  have KAreValues : Kn l.prog w K mg base _ _ _ _ := ⟨fAreValues, _, ok_arevalues FAreValues Tb Tm KIsRow KUnlike, FAreValues.kp, bAreValues, mAreValues⟩
  have KAreFields : Kn l.prog w K mg base _ _ _ _ := ⟨fAreFields, _, ok_arefields FAreFields Tb Tm KIsRow KIsPair KUnlike KAreValues, FAreFields.kp, bAreFields, mAreFields⟩
  have KAreRules : Kn l.prog w K mg base _ _ _ _ := ⟨fAreRules, _, ok_arerules FAreRules Tb Tm KIsRow KAreFacts, FAreRules.kp, bAreRules, mAreRules⟩
  have KWays : Kn l.prog w K mg base _ _ _ _ := ⟨fWays, _, ok_ways FWays Tb, FWays.kp, bWays, mWays⟩
  have KEach : Kn l.prog w K mg base _ _ _ _ := ⟨fEach, _, ok_each FEach Tb, FEach.kp, bEach, mEach⟩
  have GInit := ok_init FInit Tb Tm R clF nfF nrF KAreFields KAreRules KWays KEach KInSeq
  have GFieldsM := ok_fieldsM (P := l.prog) (w := w) (base := base) FFieldsM T
  have GRulesM := ok_rulesM (P := l.prog) (w := w) (base := base) FRulesM T
  have Zk : Fk l.prog w K mg base cF := ⟨T, ⟨_, _, GFieldsM, bFieldsM, meFieldsM⟩, ⟨_, _, GRulesM, bRulesM, meRulesM⟩⟩
  have KBars : Kn l.prog w K mg base _ _ _ _ := ⟨fBars, _, ok_bars FBars Zk, FBars.kp, bBars, mBars⟩
  have KOneStands : Kn l.prog w K mg base _ _ _ _ := ⟨fOneStands, _, ok_stands FOneStands m_all, FOneStands.kp, bOneStands, mOneStands⟩
  have KRowsThatFit : Kn l.prog w K mg base _ _ _ _ := ⟨fRowsThatFit, _, ok_rowsfit FRowsThatFit Zk m_dict m_tuple KBars KOneStands, FRowsThatFit.kp, bRowsThatFit, mRowsThatFit⟩
  have GFillings := ok_fillings FFillings Zk Rv KAreFacts KRowsThatFit
  have KG : Kx2 l.prog w K mg base 4 "fillings" (spFillings K cF c0) := ⟨_, _, GFillings, FFillings.kp, bFillings, mFillings, XW.kbn2 FFillings (fun _ _ _ _ _ _ _ _ => rfl)⟩
  have Bq : Bf K mg c1 := ⟨⟨_, _, t1⟩, m_g1⟩
  have GPlace := ok_place FPlace Zk Bq
  have KValuesThere : Kn l.prog w K mg base _ _ _ _ := ⟨fValuesThere, _, ok_vals FValuesThere Zk m_tuple, FValuesThere.kp, bValuesThere, mValuesThere⟩
  have GPossible := ok_possible FPossible GFillings FFillings.kp bFillings mFillings GPlace FPlace.kp bPlace mPlace KValuesThere
  have KP : Kx3 l.prog w K mg base 5 "possible" (spPossible K cF c0 c1) := ⟨_, _, GPossible, FPossible.kp, bPossible, mPossible, XW.kbn3 FPossible (fun _ _ _ _ _ _ _ _ _ => rfl)⟩
  have GAll := ok_allP FAllPossible Zk m_range m_len GFillings FFillings.kp bFillings mFillings KValuesThere
  have GOpen := ok_open FOpenFields m_len m_tuple GAll FAllPossible.kp bAllPossible mAllPossible
  have KO : Kx2 l.prog w K mg base 6 "open_fields" (spOpen K cF c0) := ⟨_, _, GOpen, FOpenFields.kp, bOpenFields, mOpenFields, XW.kbn2 FOpenFields (fun _ _ _ _ _ _ _ _ => rfl)⟩
  have GTwo := ok_two FTwoWays GFillings FFillings.kp bFillings mFillings GPlace FPlace.kp bPlace mPlace
  have KW : Kx3 l.prog w K mg base 5 "two_ways" (spTwo K cF c0 c1) := ⟨_, _, GTwo, FTwoWays.kp, bTwoWays, mTwoWays, XW.kbn3 FTwoWays (fun _ _ _ _ _ _ _ _ _ => rfl)⟩
  have GForced := ok_forced FForced m_len m_tuple GAll FAllPossible.kp bAllPossible mAllPossible
  have KFo : Kx2 l.prog w K mg base 6 "forced" (spForced K cF c0) := ⟨_, _, GForced, FForced.kp, bForced, mForced, XW.kbn2 FForced (fun _ _ _ _ _ _ _ _ => rfl)⟩
  have GTInit := ok_tinit FTInit TT Zk m_range m_len KRowsThatFit
  have GTFit := ok_tfit (P := l.prog) (w := w) (base := base) FTFit TT m_len
  have GTClash := ok_tclash FTClash TT m_range m_len m_list m_tuple m_combinations GTFit bTFit meTFit
  have TK : Tk l.prog w K mg base cF cT := ⟨TT, ⟨_, _, mkT', GTInit, bTInit⟩, ⟨_, _, GTClash, bTClash, meTClash⟩⟩
  have GClash := ok_clash FClash Zk Rv TK KAreFacts KInSeq
  have KC : Kx2 l.prog w K mg base 6 "clash" (spClash K cF c0) := ⟨_, _, GClash, FClash.kp, bClash, mClash, XW.kbn2 FClash (fun _ _ _ _ _ _ _ _ => rfl)⟩
  have KTape : Kn l.prog w K mg base _ _ _ _ := ⟨fTape, _, ok_tape FTape Tt, FTape.kp, bTape, mTape⟩
  have KDraw : Kn l.prog w K mg base _ _ _ _ := ⟨fDraw, _, ok_drawT FDraw Tt FLoad bLoad mLoad, FDraw.kp, bDraw, mDraw⟩
  have KNames : Kn l.prog w K mg base _ _ _ _ := ⟨fNames, _, ok_names FNames Tt KDraw, FNames.kp, bNames, mNames⟩
  have KSame : Kn l.prog w K mg base _ _ _ _ := ⟨fSame, _, same_all FSame Ts bSame mSame 5, FSame.kp, bSame, mSame⟩
  have KChosen : Kn l.prog w K mg base _ _ _ _ := ⟨fChosen, _, ok_chosen FChosen Tt m_min KDraw, FChosen.kp, bChosen, mChosen⟩
  have KModel : Kn l.prog w K mg base _ _ _ _ := ⟨fModel, _, ok_model FModel Tt m_tuple KDraw KNames KChosen, FModel.kp, bModel, mModel⟩
  have KSheet : Kn l.prog w K mg base _ _ _ _ := ⟨fSheet, _, ok_sheet FSheet T mkF' GInit bInit, FSheet.kp, bSheet, mSheet⟩
  have KKnown : Kn l.prog w K mg base _ _ _ _ := ⟨fKnown, _, ok_knownN FKnown Tt KDraw KChosen, FKnown.kp, bKnown, mKnown⟩
  have KHanded : Kn l.prog w K mg base _ _ _ _ := ⟨fHanded, _, ok_handedB FHanded Tt m_tuple KDraw, FHanded.kp, bHanded, mHanded⟩
  have KLIsRow : Kn l.prog w K mg base _ _ _ _ := ⟨fLIsRow, _, ok_lisrow FLIsRow Ts, FLIsRow.kp, bLIsRow, mLIsRow⟩
  have KLAreFacts : Kn l.prog w K mg base _ _ _ _ := ⟨fLAreFacts, _, ok_lare FLAreFacts Ts KLIsRow, FLAreFacts.kp, bLAreFacts, mLAreFacts⟩
  have KIsField : Kn l.prog w K mg base _ _ _ _ := ⟨fIsField, _, ok_isfield FIsField Ts, FIsField.kp, bIsField, mIsField⟩
  have Er_ : Er6 K mg c0 c1 cB := ⟨⟨_, _, t0⟩, ⟨_, _, t1⟩, m_g0, m_g1, m_gB, PySem.W.exm_ref ex0 hd0 ty0 s00, PySem.W.exm_ref ex0 hd0 ty0 s10, PySem.W.exm_ref ex1 hd1 ty1 s11, kit_own isB tyB sB0 sBB, kit_own is1 ty1 s01 s11, kit_own isB tyB sB1 sBB, kit_own is0 ty0 s10 s00, q0, q1⟩
  have GCalled := ok_called FCalled KG KP KW KO KFo KC
  have KLTold : Kn l.prog w K mg base _ _ _ _ := ⟨fLTold, _, ok_ltold FLTold Er_ m_isinstance GCalled FCalled.kp bCalled mCalled, FLTold.kp, bLTold, mLTold⟩
  have KOddPair : Kn l.prog w K mg base _ _ _ _ := ⟨fOddPair, _, ok_odd FOddPair m_len KDraw, FOddPair.kp, bOddPair, mOddPair⟩
  have KOddFacts : Kn l.prog w K mg base _ _ _ _ := ⟨fOddFacts, _, ok_oddf FOddFacts Tt m_tuple KDraw KKnown KHanded KOddPair, FOddFacts.kp, bOddFacts, mOddFacts⟩
  have KThing : Kn l.prog w K mg base _ _ _ _ := ⟨fThing, _, ok_thing FThing m_len KDraw, FThing.kp, bThing, mThing⟩
  have KRight : Kn l.prog w K mg base _ _ _ _ := ⟨fRight, _, ok_right6 FRight m_range KLAreFacts KIsField KLTold KSame, FRight.kp, bRight, mRight⟩
  exact ok_law FLaw Tt KTape KModel KSheet KDraw KKnown KHanded GCalled FCalled.kp bCalled mCalled KOddFacts KThing KRight KSame
theorem walk {l : PySem.W.OpenLaw} {q : Program} {loose : List Str} {XP : (Str → Option Value) → Heap → Prop} {YP : World → Heap → Prop} {d : DefRec} {K : Params → PySem.W.Frag} (hn : l.most = some 63) (hdf : d.params.defaults = [])
    (hY : ∀ (w : World) (h : Heap), YP w h → (K w.params).In h)
    (F : ∀ (w : World) (mg : Str → Option Value) (fa : Addr) (h : Heap), (K w.params).In h → h.Ns mainGlobals mg → mg d.name = some (.ref fa) →
      ∃ fd : FuncData, (∀ (s : Shared) (u : Value), BindsTo s fd ⟨[u], []⟩ [("script", u)]) ∧ ∀ base : Heap, (K w.params).In base → base.Ns mainGlobals mg → FnOk l.prog w (K w.params) mg base CX0 10 fa fd ["script"] (spLaw (K w.params))) :
    PySem.W.WalkO q loose XP YP l.row.toRowW d [] (fun f vs => PySem.call f vs) :=
  L2.walk_of (n := 63) (k := 10) (x := "script") (CX := fun _ => CX0) (sp := fun w => spLaw (K w.params)) hn (by decide) hdf ⟨rfl, by decide, by decide⟩ hY F (fun _ _ a ns hl _ hS => ⟨a, ns, rfl, hS, hl, fun _ => rfl⟩) fun _ _ _ _ _ z => z
end Q
set_option Elab.async false
open PySem PySem.W PyProof.Rows
set_option maxRecDepth 100000 in
set_option maxHeartbeats 0 in
theorem PySem.Challenge.cw_sayfill_k06_facts_refused_holds : PySem.Challenge.rw_sayfill_k06_facts_refused.Holds := by
  w_on; o_law; k_head; (case hw => w_witness2)
  k_fill
  refine Q.walk (l := PySem.Challenge.rw_sayfill_k06_facts_refused) rfl rfl (fun w h Y => PySem.W.kIn_of Y) ?zz_F
  case zz_F =>
    intro w mg fa h KX G hmg
    refine' Q.all_mk KX G hmg ?zz_g0 ?zz_ini0 ?zz_ovr0 ?zz_tkn0 ?zz_sa0 ?zz_ga0 ?zz_gg0 ?zz_no0 ?zz_ic0 ?zz_tc0 ?zz_kc0 ?zz_ex0 ?zz_ty0 ?zz_hd0 ?zz_is0 ?zz_cc0 ?zz_mo0 ?zz_lc0 ?zz_cc0X ?zz_s00 ?zz_s01 ?zz_s02 ?zz_sB0 ?zz_g1 ?zz_ini1 ?zz_ovr1 ?zz_tkn1 ?zz_sa1 ?zz_ga1 ?zz_gg1 ?zz_no1 ?zz_ic1 ?zz_tc1 ?zz_kc1 ?zz_ex1 ?zz_ty1 ?zz_hd1 ?zz_is1 ?zz_cc1 ?zz_mo1 ?zz_lc1 ?zz_cc1X ?zz_s10 ?zz_s11 ?zz_s12 ?zz_sB1 ?zz_g2 ?zz_ini2 ?zz_ovr2 ?zz_tkn2 ?zz_sa2 ?zz_ga2 ?zz_gg2 ?zz_no2 ?zz_ic2 ?zz_tc2 ?zz_kc2 ?zz_ex2 ?zz_ty2 ?zz_hd2 ?zz_is2 ?zz_cc2 ?zz_mo2 ?zz_lc2 ?zz_cc2X ?zz_s20 ?zz_s21 ?zz_s22 ?zz_sB2 ?zz_gB ?zz_exB ?zz_tyB ?zz_hdB ?zz_isB ?zz_sBB ?zz_spG ?zz_tkG ?zz_gF ?zz_pgF ?zz_hdF ?zz_poF ?zz_saF ?zz_nfF ?zz_nrF ?zz_ccF ?zz_moF ?zz_isF ?zz_tyF ?zz_sFF ?zz_mkF ?zz_kF ?zz_aInit ?zz_tInit ?zz_lInit ?zz_cInit ?zz_kInit ?zz_aFieldsM ?zz_tFieldsM ?zz_lFieldsM ?zz_cFieldsM ?zz_kFieldsM ?zz_aRulesM ?zz_tRulesM ?zz_lRulesM ?zz_cRulesM ?zz_kRulesM ?zz_aEqM ?zz_tEqM ?zz_lEqM ?zz_cEqM ?zz_kEqM ?zz_nNoneType ?zz_nbool ?zz_nint ?zz_nstr ?zz_nlist ?zz_ntuple ?zz_gT ?zz_pgT ?zz_hdT ?zz_poT ?zz_saT ?zz_nfT ?zz_nrT ?zz_nlT ?zz_mkT ?zz_kT ?zz_aTInit ?zz_tTInit ?zz_lTInit ?zz_cTInit ?zz_kTInit ?zz_aTFit ?zz_tTFit ?zz_lTFit ?zz_cTFit ?zz_kTFit ?zz_aTClash ?zz_tTClash ?zz_lTClash ?zz_cTClash ?zz_kTClash ?zz_aIsRow ?zz_lIsRow ?zz_cIsRow ?zz_kIsRow ?zz_aIsPair ?zz_lIsPair ?zz_cIsPair ?zz_kIsPair ?zz_aIsSmall ?zz_lIsSmall ?zz_cIsSmall ?zz_kIsSmall ?zz_aIsWord ?zz_lIsWord ?zz_cIsWord ?zz_kIsWord ?zz_aUnlike ?zz_lUnlike ?zz_cUnlike ?zz_kUnlike ?zz_aAreFacts ?zz_lAreFacts ?zz_cAreFacts ?zz_kAreFacts ?zz_aInSeq ?zz_lInSeq ?zz_cInSeq ?zz_kInSeq ?zz_aRowsThatFit ?zz_lRowsThatFit ?zz_cRowsThatFit ?zz_kRowsThatFit ?zz_aFillings ?zz_lFillings ?zz_cFillings ?zz_kFillings ?zz_aPossible ?zz_lPossible ?zz_cPossible ?zz_kPossible ?zz_aTwoWays ?zz_lTwoWays ?zz_cTwoWays ?zz_kTwoWays ?zz_aOpenFields ?zz_lOpenFields ?zz_cOpenFields ?zz_kOpenFields ?zz_aForced ?zz_lForced ?zz_cForced ?zz_kForced ?zz_aClash ?zz_lClash ?zz_cClash ?zz_kClash ?zz_aBars ?zz_lBars ?zz_cBars ?zz_kBars ?zz_aOneStands ?zz_lOneStands ?zz_cOneStands ?zz_kOneStands ?zz_aPlace ?zz_lPlace ?zz_cPlace ?zz_kPlace ?zz_aValuesThere ?zz_lValuesThere ?zz_cValuesThere ?zz_kValuesThere ?zz_aAllPossible ?zz_lAllPossible ?zz_cAllPossible ?zz_kAllPossible ?zz_aAreFields ?zz_lAreFields ?zz_cAreFields ?zz_kAreFields ?zz_aAreValues ?zz_lAreValues ?zz_cAreValues ?zz_kAreValues ?zz_aAreRules ?zz_lAreRules ?zz_cAreRules ?zz_kAreRules ?zz_aWays ?zz_lWays ?zz_cWays ?zz_kWays ?zz_aEach ?zz_lEach ?zz_cEach ?zz_kEach ?zz_aTape ?zz_lTape ?zz_cTape ?zz_kTape ?zz_aLoad ?zz_lLoad ?zz_cLoad ?zz_kLoad ?zz_aDraw ?zz_lDraw ?zz_cDraw ?zz_kDraw ?zz_aNames ?zz_lNames ?zz_cNames ?zz_kNames ?zz_aSame ?zz_lSame ?zz_cSame ?zz_kSame ?zz_aModel ?zz_lModel ?zz_cModel ?zz_kModel ?zz_aChosen ?zz_lChosen ?zz_cChosen ?zz_kChosen ?zz_aSheet ?zz_lSheet ?zz_cSheet ?zz_kSheet ?zz_aKnown ?zz_lKnown ?zz_cKnown ?zz_kKnown ?zz_aHanded ?zz_lHanded ?zz_cHanded ?zz_kHanded ?zz_aLIsRow ?zz_lLIsRow ?zz_cLIsRow ?zz_kLIsRow ?zz_aLAreFacts ?zz_lLAreFacts ?zz_cLAreFacts ?zz_kLAreFacts ?zz_aIsField ?zz_lIsField ?zz_cIsField ?zz_kIsField ?zz_aCalled ?zz_lCalled ?zz_cCalled ?zz_kCalled ?zz_aLTold ?zz_lLTold ?zz_cLTold ?zz_kLTold ?zz_aOddPair ?zz_lOddPair ?zz_cOddPair ?zz_kOddPair ?zz_aOddFacts ?zz_lOddFacts ?zz_cOddFacts ?zz_kOddFacts ?zz_aThing ?zz_lThing ?zz_cThing ?zz_kThing ?zz_aRight ?zz_lRight ?zz_cRight ?zz_kRight ?zz_aLaw ?zz_lLaw ?zz_cLaw ?zz_kLaw ?zz_v_MOST_LETTERS ?zz_v_MOST_FIELDS ?zz_v_MOST_VALUES ?zz_v_MOST_RULES ?zz_v_MOST_PAIRS ?zz_v_MOST_FILLINGS ?zz_y_combinations ?zz_z_isinstance ?zz_z_list ?zz_z_tuple ?zz_z_str ?zz_z_len ?zz_z_all ?zz_z_set ?zz_z_dict ?zz_z_int ?zz_z_abs ?zz_z_range ?zz_z_bool ?zz_z_min
    (case zz_g0 => k_is)
    (case zz_g1 => k_is)
    (case zz_g2 => k_is)
    (case zz_gB => k_is)
    (case zz_gF => k_is)
    (case zz_gT => k_is)
    (case zz_aIsRow => k_is)
    (case zz_aIsPair => k_is)
    (case zz_aIsSmall => k_is)
    (case zz_aIsWord => k_is)
    (case zz_aUnlike => k_is)
    (case zz_aAreFacts => k_is)
    (case zz_aInSeq => k_is)
    (case zz_aRowsThatFit => k_is)
    (case zz_aFillings => k_is)
    (case zz_aPossible => k_is)
    (case zz_aTwoWays => k_is)
    (case zz_aOpenFields => k_is)
    (case zz_aForced => k_is)
    (case zz_aClash => k_is)
    (case zz_aBars => k_is)
    (case zz_aOneStands => k_is)
    (case zz_aPlace => k_is)
    (case zz_aValuesThere => k_is)
    (case zz_aAllPossible => k_is)
    (case zz_aAreFields => k_is)
    (case zz_aAreValues => k_is)
    (case zz_aAreRules => k_is)
    (case zz_aWays => k_is)
    (case zz_aEach => k_is)
    (case zz_aTape => k_is)
    (case zz_aLoad => k_is)
    (case zz_aDraw => k_is)
    (case zz_aNames => k_is)
    (case zz_aSame => k_is)
    (case zz_aModel => k_is)
    (case zz_aChosen => k_is)
    (case zz_aSheet => k_is)
    (case zz_aKnown => k_is)
    (case zz_aHanded => k_is)
    (case zz_aLIsRow => k_is)
    (case zz_aLAreFacts => k_is)
    (case zz_aIsField => k_is)
    (case zz_aCalled => k_is)
    (case zz_aLTold => k_is)
    (case zz_aOddPair => k_is)
    (case zz_aOddFacts => k_is)
    (case zz_aThing => k_is)
    (case zz_aRight => k_is)
    (case zz_aLaw => k_is)
    (case zz_ini0 => first | kx_is | k_is)
    (case zz_ovr0 => first | kx_is | k_is)
    (case zz_tkn0 => k_is)
    (case zz_sa0 => k_is)
    (case zz_ga0 => k_is)
    (case zz_gg0 => k_is)
    (case zz_no0 => k_is)
    (case zz_ic0 => k_is)
    (case zz_tc0 => k_is)
    (case zz_kc0 => k_is)
    (case zz_ex0 => k_is)
    (case zz_ty0 => k_is)
    (case zz_hd0 => k_is)
    (case zz_is0 => k_is)
    (case zz_cc0 => k_is)
    (case zz_mo0 => k_is)
    (case zz_lc0 => k_is)
    (case zz_cc0X => k_is)
    (case zz_s00 => k_is)
    (case zz_s01 => k_is)
    (case zz_s02 => k_is)
    (case zz_sB0 => k_is)
    (case zz_ini1 => first | kx_is | k_is)
    (case zz_ovr1 => first | kx_is | k_is)
    (case zz_tkn1 => k_is)
    (case zz_sa1 => k_is)
    (case zz_ga1 => k_is)
    (case zz_gg1 => k_is)
    (case zz_no1 => k_is)
    (case zz_ic1 => k_is)
    (case zz_tc1 => k_is)
    (case zz_kc1 => k_is)
    (case zz_ex1 => k_is)
    (case zz_ty1 => k_is)
    (case zz_hd1 => k_is)
    (case zz_is1 => k_is)
    (case zz_cc1 => k_is)
    (case zz_mo1 => k_is)
    (case zz_lc1 => k_is)
    (case zz_cc1X => k_is)
    (case zz_s10 => k_is)
    (case zz_s11 => k_is)
    (case zz_s12 => k_is)
    (case zz_sB1 => k_is)
    (case zz_ini2 => first | kx_is | k_is)
    (case zz_ovr2 => first | kx_is | k_is)
    (case zz_tkn2 => k_is)
    (case zz_sa2 => k_is)
    (case zz_ga2 => k_is)
    (case zz_gg2 => k_is)
    (case zz_no2 => k_is)
    (case zz_ic2 => k_is)
    (case zz_tc2 => k_is)
    (case zz_kc2 => k_is)
    (case zz_ex2 => k_is)
    (case zz_ty2 => k_is)
    (case zz_hd2 => k_is)
    (case zz_is2 => k_is)
    (case zz_cc2 => k_is)
    (case zz_mo2 => k_is)
    (case zz_lc2 => k_is)
    (case zz_cc2X => k_is)
    (case zz_s20 => k_is)
    (case zz_s21 => k_is)
    (case zz_s22 => k_is)
    (case zz_sB2 => k_is)
    (case zz_exB => k_is)
    (case zz_tyB => k_is)
    (case zz_hdB => k_is)
    (case zz_isB => k_is)
    (case zz_sBB => k_is)
    (case zz_spG => k_is)
    (case zz_tkG => k_is)
    (case zz_pgF => k_is)
    (case zz_hdF => k_is)
    (case zz_poF => k_is)
    (case zz_saF => k_is)
    (case zz_nfF => k_is)
    (case zz_nrF => k_is)
    (case zz_ccF => k_is)
    (case zz_moF => k_is)
    (case zz_isF => k_is)
    (case zz_tyF => k_is)
    (case zz_sFF => k_is)
    (case zz_mkF => k_is)
    (case zz_kF => k_is)
    (case zz_aInit => k_is)
    (case zz_tInit => k_is)
    (case zz_lInit => k_is)
    (case zz_cInit => k_is)
    (case zz_kInit => k_is)
    (case zz_aFieldsM => k_is)
    (case zz_tFieldsM => k_is)
    (case zz_lFieldsM => k_is)
    (case zz_cFieldsM => k_is)
    (case zz_kFieldsM => k_is)
    (case zz_aRulesM => k_is)
    (case zz_tRulesM => k_is)
    (case zz_lRulesM => k_is)
    (case zz_cRulesM => k_is)
    (case zz_kRulesM => k_is)
    (case zz_aEqM => k_is)
    (case zz_tEqM => k_is)
    (case zz_lEqM => k_is)
    (case zz_cEqM => k_is)
    (case zz_kEqM => k_is)
    (case zz_nNoneType => k_is)
    (case zz_nbool => k_is)
    (case zz_nint => k_is)
    (case zz_nstr => k_is)
    (case zz_nlist => k_is)
    (case zz_ntuple => k_is)
    (case zz_pgT => k_is)
    (case zz_hdT => k_is)
    (case zz_poT => k_is)
    (case zz_saT => k_is)
    (case zz_nfT => k_is)
    (case zz_nrT => k_is)
    (case zz_nlT => k_is)
    (case zz_mkT => k_is)
    (case zz_kT => k_is)
    (case zz_aTInit => k_is)
    (case zz_tTInit => k_is)
    (case zz_lTInit => k_is)
    (case zz_cTInit => k_is)
    (case zz_kTInit => k_is)
    (case zz_aTFit => k_is)
    (case zz_tTFit => k_is)
    (case zz_lTFit => k_is)
    (case zz_cTFit => k_is)
    (case zz_kTFit => k_is)
    (case zz_aTClash => k_is)
    (case zz_tTClash => k_is)
    (case zz_lTClash => k_is)
    (case zz_cTClash => k_is)
    (case zz_kTClash => k_is)
    (case zz_lIsRow => k_is)
    (case zz_cIsRow => k_is)
    (case zz_kIsRow => k_is)
    (case zz_lIsPair => k_is)
    (case zz_cIsPair => k_is)
    (case zz_kIsPair => k_is)
    (case zz_lIsSmall => k_is)
    (case zz_cIsSmall => k_is)
    (case zz_kIsSmall => k_is)
    (case zz_lIsWord => k_is)
    (case zz_cIsWord => k_is)
    (case zz_kIsWord => k_is)
    (case zz_lUnlike => k_is)
    (case zz_cUnlike => k_is)
    (case zz_kUnlike => k_is)
    (case zz_lAreFacts => k_is)
    (case zz_cAreFacts => k_is)
    (case zz_kAreFacts => k_is)
    (case zz_lInSeq => k_is)
    (case zz_cInSeq => k_is)
    (case zz_kInSeq => k_is)
    (case zz_lRowsThatFit => k_is)
    (case zz_cRowsThatFit => k_is)
    (case zz_kRowsThatFit => k_is)
    (case zz_lFillings => k_is)
    (case zz_cFillings => k_is)
    (case zz_kFillings => k_is)
    (case zz_lPossible => k_is)
    (case zz_cPossible => k_is)
    (case zz_kPossible => k_is)
    (case zz_lTwoWays => k_is)
    (case zz_cTwoWays => k_is)
    (case zz_kTwoWays => k_is)
    (case zz_lOpenFields => k_is)
    (case zz_cOpenFields => k_is)
    (case zz_kOpenFields => k_is)
    (case zz_lForced => k_is)
    (case zz_cForced => k_is)
    (case zz_kForced => k_is)
    (case zz_lClash => k_is)
    (case zz_cClash => k_is)
    (case zz_kClash => k_is)
    (case zz_lBars => k_is)
    (case zz_cBars => k_is)
    (case zz_kBars => k_is)
    (case zz_lOneStands => k_is)
    (case zz_cOneStands => k_is)
    (case zz_kOneStands => k_is)
    (case zz_lPlace => k_is)
    (case zz_cPlace => k_is)
    (case zz_kPlace => k_is)
    (case zz_lValuesThere => k_is)
    (case zz_cValuesThere => k_is)
    (case zz_kValuesThere => k_is)
    (case zz_lAllPossible => k_is)
    (case zz_cAllPossible => k_is)
    (case zz_kAllPossible => k_is)
    (case zz_lAreFields => k_is)
    (case zz_cAreFields => k_is)
    (case zz_kAreFields => k_is)
    (case zz_lAreValues => k_is)
    (case zz_cAreValues => k_is)
    (case zz_kAreValues => k_is)
    (case zz_lAreRules => k_is)
    (case zz_cAreRules => k_is)
    (case zz_kAreRules => k_is)
    (case zz_lWays => k_is)
    (case zz_cWays => k_is)
    (case zz_kWays => k_is)
    (case zz_lEach => k_is)
    (case zz_cEach => k_is)
    (case zz_kEach => k_is)
    (case zz_lTape => k_is)
    (case zz_cTape => k_is)
    (case zz_kTape => k_is)
    (case zz_lLoad => k_is)
    (case zz_cLoad => k_is)
    (case zz_kLoad => k_is)
    (case zz_lDraw => k_is)
    (case zz_cDraw => k_is)
    (case zz_kDraw => k_is)
    (case zz_lNames => k_is)
    (case zz_cNames => k_is)
    (case zz_kNames => k_is)
    (case zz_lSame => k_is)
    (case zz_cSame => k_is)
    (case zz_kSame => k_is)
    (case zz_lModel => k_is)
    (case zz_cModel => k_is)
    (case zz_kModel => k_is)
    (case zz_lChosen => k_is)
    (case zz_cChosen => k_is)
    (case zz_kChosen => k_is)
    (case zz_lSheet => k_is)
    (case zz_cSheet => k_is)
    (case zz_kSheet => k_is)
    (case zz_lKnown => k_is)
    (case zz_cKnown => k_is)
    (case zz_kKnown => k_is)
    (case zz_lHanded => k_is)
    (case zz_cHanded => k_is)
    (case zz_kHanded => k_is)
    (case zz_lLIsRow => k_is)
    (case zz_cLIsRow => k_is)
    (case zz_kLIsRow => k_is)
    (case zz_lLAreFacts => k_is)
    (case zz_cLAreFacts => k_is)
    (case zz_kLAreFacts => k_is)
    (case zz_lIsField => k_is)
    (case zz_cIsField => k_is)
    (case zz_kIsField => k_is)
    (case zz_lCalled => k_is)
    (case zz_cCalled => k_is)
    (case zz_kCalled => k_is)
    (case zz_lLTold => k_is)
    (case zz_cLTold => k_is)
    (case zz_kLTold => k_is)
    (case zz_lOddPair => k_is)
    (case zz_cOddPair => k_is)
    (case zz_kOddPair => k_is)
    (case zz_lOddFacts => k_is)
    (case zz_cOddFacts => k_is)
    (case zz_kOddFacts => k_is)
    (case zz_lThing => k_is)
    (case zz_cThing => k_is)
    (case zz_kThing => k_is)
    (case zz_lRight => k_is)
    (case zz_cRight => k_is)
    (case zz_kRight => k_is)
    (case zz_lLaw => k_is)
    (case zz_cLaw => k_is)
    (case zz_kLaw => k_is)
    (case zz_v_MOST_LETTERS => exact ⟨_, by k_is⟩)
    (case zz_v_MOST_FIELDS => exact ⟨_, by k_is⟩)
    (case zz_v_MOST_VALUES => exact ⟨_, by k_is⟩)
    (case zz_v_MOST_RULES => exact ⟨_, by k_is⟩)
    (case zz_v_MOST_PAIRS => exact ⟨_, by k_is⟩)
    (case zz_v_MOST_FILLINGS => exact ⟨_, by k_is⟩)
    (case zz_y_combinations => k_is)
    (case zz_z_isinstance => k_is)
    (case zz_z_list => k_is)
    (case zz_z_tuple => k_is)
    (case zz_z_str => k_is)
    (case zz_z_len => k_is)
    (case zz_z_all => k_is)
    (case zz_z_set => k_is)
    (case zz_z_dict => k_is)
    (case zz_z_int => k_is)
    (case zz_z_abs => k_is)
    (case zz_z_range => k_is)
    (case zz_z_bool => k_is)
    (case zz_z_min => k_is)
