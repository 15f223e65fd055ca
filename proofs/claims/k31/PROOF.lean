import PyProof.Rows.All
import Wide.All
import OpenK.AllK
import Wide.FinOn
import HandS.ForMost
import HandS.Strs
import HandS.IsInst
import HandS.ForExc
import HandS.Walk
import HandS.Text
import HandS.TryOnly
import HandS.Dict
import HandS.Deep
import HandS.TryMany
import HandS.ExcCtx
import HandS.Hot
import HandS.HotCalls
import HandS.ExcField
import HandS.ExcIs
import KE.KExcInit
import HandS.DeepEq
import HandS.Wide
import HandS.Conv
import HandS.Style
import HandS.TupAny
import HandS.MakeKwOnly
import KE.KStrOpen
import HandS.DictComp
import PyProof.ListStr
import HandS.SetFor
import HandS.Defaults
import HandS.ExcOwn
import HandS.TupMul
import HandS.Ends
import PyProof.ReprRoads
import PyProof.ReprBulk
import PyProof.CallFns
import KE.KExcLine
import PySem.Challenge.RW_sayfill_k31_outcomes_and_settled_ones
set_option Elab.async false
set_option linter.all false
set_option maxRecDepth 100000
set_option maxHeartbeats 4000000
/-! dict(x): x a list, or a tuple that is kept as it was made; its pairs lists or tuples of two. And tuples kept so. -/
namespace XD
open PySem PySem.Spec PyProof.Rows L2
/-- a list or a tuple of just these -/
def IsPr (h : Heap) (b : Addr) (items : Array Value) : Prop := IsTup h b items ∨ h.IsList b items
theorem IsPr.lt {h : Heap} {b : Addr} {it : Array Value} (x : IsPr h b it) : b < h.objs.size := by
  rcases x with ⟨o, e, _⟩ | ⟨o, e, _⟩ <;> exact Heap.lt_size e
theorem IsPr.at {h h' : Heap} {b : Addr} {it : Array Value} (x : IsPr h b it) (k : ∀ o, h.get? b = some o → h'.get? b = some o) : IsPr h' b it := by
  rcases x with ⟨o, e, r⟩ | ⟨o, e, r⟩
  · exact .inl ⟨o, k _ e, r⟩
  · exact .inr ⟨o, k _ e, r⟩
structure Iter1 (prog : Program) (w : World) (A : Around) (I l : Addr) (items : Array Value) (St : Nat → Heap → Prop) : Prop where
  item : ∀ {i : Nat} {s : Shared} {x : Value} {Q : Option Value → Shared → Prop} {E : Value → Shared → Prop}, St i s.heap → items[i]? = some x →
    (∀ h', St (i + 1) h' → Heap.SameBut I s.heap h' → Q (some x) { s with heap := h' }) → wpAny (model prog w) A (pyNext (.ref I)) Q E s
  done : ∀ {i : Nat} {s : Shared} {Q : Option Value → Shared → Prop} {E : Value → Shared → Prop}, St i s.heap → items[i]? = none →
    (∀ h', Heap.ExtBut I s.heap h' → Q none { s with heap := h' }) → wpAny (model prog w) A (pyNext (.ref I)) Q E s
  keep : ∀ {i : Nat} {h h' : Heap}, St i h → (∀ b o, b = I ∨ b = l → h.get? b = some o → h'.get? b = some o) → St i h'
section
variable {prog : Program} {w : World} {A : Around} {E : Value → Shared → Prop}
theorem iter_list {I l : Addr} {items : Array Value} (hh : A.handled = none) (hne : l ≠ I) : Iter1 prog w A I l items (fun i h => h.IsListIter I l i ∧ h.IsList l items) where
  item := fun st hx hq => wpAny_pyNext_list_item st.1 st.2 hx fun h' it' same => hq h' ⟨it', st.2.extBut same.extBut hne⟩ same
  done := fun st hx hq => wpAny_pyNext_list_end hh st.1 st.2 hx hq
  keep := fun st k => ⟨st.1.at fun o e => k _ o (.inl rfl) e, st.2.at fun o e => k _ o (.inr rfl) e⟩
theorem iter_tup {I l : Addr} {items : Array Value} (hh : A.handled = none) (hne : l ≠ I) : Iter1 prog w A I l items (fun i h => h.IsTupleIter I l i ∧ h.IsTuple l items) where
  item := fun st hx hq => wpAny_pyNext_tuple_item st.1 st.2 hx fun h' it' same => hq h' ⟨it', st.2.extBut same.extBut hne⟩ same
  done := fun st hx hq => wpAny_pyNext_tuple_end hh st.1 st.2 hx hq
  keep := fun st k => ⟨st.1.at fun o e => k _ o (.inl rfl) e, by
    obtain ⟨o, e, r⟩ := st.2
    exact ⟨o, k _ o (.inr rfl) e, r⟩⟩
/-- the walk over the pairs, whatever walks -/
theorem pair_loop {R : Result → Shared → Prop} {S I l : Addr} {items : Array Value} {St : Nat → Heap → Prop} {res : Value} (W : Iter1 prog w A.in1 I l items St) (hSI : S ≠ I) (hSl : S ≠ l) :
    ∀ (rest : List (Key × Value)) (i : Nat) (acc : List (Key × Value)) (ix : Int) (t : Tok) (s : Shared), items.size = i + rest.length → acc.length + rest.length ≤ sizeLine →
      (∀ (j : Nat) (q : Key × Value), rest[j]? = some q → ∃ (b : Addr) (u : Value), items[i + j]? = some (.ref b) ∧ b ≠ S ∧ b ≠ I ∧ IsPr s.heap b #[u, q.2] ∧ keyIs q.1 u = true) →
      St i s.heap → s.heap.DictOf (mixKind prog w) S acc →
      (∀ h' tk, h'.DictOf (mixKind prog w) S (merged acc rest) → (∀ b o, b ≠ S → b ≠ I → s.heap.get? b = some o → h'.get? b = some o) → R (.ok (.ret res)) { s with heap := h', toks := tk }) →
      codeAny (model prog w) A (.builtin "dict.update.loop" ⟨[.ref S, .ref I, .int ix t, res], []⟩) R s := by
  intro rest
  induction rest with
  | nil =>
    intro i acc ix t s hsz hln ht st hm hR
    refine codeAny_builtin ud_entry ?_
    rw [Around.under_plainId ud_plain _]
    show wpAny _ A.in1 (pyNext (.ref I) >>= _) _ _ s
    refine wpAny_bind (W.done st (by first | exact Array.getElem?_eq_none (Nat.le_of_eq hsz) | (simp at hsz; simp; omega)) fun h' he => ?_)
    show wpAny _ A.in1 (Builtin.Dict.addKeywords S [] >>= _) _ _ _
    refine wpAny_bind (wpAny_pure (wpAny_pure ?_))
    exact hR h' s.toks (hm.extBut he hSI) fun b o _ hb e => he b o hb e
  | cons q rest ih =>
    intro i acc ix t s hsz hln ht st hm hR
    obtain ⟨b, u, hb, hbS, hbI, hpr, hk⟩ := ht 0 q rfl
    rw [List.length_cons] at hsz hln
    refine codeAny_builtin ud_entry ?_
    rw [Around.under_plainId ud_plain _]
    show wpAny _ A.in1 (pyNext (.ref I) >>= _) _ _ s
    refine wpAny_bind (W.item (x := .ref b) st (by simpa using hb) fun h1 st1 hs1 => ?_)
    have pr1 : IsPr h1 b #[u, q.2] := hpr.at fun o e => hs1.extBut b o hbI e
    have hm1 : h1.DictOf (mixKind prog w) S acc := hm.extBut hs1.extBut hSI
    show wpAny _ A.in1 (holding [Value.ref b] _ >>= _) _ _ _
    refine wpAny_bind (wpAny_holding ?_)
    refine wpAny_bind (wpAny_tryCatch ?_)
    unfold Builtin.Dict.pairItems
    -- behind the two items: the store, then the next turn
    have go : wpAny (model prog w) A.in1 (holding [u, q.2] (dictSet S u q.2)) (fun _ s' => ∀ (ix' : Int) (t' : Tok), codeAny (model prog w) A (.builtin "dict.update.loop" ⟨[.ref S, .ref I, .int ix' t', res], []⟩) R s') (fun e s' => R (.error e) s') { s with heap := h1 } := by
      refine wpAny_holding (wpAny_dictSet_pairs (knd := mixKind prog w) (k := q.1) hk hm1 (fun h2 hm2 hs2 => ?_) (by omega))
      intro ix' t'
      refine ih (i + 1) (stored acc q.1 q.2) ix' t' _ (show items.size = i + 1 + rest.length by omega) ?_ (fun j q' e => ?_) ?_ hm2 fun h' tk hd' k => ?_
      · have z := stored_length_le acc q.1 q.2
        omega
      · obtain ⟨b', u', hb', hbS', hbI', hp', hk'⟩ := ht (j + 1) q' (by simpa using e)
        refine ⟨b', u', ?_, hbS', hbI', (hp'.at fun o e => hs1.extBut b' o hbI' e).at fun o e => hs2.extBut b' o hbS' e, hk'⟩
        rw [show i + 1 + j = i + (j + 1) by omega]
        exact hb'
      · exact W.keep st1 fun c o hc e => hs2.extBut c o (by rcases hc with rfl | rfl; exact Ne.symm hSI; exact Ne.symm hSl) e
      · exact hR h' tk hd' fun c oc h3 h4 e => k c oc h3 h4 (hs2.extBut c oc h3 (hs1.extBut c oc h4 e))
    rcases pr1 with ⟨o, ho, hc, n, hd⟩ | ⟨o, ho, hc, n, hd⟩
    · refine wpAny_bind (wpAny_typeOf (T := "tuple") ⟨o, ho, hc⟩ ?_)
      rw [if_pos (by first | decide | rfl | simp)]
      refine wpAny_bind (wpAny_seqItems ho hd (wpAny_pure ?_))
      show wpAny _ A.in1 (holding [u, q.2] (dictSet S u q.2)) _ _ _
      exact wpAny_mono go (fun _ s' z => wpAny_pure ⟨plainId_quiet ud_plain _, z _ _⟩) fun _ _ z => z
    · refine wpAny_bind (wpAny_typeOf (T := "list") ⟨o, ho, hc⟩ ?_)
      rw [if_pos (by first | decide | rfl | simp)]
      refine wpAny_bind (wpAny_seqItems ho hd (wpAny_pure ?_))
      show wpAny _ A.in1 (holding [u, q.2] (dictSet S u q.2)) _ _ _
      exact wpAny_mono go (fun _ s' z => wpAny_pure ⟨plainId_quiet ud_plain _, z _ _⟩) fun _ _ z => z
theorem tuple_no_keys : typeLookup (.type "tuple") "keys" = pure none := am_miss_of_fast (by first | decide +kernel | rfl)
/-- a tuple has no attribute 'keys' -/
theorem miss_tuple {s : Shared} {a : Addr} {o : Obj} {xs : Array Value} {k : Nat} {Q : Option Value → Shared → Prop} (hx : s.heap.get? a = some o) (hc : o.cls = .type "tuple") (hdat : o.data = .seq xs k) (hd : o.dict = none) (hA : A.handled = none)
    (h : ∀ h' tk, (∀ b ob, s.heap.get? b = some ob → h'.get? b = some ob) → Q none { s with heap := h', toks := tk }) : wpAny (model prog w) A (getAttr? (.ref a) "keys") Q E s := by
  obtain ⟨c, dct, dat, sl⟩ := o
  simp only at hc hdat hd
  subst hc hdat hd
  obtain ⟨hp, g, d, tk, os⟩ := s
  have hT : ∀ tk', (⟨hp, g, d, tk', os⟩ : Shared).TypeIs (.ref a) "tuple" := fun _ => ⟨_, hx, rfl⟩
  have hmiss := tuple_no_keys
  have hname : (["__module__", "__name__", "__qualname__", "__doc__", "__annotations__"] : List Str).contains "keys" = false := by decide +kernel
  have hsz : ("keys" : Str).length + 100 ≤ sizeLine := by first | size_fits | decide +kernel
  have f1 := sub_AttributeError
  have f3 := PySem.F.slot_tuple_getattribute.lookup
  have f4 := PySem.F.slot_tuple_getattribute.bind (.ref a)
  have f5 := am_tuple_getattr_none
  unfold getAttr? getAttrBy? getAttrBy
  repeat (any_goals (first | assumption | exact hT _ | ((with_reducible show wpAny _ _ (call (Value.builtin "tuple.__getattribute__") _ _) _ _ _); refine call_meets PySem.F.slot_tuple_getattribute (hT _) am_entry_tuple_getattribute (PySem.F.args_tuple_getattribute_2 _ _) (meets_getattribute_miss_tuple a xs k sl "keys" _ hmiss hname hsz) ⟨hx, hA, fun h' tk' e hx' => ?_⟩) | wp_step))
  obtain ⟨t', u', he⟩ := hx'.there
  show wpAny _ _ (getattributeRaised _ _ _ _ _ _ _) _ _ _
  unfold getattributeRaised
  repeat (any_goals (first | assumption | wp_step))
  all_goals first | exact h _ _ hx'.keeps | (dsimp only; repeat (any_goals (first | assumption | exact h _ _ hx'.keeps | wp_step)))
/-- dict(l), l a list or a tuple -/
theorem dict_pairs {s : Shared} {l : Addr} {ol : Obj} {items : Array Value} {n : Nat} {prs : List (Key × Value)} {Q : Value → Shared → Prop} (hh : A.handled = none) (hl : s.heap.get? l = some ol) (hc : ol.cls = .type "list" ∨ ol.cls = .type "tuple") (hd : ol.dict = none)
    (hdat : ol.data = .seq items n) (hsz : items.size = prs.length) (hln : prs.length ≤ sizeLine)
    (ht : ∀ (j : Nat) (q : Key × Value), prs[j]? = some q → ∃ (b : Addr) (u : Value), items[j]? = some (.ref b) ∧ IsPr s.heap b #[u, q.2] ∧ keyIs q.1 u = true)
    (h : ∀ h' tk, h'.DictOf (mixKind prog w) s.heap.objs.size (merged [] prs) → (∀ b o, s.heap.get? b = some o → h'.get? b = some o) → Q (.ref s.heap.objs.size) { s with heap := h', toks := tk }) :
    wpAny (model prog w) A (call (.type "dict") [.ref l]) Q E s := by
  refine callType_codes (Q₁ := fun obj s₁ => obj = .ref s.heap.objs.size ∧ s₁ = { s with heap := s.heap.push { cls := .type "dict", data := .dict #[] } }) PySem.F.kt_called_dict (PySem.F.kt_typeCall_dict_1 _) PySem.F.entry_dict_init (kt_code_dict_new _ ⟨rfl, rfl⟩) ?_
  rintro obj s₁ ⟨rfl, rfl⟩
  have hnew : (s.heap.push { cls := .type "dict", data := .dict #[] }).DictOf (mixKind prog w) s.heap.objs.size [] := Heap.DictOf.new s.heap
  have k0 : ∀ b o, s.heap.get? b = some o → (s.heap.push { cls := .type "dict", data := .dict #[] }).get? b = some o := fun b o e => Heap.get?_push_of_some _ e
  have lt : l < s.heap.objs.size := Heap.lt_size hl
  refine ⟨hnew.typeIs, PySem.F.args_dict_init_2 _ _, ?_⟩
  unfold Builtin.«dict.__init__»
  refine wpAny_bind ?_
  unfold Builtin.Dict.selfAndRest
  refine wpAny_bind (wpAny_notOrdered_dict hnew.typeIs ?_)
  show wpAny _ _ (pure (s.heap.objs.size, [Value.ref l])) _ _ _
  refine wpAny_pure ?_
  show wpAny _ _ (Builtin.Dict.updateFrom "dict.__init__" s.heap.objs.size (.ref l) [] .none) _ _ _
  unfold Builtin.Dict.updateFrom
  -- behind the question for 'keys': the iterator, then the walk
  have walk : ∀ {h1 : Heap} {tk1 : Nat} {I : Addr} {it : Obj} {St : Nat → Heap → Prop}, Iter1 prog w A.in1.in1 I l items St → (∀ b o, (s.heap.push { cls := .type "dict", data := .dict #[] }).get? b = some o → h1.get? b = some o) → I = h1.objs.size → St 0 (h1.push it) →
      codeAny (model prog w) A.in1 (.builtin "dict.update.loop" ⟨[.ref s.heap.objs.size, .ref I, .int 0 0, .none], []⟩) (wants (fun r s₂ => r = .none ∧ Q (.ref s.heap.objs.size) s₂) E) { s with heap := h1.push it, toks := tk1 } := by
    intro h1 tk1 I it St W k1 eI st
    have S1 : s.heap.objs.size < h1.objs.size := by
      have e : (s.heap.push { cls := .type "dict", data := .dict #[] }).get? s.heap.objs.size = some { cls := .type "dict", data := .dict #[] } := Heap.get?_push_size _ rfl
      exact Heap.lt_size (k1 _ _ e)
    have k2 : ∀ b o, s.heap.get? b = some o → (h1.push it).get? b = some o := fun b o e => Heap.get?_push_of_some _ (k1 _ _ (k0 _ _ e))
    subst eI
    refine pair_loop (A := A.in1) W (Nat.ne_of_lt S1) (Nat.ne_of_gt lt) prs 0 [] 0 0 { s with heap := h1.push it, toks := tk1 } (by rw [hsz, Nat.zero_add]) (by rw [List.length_nil, Nat.zero_add]; exact hln)
      (fun j q e => ?_) st ((hnew.at fun o e => k1 _ _ e).at fun o e => Heap.get?_push_of_some _ e) (fun h' tk hd' k => ?_)
    · obtain ⟨b, u, e1, e2, e3⟩ := ht j q e
      have hb : b < s.heap.objs.size := e2.lt
      exact ⟨b, u, by rw [Nat.zero_add]; exact e1, Nat.ne_of_lt hb, Nat.ne_of_lt (Nat.lt_trans hb S1), e2.at fun o z => k2 _ _ z, e3⟩
    · exact ⟨rfl, h h' tk hd' fun b o e => k b o (Nat.ne_of_lt (Heap.lt_size e)) (Nat.ne_of_lt (Nat.lt_trans (Heap.lt_size e) S1)) (k2 _ _ e)⟩
  rcases hc with hc | hc
  · refine wpAny_bind (wpAny_typeOf (T := "list") ⟨ol, k0 _ _ hl, hc⟩ ?_)
    rw [if_pos (by first | decide | rfl | simp)]
    refine wpAny_bind (miss_list (k0 _ _ hl) hc hdat hd hh fun h1 tk1 hk1 => ?_)
    rw [if_pos (show (none : Option Value).isNone = true from rfl)]
    refine wpAny_bind (wpAny_rule ?_)
    have hl1 : h1.IsList l items := ⟨ol, hk1 _ _ (k0 _ _ hl), hc, n, hdat⟩
    refine wpAny_bind (wpAny_pyIter_list hl1 ?_)
    have lt1 : l < h1.objs.size := by
      obtain ⟨o, e, _⟩ := hl1
      exact Heap.lt_size e
    have key := walk (tk1 := tk1) (it := { cls := .type "list_iterator", data := .fields #[.ref l, .int 0 0] }) (iter_list (A := A.in1.in1) hh (Nat.ne_of_lt lt1)) hk1 rfl ⟨⟨_, Heap.get?_push_size _ rfl, rfl, rfl⟩, hl1.at fun o e => Heap.get?_push_of_some _ e⟩
    first
      | exact wpAny_pure ⟨plainId_quiet ud_plain _, key⟩
      | exact wpAny_bind (wpAny_pure (wpAny_pure ⟨plainId_quiet ud_plain _, key⟩))
  · refine wpAny_bind (wpAny_typeOf (T := "tuple") ⟨ol, k0 _ _ hl, hc⟩ ?_)
    rw [if_pos (by first | decide | rfl | simp)]
    refine wpAny_bind (miss_tuple (k0 _ _ hl) hc hdat hd hh fun h1 tk1 hk1 => ?_)
    rw [if_pos (show (none : Option Value).isNone = true from rfl)]
    refine wpAny_bind (wpAny_rule ?_)
    have hl1 : h1.IsTuple l items := ⟨ol, hk1 _ _ (k0 _ _ hl), hc, n, hdat⟩
    refine wpAny_bind (wpAny_pyIter_tuple hl1 ?_)
    have lt1 : l < h1.objs.size := by
      obtain ⟨o, e, _⟩ := hl1
      exact Heap.lt_size e
    have key := walk (tk1 := tk1) (it := { cls := .type "tuple_iterator", data := .fields #[.ref l, .int 0 0] }) (iter_tup (A := A.in1.in1) hh (Nat.ne_of_lt lt1)) hk1 rfl ⟨⟨_, Heap.get?_push_size _ rfl, rfl, rfl⟩, by
      obtain ⟨o, e, r⟩ := hl1
      exact ⟨o, Heap.get?_push_of_some _ e, r⟩⟩
    first
      | exact wpAny_pure ⟨plainId_quiet ud_plain _, key⟩
      | exact wpAny_bind (wpAny_pure (wpAny_pure ⟨plainId_quiet ud_plain _, key⟩))
end
end XD

namespace XD
open PySem PySem.Spec PyProof.Rows L2
/-- a tuple that is kept as it was made: it has no dict of its own -/
def SqZ (H : Hp) (a : Addr) (xs : List V) : Prop := ∃ o : Obj, H a = some (.frz o (.tup xs)) ∧ o.dict = none
theorem SqZ.sqT {K : PySem.W.Frag} {H : Hp} {a : Addr} {xs : List V} (h : SqZ H a xs) : SqT K H a xs := by
  obtain ⟨o, e, _⟩ := h
  exact .inl (.inr ⟨o, e⟩)
theorem SqZ.same {H H' : Hp} {a : Addr} {xs : List V} (h : SqZ H a xs) (s : ∀ b o, H b = some o → H' b = some o) : SqZ H' a xs := by
  obtain ⟨o, e, d⟩ := h
  exact ⟨o, s _ _ e, d⟩
section
variable {X : Cx}
theorem prs_of {pins : List (Addr × Obj)} {σ : L2.St} {H : Hp} {s : Shared} (I : Inv X pins σ H s) : ∀ {ps : List Addr} {kvs : List (Key × V)}, Paired (fun p kv => SqT X.K H p [kV kv.1, kv.2] ∨ SqL X.K H p [kV kv.1, kv.2]) ps kvs →
    ∃ prs : List (Key × Value), KV kvs prs ∧ prs.length = ps.length ∧ ∀ (j : Nat) (q : Key × Value), prs[j]? = some q → ∃ (b : Addr) (u : Value), ps[j]? = some b ∧ IsPr s.heap b #[u, q.2] ∧ keyIs q.1 u = true
  | _, _, .nil => ⟨[], .nil, rfl, fun j q e => by simp at e⟩
  | _, _, .cons (a := p) (b := kv) h t => by
    obtain ⟨prs, r, hl, hp⟩ := prs_of I t
    obtain ⟨u, y, ru, ry, ht⟩ : ∃ u y, RelV (kV kv.1) u ∧ RelV kv.2 y ∧ IsPr s.heap p #[u, y] := by
      rcases h with h | h
      · obtain ⟨its, rv, ht, _⟩ := I.tuple h
        obtain ⟨u, y, ei, ru, ry⟩ := vals2 rv
        subst ei
        exact ⟨u, y, ru, ry, .inl ht⟩
      · obtain ⟨its, rv, ht, _⟩ := I.list h
        obtain ⟨u, y, ei, ru, ry⟩ := vals2 rv
        subst ei
        exact ⟨u, y, ru, ry, .inr ht.isList⟩
    refine ⟨(kv.1, y) :: prs, .cons ⟨rfl, ry⟩ r, by rw [List.length_cons, List.length_cons, hl], fun j q e => ?_⟩
    cases j with
    | zero =>
      have e' : (kv.1, y) = q := Option.some.inj e
      subst e'
      exact ⟨p, u, rfl, ht, kV_is (P := X.prog) (w := X.w) ru⟩
    | succ j =>
      obtain ⟨b, u', e1, e2, e3⟩ := hp j q (by simpa using e)
      exact ⟨b, u', by simpa using e1, e2, e3⟩
def rDictZ (K : PySem.W.Frag) : List V → Hp → VK → Prop := fun xs H Q => ∃ (a : Addr) (ps : List Addr) (kvs : List (Key × V)), xs = [.ref a] ∧ (SqL K H a (ps.map V.ref) ∨ SqZ H a (ps.map V.ref)) ∧
  Paired (fun p kv => SqT K H p [kV kv.1, kv.2] ∨ SqL K H p [kV kv.1, kv.2]) ps kvs ∧ ∀ p, H p = none → Q (.ref p) (upd H p (.dK (mergeK [] kvs)))
/-- dict(xs) of a list or a kept tuple of pairs -/
theorem call_dictZ (hcalm : X.calm = true) : CallR X (.type "dict") (rDictZ X.K) := by
  intro pins s σ H xs us Q I r q
  obtain ⟨a, ps, kvs, rfl, hq, hp, q⟩ := q
  obtain ⟨u, rfl, rx⟩ := vals1 r
  cases rx
  obtain ⟨prs, rel, hl, hpr⟩ := prs_of I hp
  obtain ⟨o, n, ho, hc, hd, hdat, hz⟩ : ∃ (o : Obj) (n : Nat), s.heap.get? a = some o ∧ (o.cls = .type "list" ∨ o.cls = .type "tuple") ∧ o.dict = none ∧ o.data = .seq (ps.map Value.ref).toArray n ∧ ps.length ≤ sizeLine := by
    rcases hq with hq | ⟨o, e, hd⟩
    · obtain ⟨its, rv, pl, hz⟩ := I.list hq
      have ei := refs_at rv
      subst ei
      obtain ⟨o, n, ho, hc, hd, hdat⟩ := pl
      exact ⟨o, n, ho, .inl hc, hd, hdat, by rw [List.length_map] at hz; exact hz⟩
    · have ok : ObjOk X.prog X.w H s.heap a (.frz o (.tup (ps.map V.ref))) := I.hok a _ e
      obtain ⟨ho, hz, its, rv, o2, ho2, hc, n, hdat⟩ := ok
      rw [ho] at ho2
      cases ho2
      have ei := refs_at rv
      subst ei
      exact ⟨o, n, ho, .inr hc, hd, hdat, by rw [List.length_map] at hz; exact hz⟩
  refine dict_pairs (prs := prs) (I.ok.hd hcalm) ho hc hd hdat (by simp [hl]) (by rw [hl]; exact hz) (fun j q' e => ?_) fun h' tk hd' k => ?_
  · obtain ⟨b, u, e1, e2, e3⟩ := hpr j q' e
    exact ⟨b, u, by simp [e1], e2, e3⟩
  · have hm : (s.heap.objs.size == sysModules) = false := beq_eq_false_iff_ne.mpr (Nat.ne_of_gt I.big)
    have hlen : (mergeK [] kvs).length ≤ sizeLine := by
      refine Nat.le_trans (length_mergeK kvs []) ?_
      rw [List.length_nil, Nat.zero_add, rel.length, hl]
      exact hz
    exact ⟨.ref s.heap.objs.size, upd H s.heap.objs.size (.dK (mergeK [] kvs)), I.laid (t' := tk) k (Nat.le_refl _) (show ObjOk X.prog X.w _ _ _ (.dK (mergeK [] kvs)) from ⟨hlen, hm, merged [] prs, KV.merge rel .nil, hd'⟩), rfl, q _ (I.hok.fresh (Nat.le_refl _))⟩
/-- tuple(xs) of a list: a tuple that is kept; of a tuple: itself -/
def rTupZ (K : PySem.W.Frag) : List V → Hp → VK → Prop := fun xs H Q => ∃ (p : Addr) (ys : List V), xs = [.ref p] ∧
  ((SqL K H p ys ∧ ∀ l o, H l = none → o.dict = none → Q (.ref l) (upd H l (.frz o (.tup ys)))) ∨ (SqT K H p ys ∧ Q (.ref p) H))
theorem call_tupZ : CallR X (.type "tuple") (rTupZ X.K) := by
  intro pins s σ H xs us Q I r h
  obtain ⟨p, ys, rfl, h⟩ := h
  obtain ⟨u, rfl, rx⟩ := vals1 r
  cases rx
  rcases h with ⟨hq, q⟩ | ⟨hq, q⟩
  · obtain ⟨its, r', pl, hz⟩ := I.list hq
    have hlen := r'.length
    refine call_tuple_list pl.isList (fun h' kp => ?_) (by simp only [List.size_toArray] <;> omega)
    have I1 : Inv X pins σ H { s with heap := h' } := I.kept (t' := s.toks) kp
    have I2 : Inv X pins σ (upd H h'.objs.size (.frz { cls := .type "tuple", data := .seq its.toArray } (.tup ys))) { s with heap := h'.push { cls := .type "tuple", data := .seq its.toArray } } :=
      I1.laid (t' := s.toks) (fun b o e => Heap.get?_push_of_some _ e) (Nat.le_refl _) (show ObjOk X.prog X.w _ _ _ (.frz _ (.tup ys)) from ⟨Heap.get?_push_size _ rfl, hz, its, r', IsTup.new _ _⟩)
    exact ⟨.ref h'.objs.size, _, I2, rfl, q _ _ (I1.hok.fresh (Nat.le_refl _)) rfl⟩
  · obtain ⟨its, r', pl, hz⟩ := I.tuple hq
    exact call_tuple_same pl ⟨.ref p, H, I, rfl, q⟩
/-- a written tuple, kept as it is made -/
def tTupZ (t : TA) : TE := fun σ H Q => t σ H fun xs H1 => xs.length ≤ sizeLine ∧ ∀ p o, H1 p = none → o.dict = none → Q (.ref p) (upd H1 p (.frz o (.tup xs)))
theorem pe_tupZ {es : List Expr} {t : TA} {x1 : Nat} {pos : Pos} (h : PA X es t) : PE X (.Tuple es x1 pos) (tTupZ t) := by
  refine ⟨fun pins s σ H Q I hq => ?_⟩
  refine wpAny_Tuple_spliced (thn (h.run pos pins s σ H _ I hq) fun us s1 ⟨xs, H1, I1, r, z, q⟩ => ⟨by rw [← r.length]; exact z, ?_⟩)
  have hf : H1 s1.heap.objs.size = none := I1.hok.fresh (Nat.le_refl _)
  refine ⟨.ref s1.heap.objs.size, upd H1 s1.heap.objs.size (.frz { cls := .type "tuple", data := .seq us.toArray } (.tup xs)), I1.laid (t' := s1.toks) (fun b u e => Heap.get?_push_of_some _ e) (Nat.le_refl _) ?_, rfl, q _ _ hf rfl⟩
  exact ⟨Heap.get?_push_size _ rfl, z, us, r, ⟨_, Heap.get?_push_size _ rfl, rfl, _, rfl⟩⟩
end
end XD
set_option Elab.async false
set_option linter.all false
set_option maxRecDepth 100000
set_option maxHeartbeats 4000000
/-! len(set(xs)): xs a list or a tuple of texts, however many are alike. -/
namespace XS
open PySem PySem.Spec PyProof.Rows
/-- how many unlike ones are among the first i -/
def un (xs : List Str) : Nat → Nat
  | 0 => 0
  | i + 1 => if (xs.take i).any (· == xs.getD i Str.empty) = true then un xs i else un xs i + 1
theorem un_le (xs : List Str) : ∀ i, un xs i ≤ i
  | 0 => Nat.le_refl 0
  | i + 1 => by
    have := un_le xs i
    unfold un
    split <;> omega
theorem take_next {xs : List Str} {i : Nat} (h : i < xs.length) : xs.take (i + 1) = xs.take i ++ [xs.getD i Str.empty] := by
  rw [List.take_succ_eq_append_getElem h, List.getD_eq_getElem?_getD, List.getElem?_eq_getElem h]
  rfl
theorem any_next {xs : List Str} {i : Nat} (h : i < xs.length) (k : Str) : (xs.take (i + 1)).any (· == k) = ((xs.take i).any (· == k) || decide (k = xs.getD i Str.empty)) := by
  rw [take_next h, List.any_append]
  congr 1
  by_cases e : k = xs.getD i Str.empty
  · rw [decide_eq_true e, e]
    simp
  · rw [decide_eq_false e]
    simp
    exact fun z => e z.symm
theorem un_nodup (xs : List Str) : ∀ i, i ≤ xs.length → (un xs i = i ↔ (xs.take i).Nodup)
  | 0, _ => by simp [un]
  | i + 1, h => by
    have lt : i < xs.length := h
    have ih := un_nodup xs i (Nat.le_of_lt lt)
    have le := un_le xs i
    rw [take_next lt, List.nodup_append]
    unfold un
    by_cases e : (xs.take i).any (· == xs.getD i Str.empty) = true
    · rw [if_pos e]
      obtain ⟨y, hy, z⟩ := List.any_eq_true.mp e
      have z' : y = xs.getD i Str.empty := beq_iff_eq.mp z
      constructor
      · intro q
        omega
      · rintro ⟨_, _, q⟩
        exact absurd z' (q y hy _ (List.mem_singleton.mpr rfl))
    · rw [if_neg e]
      constructor
      · intro q
        refine ⟨ih.mp (by omega), by simp, fun a ha b hb ab => e (List.any_eq_true.mpr ⟨a, ha, ?_⟩)⟩
        rw [List.mem_singleton.mp hb] at ab
        exact beq_iff_eq.mpr ab
      · rintro ⟨q, _, _⟩
        have := ih.mpr q
        omega
/-- unlike all: as many as there are -/
theorem un_all {xs : List Str} : decide (un xs xs.length = xs.length) = decide xs.Nodup := by
  have h := un_nodup xs xs.length (Nat.le_refl _)
  rw [List.take_length] at h
  exact decide_eq_decide.mpr h
section
variable {prog : Program} {w : World} {A : Around} {R : Result → Shared → Prop} {I : Addr} {fp wr : List Addr} {G : Array GenState → Array GenState → Prop} {n : Nat} {P : Nat → Value → Prop} {St : Nat → Shared → Prop}
theorem set_loop (W : WalksS prog w A.in1 I fp wr G n P St) (S : Addr) (hSf : S ∉ fp) (xs : List Str) (hsz : xs.length = n) (hb : n + 1 < scanBound)
    (hval : ∀ i v, P i v → ∃ t, v = .str (xs.getD i Str.empty) t) :
    ∀ (k i : Nat) (s : Shared), n - i = k → i ≤ n → St i s → s.heap.SetOf (PySem.strKind prog w) S (fun k' => (xs.take i).any (· == k')) (un xs i) →
      (∀ s', Moved (S :: wr) G s s' → s'.heap.SetOf (PySem.strKind prog w) S (fun k' => (xs.take n).any (· == k')) (un xs n) → R (.ok (.ret .none)) s') →
      codeAny (model prog w) A (.builtin "set.update.loop" ⟨[.ref S, .ref I], []⟩) R s := by
  have hSw : S ∉ wr := fun h => hSf (W.sub _ h)
  have more : ∀ b ∈ wr, b ∈ S :: wr := fun b hb => List.mem_cons_of_mem _ hb
  intro k
  induction k with
  | zero =>
    intro i s hk hi hst hS hR
    obtain rfl : i = n := by omega
    refine codeAny_builtin PyProof.Rows.F.entry_set_update_loop ?_
    rw [Around.under_plainId PyProof.Rows.F.plain_set_update_loop _]
    show wpAny _ A.in1 (pyNext (.ref I) >>= _) _ _ s
    refine wpAny_bind (W.done s _ _ hst fun s' hm => ?_)
    show wpAny _ A.in1 (ret Value.none) _ _ s'
    refine wpAny_pure (hR s' (hm.mono more) ?_)
    obtain ⟨o, es, ep, t, ho, rest⟩ := hS
    exact ⟨o, es, ep, t, hm.heap S _ hSw ho, rest⟩
  | succ k ih =>
    intro i s hk hi hst hS hR
    have hlt : i < n := by omega
    have hlx : i < xs.length := by omega
    refine codeAny_builtin PyProof.Rows.F.entry_set_update_loop ?_
    rw [Around.under_plainId PyProof.Rows.F.plain_set_update_loop _]
    show wpAny _ A.in1 (pyNext (.ref I) >>= _) _ _ s
    refine wpAny_bind (W.item i s _ _ hlt hst fun v s' hP hst' hm => ?_)
    obtain ⟨t, rfl⟩ := hval i v hP
    have hS' : s'.heap.SetOf (PySem.strKind prog w) S (fun k' => (xs.take i).any (· == k')) (un xs i) := by
      obtain ⟨o, es, ep, tb, ho, rest⟩ := hS
      exact ⟨o, es, ep, tb, hm.heap S _ hSw ho, rest⟩
    show wpAny _ A.in1 (holding [Value.str (xs.getD i Str.empty) t] (setAdd S (.str (xs.getD i Str.empty) t)) >>= _) _ _ s'
    refine wpAny_bind (wpAny_holding ?_)
    unfold setAdd
    refine wpAny_holding ?_
    refine wpAny_bind ((PySem.strKind prog w).pyHash (k := xs.getD i Str.empty) (strKind_is _ _ _ _) ?_)
    have room : un xs i + 1 < scanBound := by
      have := un_le xs i
      omega
    refine wpAny_setAddHashed_of (knd := PySem.strKind prog w) (s := { s' with toks := s'.toks + 1 }) (strKind_is _ _ _ _) rfl hS' room fun h' hsb hS2 => ?_
    have next : h'.SetOf (PySem.strKind prog w) S (fun k' => (xs.take (i + 1)).any (· == k')) (un xs (i + 1)) :=
      SetOf_congr hS2 (fun k' => (any_next hlx k').symm) rfl
    refine wpAny_pure ⟨plainId_quiet PyProof.Rows.F.plain_set_update_loop _, ih (i + 1) _ (by omega) hlt (W.frame _ s' _ _ hst' (Nat.le_succ _) fun b hb o e => ?_) next fun s'' hm'' hS'' => ?_⟩
    · rw [hsb.2 b (fun h : b = S => hSf (by rw [← h]; exact hb))]
      exact e
    · refine hR s'' (Moved.trans W.gtrans ((hm.mono more).then_heap (Nat.le_succ _) fun b o hb e => ?_) hm'') hS''
      rw [hsb.2 b (fun h : b = S => hb (by rw [h]; exact List.mem_cons_self))]
      exact e
end
section
variable {prog : Program} {w : World} {A : Around} {E : Value → Shared → Prop} {s : Shared}
set_option maxHeartbeats 8000000 in
theorem call_set_strs {l : Addr} {items : Array Value} {xs : List Str} {Q : Value → Shared → Prop} (hh : A.handled = none) (hl : s.heap.IsList l items ∨ s.heap.IsTuple l items) (hi : PyProof.Rows.StrsAre items.toList xs) (hb : xs.length + 1 < scanBound)
    (h : ∀ (h' : Heap) (tk : Nat), h'.SetOf (PySem.strKind prog w) s.heap.objs.size (fun k' => (xs.take items.size).any (· == k')) (un xs items.size) →
      (∀ b o, b < s.heap.objs.size → s.heap.get? b = some o → h'.get? b = some o) → Q (.ref s.heap.objs.size) { s with heap := h', toks := tk }) :
    wpAny (model prog w) A (call (.type "set") [.ref l]) Q E s := by
  obtain ⟨c, tl, hmro⟩ := PySem.F.called_set.mro
  have hmade := PySem.F.called_set.made
  have hsub := PySem.F.called_set.sub
  refine wpAny_call (codeAny_of_tree ?_)
  show wpAny _ _ (callAny (.type "set") _) _ _ _
  refine wpAny_pure ⟨Code.quiet_builtin _ (by decide +kernel), codeAny_builtin PySem.F.entry_type_call ?_⟩
  rw [Around.under_plain (weight_type_call_type "set" [.ref l] []) rfl]
  have h1 := PySem.F.called_set.notType
  have h2 := PySem.F.called_set.canCreate
  have hct := PySem.F.typeCall_set_1 (.ref l)
  repeat (any_goals (first | assumption | wp_step))
  refine codeAny_mono (code_set_new_1 (.ref l) (E := E) (Q₁ := fun obj s₁ => ∃ led : Bool, obj = .ref s.heap.objs.size ∧ s₁ = { s with heap := s.heap.push { cls := .type "set", dict := none, data := .set #[] 0 (.fresh 0 0 led) } }) fun led => ⟨led, rfl, rfl⟩) fun r s₁ hr => ?_
  have hsz : xs.length = items.size := by
    rw [← StrsAre.len_eq hi, Array.length_toList]
  have hval : ∀ (i : Nat) (v : Value), items[i]? = some v → ∃ t, v = .str (xs.getD i Str.empty) t := fun i v hv => SS.strs_at hi i v (by rw [Array.getElem?_toList]; exact hv)
  cases r with
  | error e => exact hr
  | ok fl =>
    cases fl with
    | ret obj =>
      obtain ⟨led, rfl, rfl⟩ := hr
      have hS : (s.heap.push { cls := .type "set", dict := none, data := .set #[] 0 (.fresh 0 0 led) }).get? s.heap.objs.size = some { cls := .type "set", dict := none, data := .set #[] 0 (.fresh 0 0 led) } := Heap.get?_push_size _ rfl
      have hT : Shared.TypeIs { s with heap := s.heap.push { cls := .type "set", dict := none, data := .set #[] 0 (.fresh 0 0 led) } } (.ref s.heap.objs.size) "set" := ⟨_, hS, rfl⟩
      have hli := PySem.F.called_set.init.lookup
      have hbi := PySem.F.called_set.init.bind (.ref s.heap.objs.size)
      repeat (any_goals (first | assumption | wp_step))
      refine codeAny_mono (codeAny_call_builtin (R := wants (fun r s₂ => r = .none ∧ ∃ h' tk, s₂ = { s with heap := h', toks := tk } ∧
          h'.SetOf (PySem.strKind prog w) s.heap.objs.size (fun k' => (xs.take items.size).any (· == k')) (un xs items.size) ∧
          (∀ b o, b < s.heap.objs.size → s.heap.get? b = some o → h'.get? b = some o)) E) PySem.F.called_set.init.plain PySem.F.entry_set_init (check_set_init_1 hT ?_)) fun r₂ s₂ hr₂ => ?_
      · -- behind the iterator at I of the object it: the walk, then the end
        have walk : ∀ {it : Obj} {B : Around} {Rr : Result → Shared → Prop} {St : Nat → Shared → Prop} {P : Nat → Value → Prop},
            WalksS prog w B.in1 (s.heap.push { cls := .type "set", dict := none, data := .set #[] 0 (.fresh 0 0 led) }).objs.size [(s.heap.push { cls := .type "set", dict := none, data := .set #[] 0 (.fresh 0 0 led) }).objs.size, l] [(s.heap.push { cls := .type "set", dict := none, data := .set #[] 0 (.fresh 0 0 led) }).objs.size] (fun a b => b = a) items.size P St →
            l < s.heap.objs.size → (∀ i v, P i v → items[i]? = some v) → St 0 { s with heap := (s.heap.push { cls := .type "set", dict := none, data := .set #[] 0 (.fresh 0 0 led) }).push it } →
            (∀ h' tk, h'.SetOf (PySem.strKind prog w) s.heap.objs.size (fun k' => (xs.take items.size).any (· == k')) (un xs items.size) → (∀ b o, b < s.heap.objs.size → s.heap.get? b = some o → h'.get? b = some o) → Rr (.ok (.ret .none)) { s with heap := h', toks := tk }) →
            codeAny (model prog w) B (.builtin "set.update.loop" ⟨[.ref s.heap.objs.size, .ref (s.heap.push { cls := .type "set", dict := none, data := .set #[] 0 (.fresh 0 0 led) }).objs.size], []⟩) Rr { s with heap := (s.heap.push { cls := .type "set", dict := none, data := .set #[] 0 (.fresh 0 0 led) }).push it } := by
          intro it B Rr St P W lt hP st0 fin
          have hSf : s.heap.objs.size ∉ [(s.heap.push { cls := .type "set", dict := none, data := .set #[] 0 (.fresh 0 0 led) }).objs.size, l] := by
            rw [Heap.size_push]
            simp only [List.mem_cons, List.mem_singleton, List.not_mem_nil, or_false, not_or]
            exact ⟨Nat.ne_of_lt (Nat.lt_succ_self _), Nat.ne_of_gt lt⟩
          refine set_loop W s.heap.objs.size hSf xs hsz (by omega) (fun i v p => hval i v (hP i v p)) (items.size - 0) 0 _ (by omega) (Nat.zero_le _) st0 ?hS0 ?hR
          case hS0 =>
            have hget : ((s.heap.push { cls := .type "set", dict := none, data := .set #[] 0 (.fresh 0 0 led) }).push it).get? s.heap.objs.size = some { cls := .type "set", dict := none, data := .set #[] 0 (.fresh 0 0 led) } := Heap.get?_push_of_some _ hS
            exact PyProof.Rows.SetOf_congr ((PyProof.Rows.setObjOf_fresh (knd := PySem.strKind prog w) led).setOf hget (by unfold scanBound; omega)) (fun _ => rfl) rfl
          case hR =>
            intro s' hm hS'
            obtain ⟨h', g', d', tk', os'⟩ := s'
            have eg : g' = s.gens := hm.gens
            have ed : d' = s.drawn := hm.drawn
            have eo : os' = s.os := hm.os
            subst eg
            subst ed
            subst eo
            refine fin h' tk' hS' fun b o hb e => ?_
            have n1 : b ≠ s.heap.objs.size := Nat.ne_of_lt hb
            have n2 : b ≠ (s.heap.push { cls := .type "set", dict := none, data := .set #[] 0 (.fresh 0 0 led) }).objs.size := by
              rw [Heap.size_push]
              exact Nat.ne_of_lt (Nat.lt_succ_of_lt hb)
            exact hm.heap b o (by simp only [List.mem_cons, List.mem_singleton, List.not_mem_nil, or_false, not_or]; exact ⟨n1, n2⟩) (Heap.get?_push_of_some _ (Heap.get?_push_of_some _ e))
        have hh3 : A.in1.in1.in1.handled = none := by
          simp [hh]
        rcases hl with hl | hl
        · obtain ⟨ol, hol, hcl, nl, hdl⟩ := hl
          obtain ⟨ocls, odict, odata, oslots⟩ := ol
          simp only at hcl hdl
          subst hcl
          subst hdl
          have hol' : (s.heap.push { cls := .type "set", dict := none, data := .set #[] 0 (.fresh 0 0 led) }).get? l = some { cls := .type "list", dict := odict, data := .seq items nl, slots := oslots } := Heap.get?_push_of_some _ hol
          have hsls := PySem.F.sub_list_set
          have hslf := PySem.F.sub_list_frozenset
          have hne : (Value.type "list" == Value.type "dict") = false := by decide
          have hl1 : (s.heap.push { cls := .type "set", dict := none, data := .set #[] 0 (.fresh 0 0 led) }).IsList l items := ⟨_, hol', rfl, nl, rfl⟩
          have lt : l < s.heap.objs.size := Heap.lt_size hol
          have hneI : l ≠ (s.heap.push { cls := .type "set", dict := none, data := .set #[] 0 (.fresh 0 0 led) }).objs.size := by
            rw [Heap.size_push]
            exact Nat.ne_of_lt (Nat.lt_succ_of_lt lt)
          unfold Builtin.«set.__init__» noKeywords Builtin.Frozenset.updateFrom
          generalize hPI : pyIter = PI
          wp_walk
          subst hPI
          refine wpAny_pyIter_list hl1 ?_
          refine wpAny_bind (wpAny_runValue ?_)
          refine walk ((Walks.list hh3 _ l hneI items).toS) lt (fun _ _ z => z) ⟨⟨_, Heap.get?_push_size _ rfl, rfl, rfl⟩, (hl1.push _)⟩ fun h' tk' hS' hk' => ?_
          show wpAny _ _ _ _ _ _
          refine wpAny_pure ?_
          show wpAny _ _ (ret Value.none) _ _ _
          exact wpAny_pure ⟨rfl, h', tk', rfl, hS', hk'⟩
        · obtain ⟨ol, hol, hcl, nl, hdl⟩ := hl
          obtain ⟨ocls, odict, odata, oslots⟩ := ol
          simp only at hcl hdl
          subst hcl
          subst hdl
          have hol' : (s.heap.push { cls := .type "set", dict := none, data := .set #[] 0 (.fresh 0 0 led) }).get? l = some { cls := .type "tuple", dict := odict, data := .seq items nl, slots := oslots } := Heap.get?_push_of_some _ hol
          have hsls := PySem.F.sub_tuple_set
          have hslf := PySem.F.sub_tuple_frozenset
          have hne : (Value.type "tuple" == Value.type "dict") = false := by decide
          have hl1 : (s.heap.push { cls := .type "set", dict := none, data := .set #[] 0 (.fresh 0 0 led) }).IsTuple l items := ⟨_, hol', rfl, nl, rfl⟩
          have lt : l < s.heap.objs.size := Heap.lt_size hol
          have hneI : l ≠ (s.heap.push { cls := .type "set", dict := none, data := .set #[] 0 (.fresh 0 0 led) }).objs.size := by
            rw [Heap.size_push]
            exact Nat.ne_of_lt (Nat.lt_succ_of_lt lt)
          unfold Builtin.«set.__init__» noKeywords Builtin.Frozenset.updateFrom
          generalize hPI : pyIter = PI
          wp_walk
          subst hPI
          refine wpAny_pyIter_tuple hl1 ?_
          refine wpAny_bind (wpAny_runValue ?_)
          refine walk ((Walks.tuple hh3 _ l hneI items).toS) lt (fun _ _ z => z) ⟨⟨_, Heap.get?_push_size _ rfl, rfl, rfl⟩, (hl1.push _)⟩ fun h' tk' hS' hk' => ?_
          show wpAny _ _ _ _ _ _
          refine wpAny_pure ?_
          show wpAny _ _ (ret Value.none) _ _ _
          exact wpAny_pure ⟨rfl, h', tk', rfl, hS', hk'⟩
      · cases r₂ with
        | error e => exact hr₂
        | ok fl₂ =>
          cases fl₂ with
          | ret r =>
            obtain ⟨rfl, h', tk, rfl, hS', hk'⟩ := hr₂
            repeat (any_goals (first | assumption | wp_step))
            exact h _ _ hS' hk'
          | _ => exact hr₂.elim
    | _ => exact hr.elim
end
end XS

namespace XS
open PySem PySem.Spec PyProof.Rows L2
/-- len(set(xs)), xs a list or a tuple of texts -/
def tLenS (K : PySem.W.Frag) (ta : TE) : TE := fun σ H Q => ta σ H fun x H1 => ∃ (l : Addr) (xs : List Str), x = .ref l ∧ (SqL K H1 l (xs.map V.str) ∨ SqT K H1 l (xs.map V.str)) ∧ xs.length ≤ 1000 ∧ Q (.int (un xs xs.length : Nat)) H1
theorem pe_lenS {X : Cx} {a : Expr} {ta : TE} {p p2 q pos : Pos} (hc : X.calm = true) (hg : Gl X "len") (hm : X.mg "len" = none) (hg2 : Gl X "set") (hm2 : X.mg "set" = none) (ha : PE X a ta)
    (na : starEach [a] X.env = (false, eval a X.env) :: starEach [] X.env := by rfl) : PE X (.Call (.Name "len" p) [.Call (.Name "set" p2) [a] [] q] [] pos) (tLenS X.K ta) := by
  refine ⟨fun pins s σ H Q I h => ?_⟩
  refine Call_ (ld_blt I hg hm boot_len ?_)
  refine PyProof.Rows.callWith_builtin1 (PyProof.Rows.args_cons ?_ rfl) rfl rfl
  refine Call_ (ld_blt I hg2 hm2 boot_set ?_)
  refine PyProof.Rows.callWith_type1 (PyProof.Rows.args_cons (thn (ha.run pins s σ H _ I h) fun v s1 ⟨x, H1, I1, r1, q1⟩ => PyProof.Rows.args_nil ?_) na) na rfl
  obtain ⟨l, xs, rfl, hq, h1, q1⟩ := q1
  cases r1
  have small : xs.length + 1 < scanBound := by
    unfold scanBound
    omega
  obtain ⟨its, r, hl⟩ : ∃ its : List Value, Vals (xs.map V.str) its ∧ (s1.heap.IsList l its.toArray ∨ s1.heap.IsTuple l its.toArray) := by
    rcases hq with hq | hq
    · obtain ⟨its, r, pl, _⟩ := I1.list hq
      exact ⟨its, r, .inl pl.isList⟩
    · obtain ⟨its, r, pl, _⟩ := I1.tuple hq
      exact ⟨its, r, .inr pl⟩
  have hlen : its.toArray.size = xs.length := by
    rw [List.size_toArray, ← r.length, List.length_map]
  refine call_set_strs (I1.ok.hd hc) hl (by simpa using strsAre_of r) small fun h' tk hS hk => ?_
  refine PyProof.Rows.args_nil ?_
  rw [hlen] at hS
  obtain ⟨o, es, ep, t, ho, hex, hd, _, _, _, hf, hn⟩ := hS
  have I2 : Inv X pins σ H1 { s1 with heap := h', toks := tk } := I1.kept fun b o e => hk b o (Heap.lt_size e) e
  have := un_le xs xs.length
  exact call_len_set ho hex hd hf (by rw [hn] <;> omega) ⟨.int (un xs xs.length : Nat), H1, I2.tok _, ⟨_, by rw [hn]⟩, q1⟩
end XS
set_option Elab.async false
set_option linter.all false
set_option maxRecDepth 100000
set_option maxHeartbeats 4000000
namespace Q
open PySem L2
def top (i : Nat) : Stmt := PySem.Challenge.pw_sayfill_k31_outcomes_and_settled_ones.main.body.getD i (.Pass ⟨0, 0, 0, 0⟩)
abbrev sIsRow : Stmt := top 2
abbrev sIsPair : Stmt := top 3
abbrev sIsSmall : Stmt := top 4
abbrev sIsWord : Stmt := top 5
abbrev sUnlike : Stmt := top 6
abbrev sAreFacts : Stmt := top 7
abbrev sInSeq : Stmt := top 8
abbrev sInTuples : Stmt := top 9
abbrev sETalkError : Stmt := top 11
abbrev sEBadValue : Stmt := top 12
abbrev sETooMany : Stmt := top 13
abbrev sRowsThatFit : Stmt := top 15
abbrev sBars : Stmt := top 16
abbrev sOneStands : Stmt := top 17
abbrev sFillings : Stmt := top 19
abbrev sIsFilling : Stmt := top 20
abbrev sCheckOutcomes : Stmt := top 24
abbrev sOutcomeOf : Stmt := top 25
abbrev sOutcome : Stmt := top 27
abbrev sSettled : Stmt := top 28
abbrev sForm : Stmt := top 35
abbrev sInit : Stmt := inClass sForm 0
abbrev sFieldsM : Stmt := inClass sForm 1
abbrev sRulesM : Stmt := inClass sForm 2
abbrev sEqM : Stmt := inClass sForm 3
abbrev sAreFields : Stmt := top 36
abbrev sAreValues : Stmt := top 37
abbrev sAreRules : Stmt := top 38
abbrev sWays : Stmt := top 39
abbrev sEach : Stmt := top 40
abbrev sLStart : Stmt := top 42
abbrev sLMixed : Stmt := top 43
abbrev sLDraw : Stmt := top 44
abbrev sLOne : Stmt := top 45
abbrev sLTurned : Stmt := top 46
abbrev sLListed : Stmt := top 47
abbrev sLWords : Stmt := top 48
abbrev sLBook : Stmt := top 49
abbrev sLLot : Stmt := top 50
abbrev sLIsIn : Stmt := top 51
abbrev sLAll : Stmt := top 52
abbrev sLPairs : Stmt := top 53
abbrev sLWord : Stmt := top 54
abbrev sLBadPairs : Stmt := top 55
abbrev sLAsked : Stmt := top 56
abbrev sLSettledWord : Stmt := top 57
abbrev sLBadLot : Stmt := top 58
abbrev sLBadFilling : Stmt := top 59
abbrev sLRefusalsRight : Stmt := top 60
abbrev sLaw : Stmt := top 61
end Q
set_option Elab.async false
set_option linter.all false
set_option maxRecDepth 100000
set_option maxHeartbeats 4000000
namespace Q
open PySem L2
end Q
/-! ### data: what may be handed in -/
namespace Q
open PySem L2
theorem seqT_same {K : PySem.W.Frag} {H H' : Hp} {a : Addr} {xs : List V} (s : Same H H') (h : SqT K H a xs) : SqT K H' a xs := by
  rcases h with (h | ⟨o, h⟩) | h
  · exact .inl (.inl (s _ _ h))
  · exact .inl (.inr ⟨o, s _ _ h⟩)
  · exact .inr h
mutual
theorem dp_same {K : PySem.W.Frag} {H H' : Hp} (s : Same H H') : ∀ {v : V} {d : PyData}, Dp K H v d → Dp K H' v d
  | _, _, .non => .non
  | _, _, .bl b => .bl b
  | _, _, .int i => .int i
  | _, _, .str x => .str x
  | _, _, .lst h a => .lst (s.seq h) (dps_same s a)
  | _, _, .tup h a => .tup (seqT_same s h) (dps_same s a)
theorem dps_same {K : PySem.W.Frag} {H H' : Hp} (s : Same H H') : ∀ {vs : List V} {ds : List PyData}, DpAll K H vs ds → DpAll K H' vs ds
  | _, _, .nil => .nil
  | _, _, .cons h t => .cons (dp_same s h) (dps_same s t)
end
theorem dps_len {K : PySem.W.Frag} {H : Hp} : ∀ {vs : List V} {ds : List PyData}, DpAll K H vs ds → vs.length = ds.length
  | _, _, .nil => rfl
  | _, _, .cons _ t => by rw [List.length_cons, List.length_cons, dps_len t]
theorem dps_get {K : PySem.W.Frag} {H : Hp} : ∀ {vs : List V} {ds : List PyData} {i : Nat} {v : V}, DpAll K H vs ds → vs[i]? = some v → ∃ d, ds[i]? = some d ∧ Dp K H v d
  | _, _, _, _, .nil, e => by simp at e
  | _, _, 0, v, .cons h _, e => by
    simp at e
    subst e
    exact ⟨_, rfl, h⟩
  | _, _, i + 1, v, .cons _ t, e => by
    obtain ⟨d, h1, h2⟩ := dps_get (i := i) (v := v) t (by simpa using e)
    exact ⟨d, by simpa using h1, h2⟩
def tyName : PyData → String
  | .none => "NoneType"
  | .bool _ => "bool"
  | .int _ => "int"
  | .str _ => "str"
  | .list _ => "list"
  | .tuple _ => "tuple"
  | .dict _ => "dict"
theorem tyD {K : PySem.W.Frag} {H : Hp} {v : V} {d : PyData} (h : Dp K H v d) : TyX K H v (.type (tyName d)) := by
  cases h with
  | non => exact .base .non
  | bl b => exact .base (.bl b)
  | int i => exact .base (.int i)
  | str x => exact .base (.str x)
  | lst h _ =>
    rcases h with (h | ⟨o, h⟩) | ⟨o, its, n, h, c, _⟩
    · exact .base (.lst h)
    · exact .base (.frz h)
    · exact .kList h c
  | tup h _ =>
    rcases h with (h | ⟨o, h⟩) | ⟨o, its, n, h, c, _⟩
    · exact .base (.tup h)
    · exact .fTuple h
    · exact .kTuple h c
/-! ### the mirror -/
def rowOf : PyData → Option (List PyData)
  | .list xs => some xs
  | .tuple xs => some xs
  | _ => none
def isRow (d : PyData) : Bool := (rowOf d).isSome
def isPair (d : PyData) : Bool := match rowOf d with
  | some xs => decide (xs.length = 2)
  | none => false
def isStr : PyData → Bool
  | .str _ => true
  | _ => false
/-- a to z, as the program asks it -/
def az (c : Nat) : Bool := !decide (([c] : List Nat) < ("a" : Str).cps.toList) && !decide (("z" : Str).cps.toList < [c])
def word (s : Str) : Bool := decide (1 ≤ s.length) && decide (s.length ≤ 8) && s.cps.toList.all az
def isWord : PyData → Bool
  | .str s => word s
  | _ => false
theorem no_dict {K : PySem.W.Frag} {H : Hp} {v : V} {kvs : List (PyData × PyData)} : ¬ Dp K H v (.dict kvs) := fun h => by cases h
theorem kit_str {K : PySem.W.Frag} {d : PyData} (h : ∀ kvs, d ≠ .dict kvs) : PySem.W.kitOne K (.type (tyName d)) (.type "str") = some (isStr d) := by
  cases d with
  | dict kvs => exact absurd rfl (h kvs)
  | none => exact kit_ty (a := "NoneType") (b := "str") (by show kitB "NoneType" "str" = some false; decide +kernel)
  | bool b => exact kit_ty (a := "bool") (b := "str") (by show kitB "bool" "str" = some false; decide +kernel)
  | int i => exact kit_ty (a := "int") (b := "str") (by show kitB "int" "str" = some false; decide +kernel)
  | str s => exact kit_ty (a := "str") (b := "str") (by show kitB "str" "str" = some true; decide +kernel)
  | list xs => exact kit_ty (a := "list") (b := "str") (by show kitB "list" "str" = some false; decide +kernel)
  | tuple xs => exact kit_ty (a := "tuple") (b := "str") (by show kitB "tuple" "str" = some false; decide +kernel)
theorem kit_row {K : PySem.W.Frag} {d : PyData} (h : ∀ kvs, d ≠ .dict kvs) : PySem.W.kitAny K (.type (tyName d)) [.type "list", .type "tuple"] = some (isRow d) := by
  have no : ∀ {a : String}, kitB a "list" = some false → kitB a "tuple" = some false → PySem.W.kitAny K (.type a) [.type "list", .type "tuple"] = some false := fun h1 h2 =>
    kitAny_cons (kit_ty h1) (fun _ => kitAny_cons (kit_ty h2) (fun _ => kitAny_nil) (fun z => Bool.noConfusion z)) (fun z => Bool.noConfusion z)
  cases d with
  | dict kvs => exact absurd rfl (h kvs)
  | none => exact no (by decide +kernel) (by decide +kernel)
  | bool b => exact no (a := "bool") (by decide +kernel) (by decide +kernel)
  | int i => exact no (a := "int") (by decide +kernel) (by decide +kernel)
  | str s => exact no (a := "str") (by decide +kernel) (by decide +kernel)
  | list xs => exact kitAny_cons (b := true) (kit_ty (a := "list") (by decide +kernel)) (fun z => Bool.noConfusion z) (fun _ => rfl)
  | tuple xs => exact kitAny_cons (b := false) (kit_ty (a := "tuple") (by decide +kernel)) (fun _ => kitAny_cons (b := true) (kit_ty (a := "tuple") (by decide +kernel)) (fun z => Bool.noConfusion z) (fun _ => rfl)) (fun z => Bool.noConfusion z)
theorem dp_no_dict {K : PySem.W.Frag} {H : Hp} {v : V} {d : PyData} (h : Dp K H v d) : ∀ kvs, d ≠ .dict kvs := fun kvs e => no_dict (e ▸ h)
/-- the strings in it are no longer than 1,000,000 -/
def Short : PyData → Prop
  | .str s => s.length ≤ 1000000
  | _ => True
theorem new_same {H : Hp} {p : Addr} (h : H p = none) (o : HO) : Same H (upd H p o) := fun b u q => by
  rw [upd_ne (ne_of_none q h)]
  exact q
theorem row_len {K : PySem.W.Frag} {H : Hp} {v : V} {d : PyData} {xs : List PyData} (h : Dp K H v d) (r : rowOf d = some xs) : ∃ (p : Addr) (ys : List V), v = .ref p ∧ (SqL K H p ys ∨ SqT K H p ys) ∧ DpAll K H ys xs := by
  cases h with
  | lst h a =>
    cases r
    exact ⟨_, _, rfl, .inl h, a⟩
  | tup h a =>
    cases r
    exact ⟨_, _, rfl, .inr h, a⟩
  | _ => cases r
/-! ### promises -/
structure Bb (mg : Str → Option Value) : Prop where
  isi : mg "isinstance" = none
  list : mg "list" = none
  tup : mg "tuple" = none
  str : mg "str" = none
  len : mg "len" = none
  all : mg "all" = none
  set : mg "set" = none
  dict : mg "dict" = none
  ml : ∃ t, mg "MOST_LETTERS" = some (.int 8 t)
def spIsRow (K : PySem.W.Frag) : Sp := fun vs H Q _ => ∃ (v : V) (d : PyData), vs = [v] ∧ Dp K H v d ∧ ∀ H', Same H H' → Q (.bl (isRow d)) H'
def spIsPair (K : PySem.W.Frag) : Sp := fun vs H Q _ => ∃ (v : V) (d : PyData), vs = [v] ∧ Dp K H v d ∧ ∀ H', Same H H' → Q (.bl (isPair d)) H'
def spIsWord (K : PySem.W.Frag) : Sp := fun vs H Q _ => ∃ (v : V) (d : PyData), vs = [v] ∧ Dp K H v d ∧ Short d ∧ ∀ H', Same H H' → Q (.bl (isWord d)) H'
section
variable {P : Program} {w : World} {K : PySem.W.Frag} {mg : Str → Option Value} {base : Heap}
theorem scIsRow : FnScope ["thing"] ["thing"] (defScope sIsRow) := ⟨rfl, rfl, rfl, by decide +kernel, rfl, by decide +kernel, by decide +kernel⟩
theorem ok_isrow {f : Addr} {fd : FuncData} (F : Fun K "is_row" "is_row" sIsRow f fd) (T : Bb mg) : FnOk P w K mg base CX0 1 f fd ["thing"] (spIsRow K) := by
  refine F.ok scIsRow (fun vs H Q E h => ?_) (fun cdv A outer s H vs Q E hr h => ?_)
  · obtain ⟨v, d, rfl, _⟩ := h
    rfl
  obtain ⟨v, d, rfl, hd, k⟩ := h
  have vl : PySem.bootBuiltins "list" = some (.type "list") := by decide +kernel
  have vt : PySem.bootBuiltins "tuple" = some (.type "tuple") := by decide +kernel
  refine ⟨_, pss_one (ps_ret (pe_callB call_isiT rfl T.isi (by decide +kernel) (pa_cons (pv 0) (pa_cons (pe_tup (pa_cons (pe_bltn (v := .ty "list") rfl T.list vl rfl) (pa_cons (pe_bltn (v := .ty "tuple") rfl T.tup vt rfl) pa_nil))) pa_nil)))), ?_⟩
  refine ⟨_, rfl, (by show 2 ≤ sizeLine; decide), fun p hp => ?_⟩
  have s := new_same hp (.tup [.ty "list", .ty "tuple"])
  exact ⟨_, p, _, _, _, _, rfl, upd_same, .cons (.ty _) (.cons (.ty _) .nil), tyD (dp_same s hd), kit_row (dp_no_dict hd), k _ s⟩
theorem scIsPair : FnScope ["thing"] ["thing"] (defScope sIsPair) := ⟨rfl, rfl, rfl, by decide +kernel, rfl, by decide +kernel, by decide +kernel⟩
theorem ok_ispair {f fR : Addr} {fd fdR : FuncData} (F : Fun K "is_pair" "is_pair" sIsPair f fd) (T : Bb mg) (GR : FnOk P w K mg base CX0 1 fR fdR ["thing"] (spIsRow K)) (kR : PySem.W.keepIn K (.ref fR) = true) (bR : Binds K fdR ["thing"] []) (mR : mg "is_row" = some (.ref fR)) :
    FnOk P w K mg base CX0 2 f fd ["thing"] (spIsPair K) := by
  refine F.ok scIsPair (fun vs H Q E h => ?_) (fun cdv A outer s H vs Q E hr h => ?_)
  · obtain ⟨v, d, rfl, _⟩ := h
    rfl
  obtain ⟨v, d, rfl, hd, k⟩ := h
  refine ⟨_, pss_one (ps_ret (pe_and (pe_call GR hr rfl mR kR bR .nil pass0 (pa_cons (pv 0) pa_nil)) (pe_one (pe_cmpR op_eq (pe_callB call_len_seq rfl T.len PySem.boot_len (pa_cons (pv 0) pa_nil)) pe_int (nomark _))))), ?_⟩
  refine ⟨_, rfl, v, d, rfl, hd, fun H1 s1 => ⟨_, rfl, ?_⟩⟩
  cases e : rowOf d with
  | none =>
    have e1 : isRow d = false := by
      unfold isRow
      rw [e]
      rfl
    have e2 : isPair d = false := by
      unfold isPair
      rw [e]
    rw [e1]
    refine iteF ?_
    have q := k H1 s1
    rwa [e2] at q
  | some xs =>
    have e1 : isRow d = true := by
      unfold isRow
      rw [e]
      rfl
    obtain ⟨p, ys, rfl, hs, ha⟩ := row_len (dp_same s1 hd) e
    have e2 : isPair d = decide (V.int (ys.length : Int) = V.int 2) := by
      unfold isPair
      rw [e]
      show decide (xs.length = 2) = _
      rw [← dps_len ha]
      exact decide_eq_decide.mpr ⟨fun z => by rw [z]; rfl, fun z => by have := V.int.inj z; omega⟩
    rw [e1]
    refine iteT ⟨_, rfl, p, ys, rfl, hs, rfl, ?_⟩
    have q := k H1 s1
    rwa [e2] at q
end
end Q
set_option Elab.async false
set_option linter.all false
set_option maxRecDepth 100000
set_option maxHeartbeats 4000000
/-! ### is_word -/
namespace Q
open PySem L2
theorem iteDT {p A B : Prop} [Decidable p] (hp : p) (h : A) : if decide p = true then A else B := by
  rw [decide_eq_true hp]
  exact iteT h
theorem iteDF {p A B : Prop} [Decidable p] (hp : ¬ p) (h : B) : if decide p = true then A else B := by
  rw [decide_eq_false hp]
  exact iteF h
theorem iteB {b : Bool} {A B : Prop} (h1 : b = true → A) (h2 : b = false → B) : if b = true then A else B := by
  cases b
  · exact iteF (h2 rfl)
  · exact iteT (h1 rfl)
theorem q_is {Q : VK} {H : Hp} {c d : Bool} (h : c = d) (q : Q (.bl d) H) : Q (.bl c) H := by
  rw [h]
  exact q
theorem small1000 {n : Nat} (h : n ≤ 1000) : n < sizeLine := by
  have : 1000 < sizeLine := by decide
  omega
/-- isinstance(x, T) -/
theorem pe_isi {X : Cx} {e1 : Expr} {t1 : TE} {T : Str} {tn : String} {p p2 pos : Pos} (hi : X.mg "isinstance" = none) (hm : X.mg T = none) (hv : PySem.bootBuiltins T = some (.type tn)) (h1 : PE X e1 t1)
    (g1 : Gl X "isinstance" := by rfl) (g2 : Gl X T := by rfl) (hn : T ≠ "__name__" := by decide) (hd : (T == ("__debug__" : Str)) = false := by decide)
    (he : starEach (e1 :: [.Name T p2]) X.env = (false, eval e1 X.env) :: starEach [.Name T p2] X.env := by rfl) (hpl : (backTo pos (starEach [.Name T p2] X.env)).any (·.1) = false := by rfl)
    (he2 : starEach (Expr.Name T p2 :: []) X.env = (false, eval (.Name T p2) X.env) :: starEach [] X.env := by rfl) :
    PE X (.Call (.Name "isinstance" p) [e1, .Name T p2] [] pos) (tCB (rIsi X.K) (tCons t1 (tCons (tC (.ty tn)) tNil))) :=
  pe_callB call_isi g1 hi (by decide +kernel) (pa_cons h1 (pa_cons (pe_bltn (v := .ty tn) g2 hm hv rfl hn hd) pa_nil he2) he) (he := he) (hpl := hpl)
theorem take_one {α : Type} {xs : List α} {i : Nat} {x : α} (h : xs[i]? = some x) : xs.take (i + 1) = xs.take i ++ [x] := by
  rw [List.take_add_one, h]
  rfl
section
variable {P : Program} {w : World} {K : PySem.W.Frag} {mg : Str → Option Value} {base : Heap}
theorem scIsSmall : FnScope ["string", "sign"] ["string"] (defScope sIsSmall) := ⟨rfl, rfl, rfl, by decide +kernel, rfl, by decide +kernel, by decide +kernel⟩
/-- small letters, one or more -/
def small (x : Str) : Bool := decide (0 < x.length) && x.cps.toList.all az
def spIsSmall : Sp := fun vs H Q _ => ∃ x : Str, vs = [.str x] ∧ x.length ≤ 1000 ∧ ∀ H', Same H H' → Q (.bl (small x)) H'
theorem ok_issmall {f : Addr} {fd : FuncData} (F : Fun K "is_small" "is_small" sIsSmall f fd) (T : Bb mg) : FnOk P w K mg base CX0 1 f fd ["string"] spIsSmall := by
  refine F.ok scIsSmall (fun vs H Q E h => ?_) (fun cdv A outer s H vs Q E hr h => ?_)
  · obtain ⟨x, rfl, _⟩ := h
    rfl
  obtain ⟨x, rfl, hx, k⟩ := h
  refine ⟨_, pss_one (ps_ret (pe_and (pe_cmpR op_gt (pe_callB call_len_str rfl T.len PySem.boot_len (pa_cons (pv 0) pa_nil)) pe_int (nomark _))
    (pe_one (pe_callB (cr_all (by rfl)) rfl T.all (by decide +kernel) (pa_cons (pe_lc (own := [("sign", 1)]) (g := gName 1) (tt := tYes) (by rfl) scIsSmall.nd (pi_str (pv 0)) (blkOk_by (N := ["string", "sign"]) (sc := defScope sIsSmall) (by decide +kernel))
      (fun _ _ _ _ _ => pg_name (i := 1) scIsSmall.nd rfl (.inl rfl)) (fun _ _ _ _ _ => pts_nil) (fun _ _ _ _ _ => pe_chain op_le_str op_le_str pe_str (pv 1) pe_str)) pa_nil))))), ?_⟩
  have hsz : x.length ≤ sizeLine := by
    have : 1000 ≤ sizeLine := by decide
    omega
  refine ⟨_, rfl, x, rfl, hsz, _, _, rfl, rfl, _, rfl, ?_⟩
  by_cases h0 : (0 : Int) < (x.length : Int)
  · refine iteDT h0 ?_
    refine ⟨_, rfl, x, rfl, fun D hD => lc_it (walk_str (z := x)) (fun i H' => H' D = some (.lst (((x.cps.toList.take i).map az).map V.bl)) ∧ Same H H') ⟨upd_same, new_same hD _⟩ (fun _ _ _ _ => trivial) (fun i c H1 H2 hi hP hY => ?_) (fun H' hP => ?_)⟩
    · obtain ⟨hL, s1⟩ := hP
      obtain ⟨rfl, c1, hc, rfl⟩ := hY
      have hc2 : x.cps.toList[i]? = some c1 := by
        rw [Array.getElem?_toList]
        exact hc
      have fin : ∀ b : Bool, b = az c1 → ∃ acc, H2 D = some (.lst acc) ∧ acc.length < sizeLine ∧ (fun H' => H' D = some (.lst (((x.cps.toList.take (i + 1)).map az).map V.bl)) ∧ Same H H') (upd H2 D (.lst (acc ++ [.bl b]))) := fun b e => by
        refine ⟨_, hL, small1000 ?_, ?_, fun b o q => ?_⟩
        · rw [List.length_map, List.length_map, List.length_take, Array.length_toList]
          have : x.cps.size = x.length := rfl
          omega
        · rw [upd_same, take_one hc2, List.map_append, List.map_append, e]
          rfl
        · rw [upd_ne (ne_of_none q hD)]
          exact s1 _ _ q
      refine ⟨rfl, ?_⟩
      unfold tYes
      refine iteT ⟨_, rfl, _, _, rfl, rfl, _, rfl, iteB (fun e1 => ⟨_, _, rfl, rfl, fin _ ?_⟩) (fun e1 => fin _ ?_)⟩
      · unfold az
        have e2 : (!decide (([c1] : List Nat) < ("a" : Str).cps.toList)) = true := e1
        rw [e2, Bool.true_and]
      · unfold az
        have e2 : (!decide (([c1] : List Nat) < ("a" : Str).cps.toList)) = false := e1
        rw [e2, Bool.false_and]
    · obtain ⟨hL, s1⟩ := hP
      rw [List.take_of_length_le (by rw [Array.length_toList]; exact Nat.le_refl _)] at hL
      refine ⟨_, _, rfl, SqL.of hL, q_is ?_ (k _ s1)⟩
      show ((x.cps.toList.map az).all id) = small x
      unfold small
      rw [decide_eq_true (by omega : 0 < x.length), List.all_map]
      rfl
  · refine iteDF h0 (q_is ?_ (k H (Same.refl H)))
    show false = small x
    unfold small
    rw [decide_eq_false (by omega : ¬ 0 < x.length), Bool.false_and]
theorem scIsWord : FnScope ["thing"] ["thing"] (defScope sIsWord) := ⟨rfl, rfl, rfl, by decide +kernel, rfl, by decide +kernel, by decide +kernel⟩
theorem ok_isword {f fM : Addr} {fd fdM : FuncData} (F : Fun K "is_word" "is_word" sIsWord f fd) (T : Bb mg) (GM : FnOk P w K mg base CX0 1 fM fdM ["string"] spIsSmall) (kM : PySem.W.keepIn K (.ref fM) = true) (bM : Binds K fdM ["string"] []) (mM : mg "is_small" = some (.ref fM)) :
    FnOk P w K mg base CX0 2 f fd ["thing"] (spIsWord K) := by
  refine F.ok scIsWord (fun vs H Q E h => ?_) (fun cdv A outer s H vs Q E hr h => ?_)
  · obtain ⟨v, d, rfl, _⟩ := h
    rfl
  obtain ⟨v, d, rfl, hd, hs, k⟩ := h
  obtain ⟨tML, hML⟩ := T.ml
  have vs_ : PySem.bootBuiltins "str" = some (.type "str") := by decide +kernel
  refine ⟨_, pss_one (ps_ret (pe_and (pe_isi T.isi T.str vs_ (pv 0)) (pe_and (pe_cmpR op_le (pe_callB call_len_str rfl T.len PySem.boot_len (pa_cons (pv 0) pa_nil)) (pe_glob (v := .int 8) (by rfl) hML ⟨_, rfl⟩) (nomark _))
    (pe_one (pe_call GM hr rfl mM kM bM .nil pass0 (pa_cons (pv 0) pa_nil)))))), ?_⟩
  have ki := kit_str (K := K) (dp_no_dict hd)
  refine ⟨_, rfl, _, _, _, _, _, rfl, .ty _, tyD hd, ki, _, rfl, ?_⟩
  cases hd with
  | str x =>
    have hx : x.length ≤ 1000000 := hs
    have hsz : x.length ≤ sizeLine := by
      have : 1000000 ≤ sizeLine := by decide
      omega
    refine iteT ⟨_, rfl, x, rfl, hsz, _, _, rfl, rfl, _, rfl, ?_⟩
    by_cases h8 : (x.length : Int) ≤ 8
    · refine iteDT h8 ⟨_, rfl, x, rfl, by omega, fun H1 s1 => q_is ?_ (k H1 s1)⟩
      show small x = word x
      unfold small word
      rw [decide_eq_true (by omega : x.length ≤ 8), Bool.and_true]
      rfl
    · refine iteDF h8 (q_is (d := isWord (.str x)) ?_ (k H (Same.refl H)))
      show false = word x
      unfold word
      rw [decide_eq_false (by omega : ¬ x.length ≤ 8), Bool.and_false, Bool.false_and]
  | _ => exact iteF (k H (Same.refl H))
end
end Q
set_option Elab.async false
set_option linter.all false
set_option maxRecDepth 100000
set_option maxHeartbeats 4000000
/-! ### are_unlike_words -/
namespace Q
open PySem L2
def strOf : PyData → Str
  | .str s => s
  | _ => Str.empty
def textsOf (ds : List PyData) : List Str := ds.map strOf
def unlike (ds : List PyData) : Bool := ds.all isWord && decide (textsOf ds).Nodup
theorem words_vals {K : PySem.W.Frag} {H : Hp} : ∀ {ys : List V} {ds : List PyData}, DpAll K H ys ds → ds.all isWord = true → ys = (textsOf ds).map V.str
  | _, _, .nil, _ => rfl
  | _, _, .cons h t, e => by
    rw [List.all_cons, Bool.and_eq_true] at e
    rw [words_vals t e.2]
    cases h with
    | str x => rfl
    | _ => exact absurd e.1 (by intro z; cases z)
theorem words_int {n m : Nat} : decide (V.int (n : Int) = V.int (m : Int)) = decide (n = m) :=
  decide_eq_decide.mpr ⟨fun z => by have := V.int.inj z; omega, fun z => by rw [z]⟩
def spUnlike (K : PySem.W.Frag) : Sp := fun vs H Q _ => ∃ (p : Addr) (ys : List V) (ds : List PyData), vs = [.ref p] ∧ (SqL K H p ys ∨ SqT K H p ys) ∧ DpAll K H ys ds ∧ (∀ d ∈ ds, Short d) ∧ ds.length ≤ 1000 ∧ ∀ H', Same H H' → Q (.bl (unlike ds)) H'
/-- over a list or a tuple -/
def iRow (K : PySem.W.Frag) (te : TE) : TI := fun σ H R => iList K te σ H R ∨ iTup K te σ H R
theorem pi_row {X : Cx} {tg e : Expr} {te : TE} (he : PE X e te) : PI X tg e (iRow X.K te) :=
  ⟨fun pins s σ H R I h => h.elim (fun q => (pi_list he).run pins s σ H R I q) (fun q => (pi_tup he).run pins s σ H R I q)⟩
theorem sq_same {K : PySem.W.Frag} {H H' : Hp} {p : Addr} {ys : List V} (s : Same H H') (h : SqL K H p ys ∨ SqT K H p ys) : SqL K H' p ys ∨ SqT K H' p ys :=
  h.elim (fun q => .inl (s.seq q)) (fun q => .inr (seqT_same s q))
/-- a comprehension over a list or a tuple that its turns leave as it is -/
theorem lc_row {K : PySem.W.Frag} {p : Addr} {ys : List V} {t0 : TE} {g : TG} {tt : TT} {te : TE} {vs : List Nat} {σ : St} {H : Hp} {Q : VK} (Pv : Addr → Nat → Hp → Prop) (ht : ∀ Q' : VK, Q' (.ref p) H → t0 σ H Q') (hq : SqL K H p ys ∨ SqT K H p ys)
    (h0 : ∀ D, H D = none → Pv D 0 (upd H D (.lst []))) (hG : ∀ D i H', H D = none → Pv D i H' → Same H H')
    (hs : ∀ D i x H', H D = none → i < ys.length → Pv D i H' → ys[i]? = some x → g x (wipe σ vs) H' fun σ2 H2 => wipe σ2 vs = wipe σ vs ∧ tt σ2 H2 fun b H3 =>
      if b = true then te σ2 H3 fun y H4 => ∃ acc, H4 D = some (.lst acc) ∧ acc.length < sizeLine ∧ Pv D (i + 1) (upd H4 D (.lst (acc ++ [y]))) else Pv D (i + 1) H3)
    (hd : ∀ D H', H D = none → Pv D ys.length H' → Q (.ref D) H') : tLc (iRow K t0) g tt te vs σ H Q := by
  rcases hq with hq | hq
  · refine .inl (ht _ ⟨p, rfl, ⟨ys, hq⟩, fun D hD => lc_it walk_list (Pv D) (h0 D hD) (fun i H' _ hP => (hG D i H' hD hP).seq hq) (fun i x H1 H2 hi hP hY => ?_) (fun H' hP => hd D H' hD hP)⟩)
    obtain ⟨rfl, hx⟩ := hY
    exact hs D i x H2 hD hi hP hx
  · refine .inr (ht _ ⟨p, rfl, ⟨ys, hq⟩, fun D hD => lc_it walk_tup (Pv D) (h0 D hD) (fun i H' _ hP => seqT_same (hG D i H' hD hP) hq) (fun i x H1 H2 hi hP hY => ?_) (fun H' hP => hd D H' hD hP)⟩)
    obtain ⟨rfl, hx⟩ := hY
    exact hs D i x H2 hD hi hP hx
section
variable {P : Program} {w : World} {K : PySem.W.Frag} {mg : Str → Option Value} {base : Heap}
theorem scUnlike : FnScope ["things", "thing"] ["things"] (defScope sUnlike) := ⟨rfl, rfl, rfl, by decide +kernel, rfl, by decide +kernel, by decide +kernel⟩
theorem ok_unlike {f fW : Addr} {fd fdW : FuncData} (F : Fun K "are_unlike_words" "are_unlike_words" sUnlike f fd) (T : Bb mg) (GW : FnOk P w K mg base CX0 2 fW fdW ["thing"] (spIsWord K)) (kW : PySem.W.keepIn K (.ref fW) = true) (bW : Binds K fdW ["thing"] []) (mW : mg "is_word" = some (.ref fW)) :
    FnOk P w K mg base CX0 3 f fd ["things"] (spUnlike K) := by
  refine F.ok scUnlike (fun vs H Q E h => ?_) (fun cdv A outer s H vs Q E hr h => ?_)
  · obtain ⟨p, ys, ds, rfl, _⟩ := h
    rfl
  obtain ⟨p, ys, ds, rfl, hq, ha, hs, hn, k⟩ := h
  have hlen := dps_len ha
  refine ⟨_, pss_one (ps_ret (pe_and (pe_callB (cr_all (by rfl)) rfl T.all (by decide +kernel) (pa_cons (pe_lc (own := [("thing", 1)]) (g := gName 1) (tt := tYes) (by rfl) scUnlike.nd (pi_row (pv 0)) (blkOk_by (N := ["things", "thing"]) (sc := defScope sUnlike) (by decide +kernel))
      (fun _ _ _ _ _ => pg_name (i := 1) scUnlike.nd rfl (.inl rfl)) (fun _ _ _ _ _ => pts_nil) (fun _ _ _ _ _ => pe_call GW hr rfl mW kW bW .nil pass0 (pa_cons (pv 1) pa_nil))) pa_nil))
    (pe_one (pe_cmpR op_eq (XS.pe_lenS (by rfl) rfl T.len rfl T.set (pv 0)) (pe_callB call_len_seq rfl T.len PySem.boot_len (pa_cons (pv 0) pa_nil)) (nomark _))))), ?_⟩
  unfold tRet tAndV tCB tCons
  show tLc (iRow K (tVar 0)) (gName 1) tYes (tCall (spIsWord K) [] E0 (tCons (tVar 1) tNil)) [1] _ H _
  refine lc_row (ys := ys) (fun D i H' => H' D = some (.lst (((ds.take i).map isWord).map V.bl)) ∧ Same H H') (fun Q' q => ⟨_, rfl, q⟩) hq (fun D hD => ⟨upd_same, new_same hD _⟩) (fun D i H' hD hP => hP.2) (fun D i x H1 hD hi hP hx => ?_) (fun D H' hD hP => ?_)
  · obtain ⟨d, hd, hdp⟩ := dps_get ha hx
    refine ⟨rfl, ?_⟩
    unfold tYes
    refine iteT ⟨_, rfl, x, d, rfl, dp_same hP.2 hdp, hs d (List.mem_of_getElem? hd), fun H2 s2 => ⟨_, s2 _ _ hP.1, small1000 ?_, ?_, fun b o q => ?_⟩⟩
    · rw [List.length_map, List.length_map, List.length_take]
      omega
    · rw [upd_same, take_one hd, List.map_append, List.map_append]
      rfl
    · rw [upd_ne (ne_of_none q hD)]
      exact s2 _ _ (hP.2 _ _ q)
  · obtain ⟨hL, s1⟩ := hP
    rw [List.take_of_length_le (by omega)] at hL
    refine ⟨_, _, rfl, SqL.of hL, _, rfl, iteB (fun e => ?_) (fun e => ?_)⟩
    · have e1 : ds.all isWord = true := by
        rw [List.all_map] at e
        exact e
      have e2 := words_vals ha e1
      have hq1 := sq_same s1 hq
      refine ⟨_, rfl, p, textsOf ds, rfl, by rw [← e2]; exact hq1, by unfold textsOf; rw [List.length_map]; exact hn, _, rfl, p, ys, rfl, hq1, rfl, ?_⟩
      refine q_is ?_ (k _ s1)
      unfold unlike
      rw [e1, Bool.true_and, words_int, ← XS.un_all, e2, List.length_map]
    · refine q_is ?_ (k _ s1)
      unfold unlike
      rw [List.all_map] at e
      have e1 : ds.all isWord = false := e
      rw [e1, Bool.false_and]
end
end Q
set_option Elab.async false
set_option linter.all false
set_option maxRecDepth 100000
set_option maxHeartbeats 4000000
/-! ### are_facts -/
namespace Q
open PySem L2 XD
/-- the values told of a field -/
def look (n : Str) : List (Str × List Str) → Option (List Str)
  | [] => none
  | (m, ws) :: t => if m = n then some ws else look n t
def stands (ws : List Str) (d : PyData) : Bool := (ws.map PyData.str).any fun z => PyData.eqv z d
def pairOf (f : PyData) : Option (PyData × PyData) := match rowOf f with
  | some [a, b] => some (a, b)
  | _ => none
def goFacts (t : List (Str × List Str)) (seen : List Str) : List PyData → Bool
  | [] => true
  | f :: fs => match pairOf f with
    | some (.str n, w) => match look n t with
      | some ws => !seen.contains n && (stands ws w && goFacts t (n :: seen) fs)
      | none => false
    | _ => false
def areFacts (t : List (Str × List Str)) (d : PyData) : Bool := match rowOf d with
  | some fs => decide (fs.length ≤ t.length) && goFacts t [] fs
  | none => false
/-- the fields as a form keeps them -/
inductive TabR (K : PySem.W.Frag) (H : Hp) : List Addr → List (Key × V) → List (Str × List Str) → Prop
  | nil : TabR K H [] [] []
  | cons {q v : Addr} {n : Str} {ws : List Str} {ps : List Addr} {kvs : List (Key × V)} {t : List (Str × List Str)} : SqT K H q [.str n, .ref v] → SqT K H v (ws.map V.str) → (∀ w ∈ ws, PyData.strOk w = true) → TabR K H ps kvs t → TabR K H (q :: ps) ((.inr n, .ref v) :: kvs) ((n, ws) :: t)
def TabAt (K : PySem.W.Frag) (H : Hp) (p : Addr) (t : List (Str × List Str)) : Prop := ∃ (ps : List Addr) (kvs : List (Key × V)), SqZ H p (ps.map V.ref) ∧ TabR K H ps kvs t ∧ (t.map (·.1)).Nodup ∧ t.length ≤ 1000
theorem TabR.same {K : PySem.W.Frag} {H H' : Hp} (s : Same H H') : ∀ {ps : List Addr} {kvs : List (Key × V)} {t : List (Str × List Str)}, TabR K H ps kvs t → TabR K H' ps kvs t
  | _, _, _, .nil => .nil
  | _, _, _, .cons a b o c => .cons (seqT_same s a) (seqT_same s b) o (TabR.same s c)
theorem TabR.len {K : PySem.W.Frag} {H : Hp} : ∀ {ps : List Addr} {kvs : List (Key × V)} {t : List (Str × List Str)}, TabR K H ps kvs t → ps.length = t.length ∧ kvs.map (·.1) = (t.map (·.1)).map Sum.inr
  | _, _, _, .nil => ⟨rfl, rfl⟩
  | _, _, _, .cons a b o c => ⟨by rw [List.length_cons, List.length_cons, (TabR.len c).1], by rw [List.map_cons, List.map_cons, List.map_cons, (TabR.len c).2]⟩
theorem TabR.prs {K : PySem.W.Frag} {H : Hp} : ∀ {ps : List Addr} {kvs : List (Key × V)} {t : List (Str × List Str)}, TabR K H ps kvs t → Paired (fun p (kv : Key × V) => SqT K H p [kV kv.1, kv.2] ∨ SqL K H p [kV kv.1, kv.2]) ps kvs
  | _, _, _, .nil => .nil
  | _, _, _, .cons a b o c => .cons (.inl a) (TabR.prs c)
theorem TabR.val {K : PySem.W.Frag} {H : Hp} {n : Str} : ∀ {ps : List Addr} {kvs : List (Key × V)} {t : List (Str × List Str)}, TabR K H ps kvs t →
    (look n t = none ∧ valV kvs (.inr n) = none) ∨ (∃ ws vp, look n t = some ws ∧ valV kvs (.inr n) = some (.ref vp) ∧ SqT K H vp (ws.map V.str) ∧ ∀ w ∈ ws, PyData.strOk w = true)
  | _, _, _, .nil => .inl ⟨rfl, rfl⟩
  | _, _, _, .cons (n := m) (v := v) (ws := ws) a b o c => by
    by_cases e : m = n
    · subst e
      exact .inr ⟨ws, v, by unfold look; rw [if_pos rfl], valV_pos rfl, b, o⟩
    · have e2 : ¬ (Sum.inr m : Key) = Sum.inr n := fun z => e (Sum.inr.inj z)
      have l1 : ∀ {ws : List Str} {t : List (Str × List Str)}, look n ((m, ws) :: t) = look n t := by
        intro ws t
        show (if m = n then some ws else look n t) = look n t
        rw [if_neg e]
      rcases TabR.val c with ⟨h1, h2⟩ | ⟨ws', vp, h1, h2, h3⟩
      · exact .inl ⟨l1.trans h1, (valV_neg e2).trans h2⟩
      · exact .inr ⟨ws', vp, l1.trans h1, (valV_neg e2).trans h2, h3⟩
theorem merge_nodup : ∀ (kvs acc : List (Key × V)), (∀ kv ∈ kvs, valV acc kv.1 = none) → (kvs.map (·.1)).Nodup → mergeK acc kvs = acc ++ kvs
  | [], acc, _, _ => (List.append_nil acc).symm
  | kv :: kvs, acc, h, hn => by
    rw [List.map_cons, List.nodup_cons] at hn
    show mergeK (putK acc kv.1 kv.2) kvs = _
    have h0 := h kv List.mem_cons_self
    rw [putK_new kv.2 h0, merge_nodup kvs _ (fun kv' hm => ?_) hn.2, List.append_assoc]
    · rfl
    · rw [valV_snoc kv.1 kv'.1 kv.2 acc h0, if_neg (fun z => hn.1 (List.mem_map.mpr ⟨kv', hm, z⟩))]
      exact h kv' (List.mem_cons_of_mem _ hm)
theorem nodup_inr {xs : List Str} (h : xs.Nodup) : (xs.map (Sum.inr : Str → Key)).Nodup := by
  induction xs with
  | nil => exact List.nodup_nil
  | cons x xs ih =>
    rw [List.nodup_cons] at h
    rw [List.map_cons, List.nodup_cons]
    refine ⟨fun z => ?_, ih h.2⟩
    obtain ⟨y, hy, e⟩ := List.mem_map.mp z
    exact h.1 (Sum.inr.inj e ▸ hy)
theorem dps_strs {K : PySem.W.Frag} {H : Hp} : ∀ ws : List Str, DpAll K H (ws.map V.str) (ws.map PyData.str)
  | [] => .nil
  | w :: ws => .cons (.str w) (dps_strs ws)
theorem lay_strs : ∀ ws : List Str, (∀ w ∈ ws, PyData.strOk w = true) → PyData.canLayAll0 (ws.map PyData.str) = true
  | [], _ => by simp [PyData.canLayAll0]
  | w :: ws, h => by simp [PyData.canLayAll0, PyData.canLay0, h w List.mem_cons_self, lay_strs ws fun x hx => h x (List.mem_cons_of_mem _ hx)]
/-- x not in a tuple of texts, x any data -/
def rNotInZ (K : PySem.W.Frag) : R2 := fun x y H Q => ∃ (p : Addr) (ws : List Str) (d : PyData), y = .ref p ∧ SqT K H p (ws.map V.str) ∧ (∀ w ∈ ws, PyData.strOk w = true) ∧ Dp K H x d ∧ SeqAt.shaped d = true ∧ Q (.bl (!stands ws d)) H
theorem op_notInZ {X : Cx} (hu : X.A.units + 65 < cLine) : OpR X (compareOp .NotIn) (rNotInZ X.K) := by
  intro pins s σ H x y v u Q I rx ry h
  obtain ⟨p, ws, d, rfl, hq, ho, hd, sd, q⟩ := h
  cases ry
  obtain ⟨bs, r1⟩ := Dp.reads I d x v hd rx
  obtain ⟨its, rv, pl, hz⟩ := I.tuple hq
  obtain ⟨as, r2⟩ := Dp.readsAll I (ws.map PyData.str) _ its (dps_strs ws) rv
  have r3 : ReadsAll s.heap its.toArray.toList (ws.map PyData.str) as := by simpa using r2
  refine SeqAt.notIn_tupleAt _ pl (SeqAt.items_eqAt r3 r1 (lay_strs ws ho) (SeqAt.canLay_of_shaped sd) (PyProof.Rows.room_in_shaped sd hu)) ⟨.bl _, H, I, rfl, ?_⟩
  rw [SeqAt.any_by_data r3 (lay_strs ws ho)]
  exact q
/-- a, b = a list or a tuple of that length -/
def gRow (K : PySem.W.Frag) (n : Nat) (t : TGs) : TG := fun v σ H Q => gTup K n t v σ H Q ∨ gLst K n t v σ H Q
theorem pg_row {X : Cx} {es : List Expr} {k : Nat} {t : TGs} {n : Nat} {pos : Pos} (hc : X.calm = true) (h : PGs X es t)
    (hn : (assignEach es X.env).length = n := by rfl) (hst : (assignEach es X.env).findIdx? (·.1) = none := by rfl) : PG X (.Tuple es k pos) (gRow X.K n t) :=
  ⟨fun pins s σ H v u Q I r hw => hw.elim (fun q => (pg_tup hc h hn hst).run pins s σ H v u Q I r q) (fun q => (pg_lst hc h hn hst).run pins s σ H v u Q I r q)⟩
/-- a walk over a list or a tuple that its turns leave as it is -/
theorem for_row {K : PySem.W.Frag} {p : Addr} {ys : List V} {t0 : TE} {g : TG} {tb : TS} {D : Ends} {σ : L2.St} {H0 H : Hp} (Pv : Nat → L2.St → Hp → Prop) (ht : ∀ Q' : VK, Q' (.ref p) H → t0 σ H Q') (hq : SqL K H0 p ys ∨ SqT K H0 p ys) (h0 : Pv 0 σ H) (hG : ∀ i σ H', Pv i σ H' → Same H0 H')
    (hs : ∀ i x σ H', i < ys.length → Pv i σ H' → ys[i]? = some x → g x σ H' fun σ2 H2 => tb { D with nx := Pv (i + 1), ct := Pv (i + 1), bk := D.nx } σ2 H2) (hd : ∀ σ H', Pv ys.length σ H' → D.nx σ H') : tFor (iRow K t0) g tb D σ H := by
  have s0 := hG 0 σ H h0
  rcases hq with hq | hq
  · refine .inl (ht _ ⟨p, rfl, ⟨ys, s0.seq hq⟩, for_it walk_list Pv h0 (fun i σ H' _ hP => (hG i σ H' hP).seq hq) (fun i x σ H1 H2 hi hP hY => ?_) hd⟩)
    obtain ⟨rfl, hx⟩ := hY
    exact hs i x σ H2 hi hP hx
  · refine .inr (ht _ ⟨p, rfl, ⟨ys, seqT_same s0 hq⟩, for_it walk_tup Pv h0 (fun i σ H' _ hP => seqT_same (hG i σ H' hP) hq) (fun i x σ H1 H2 hi hP hY => ?_) hd⟩)
    obtain ⟨rfl, hx⟩ := hY
    exact hs i x σ H2 hi hP hx
theorem pair_yes {f : PyData} (h : isPair f = true) : ∃ a b, pairOf f = some (a, b) ∧ rowOf f = some [a, b] := by
  unfold isPair at h
  unfold pairOf
  cases e : rowOf f with
  | none =>
    rw [e] at h
    cases h
  | some xs =>
    rw [e] at h
    have h2 : xs.length = 2 := of_decide_eq_true h
    match xs, h2 with
    | [a, b], _ => exact ⟨a, b, rfl, rfl⟩
theorem pair_no {f : PyData} (h : isPair f = false) : pairOf f = none := by
  unfold isPair at h
  unfold pairOf
  cases e : rowOf f with
  | none => rfl
  | some xs =>
    rw [e] at h
    have h2 : ¬ xs.length = 2 := of_decide_eq_false h
    match xs, h2 with
    | [], _ => rfl
    | [_], _ => rfl
    | [_, _], h => exact absurd rfl h
    | _ :: _ :: _ :: _, _ => rfl
theorem go_none {t : List (Str × List Str)} {seen : List Str} {f : PyData} {fs : List PyData} (h : pairOf f = none) : goFacts t seen (f :: fs) = false := by
  unfold goFacts
  rw [h]
theorem go_nostr {t : List (Str × List Str)} {seen : List Str} {f a b : PyData} {fs : List PyData} (h : pairOf f = some (a, b)) (hs : isStr a = false) : goFacts t seen (f :: fs) = false := by
  unfold goFacts
  rw [h]
  cases a <;> first | rfl | cases hs
theorem go_new {t : List (Str × List Str)} {seen : List Str} {f b : PyData} {n : Str} {fs : List PyData} (h : pairOf f = some (.str n, b)) (hl : look n t = none) : goFacts t seen (f :: fs) = false := by
  unfold goFacts
  rw [h]
  show (match look n t with | some ws => !seen.contains n && (stands ws b && goFacts t (n :: seen) fs) | none => false) = false
  rw [hl]
theorem go_old {t : List (Str × List Str)} {seen : List Str} {f b : PyData} {n : Str} {ws : List Str} {fs : List PyData} (h : pairOf f = some (.str n, b)) (hl : look n t = some ws) : goFacts t seen (f :: fs) = (!seen.contains n && (stands ws b && goFacts t (n :: seen) fs)) := by
  conv => lhs; unfold goFacts
  rw [h]
  show (match look n t with | some ws => !seen.contains n && (stands ws b && goFacts t (n :: seen) fs) | none => false) = _
  rw [hl]
theorem go_seen {t : List (Str × List Str)} {seen : List Str} {f b : PyData} {n : Str} {fs : List PyData} (h : pairOf f = some (.str n, b)) (hs : seen.contains n = true) : goFacts t seen (f :: fs) = false := by
  cases e : look n t with
  | none => exact go_new h e
  | some ws => rw [go_old h e, hs] <;> rfl
/-- what stands for values is such that it can be compared -/
def FOk (d : PyData) : Prop := ∀ fs, rowOf d = some fs → ∀ f ∈ fs, ∀ a b, pairOf f = some (a, b) → SeqAt.shaped b = true
def spAreFacts (K : PySem.W.Frag) : Sp := fun vs H Q _ => ∃ (p : Addr) (t : List (Str × List Str)) (v : V) (d : PyData), vs = [.ref p, v] ∧ TabAt K H p t ∧ Dp K H v d ∧ FOk d ∧ ∀ H', Same H H' → Q (.bl (areFacts t d)) H'
section
variable {P : Program} {w : World} {K : PySem.W.Frag} {mg : Str → Option Value} {base : Heap}
theorem scAreFacts : FnScope ["fields", "facts", "values_of", "told", "fact", "name", "value"] ["fields", "facts"] (defScope sAreFacts) := ⟨rfl, rfl, rfl, by decide +kernel, rfl, by decide +kernel, by decide +kernel⟩
theorem ok_arefacts {f fR fP : Addr} {fd fdR fdP : FuncData} (F : Fun K "are_facts" "are_facts" sAreFacts f fd) (T : Bb mg) (GR : FnOk P w K mg base CX0 1 fR fdR ["thing"] (spIsRow K)) (kR : PySem.W.keepIn K (.ref fR) = true) (bR : Binds K fdR ["thing"] []) (mR : mg "is_row" = some (.ref fR))
    (GP : FnOk P w K mg base CX0 2 fP fdP ["thing"] (spIsPair K)) (kP : PySem.W.keepIn K (.ref fP) = true) (bP : Binds K fdP ["thing"] []) (mP : mg "is_pair" = some (.ref fP)) :
    FnOk P w K mg base CX0 3 f fd ["fields", "facts"] (spAreFacts K) := by
  refine F.ok scAreFacts (fun vs H Q E h => ?_) (fun cdv A outer s H vs Q E hr h => ?_)
  · obtain ⟨p, t, v, d, rfl, _⟩ := h
    rfl
  obtain ⟨p, t, v, d, rfl, ht, hd, hf, k⟩ := h
  have vs_ : PySem.bootBuiltins "str" = some (.type "str") := by decide +kernel
  have vd_ : PySem.bootBuiltins "dict" = some (.type "dict") := by decide +kernel
  have hu2 : (A.deeper (PyProof.Rows.envOfC "are_facts" (defScope sAreFacts) s.heap.objs.size f cdv)).units + 65 < cLine := by
    have := hr.un
    omega
  have hu1 : (A.deeper (PyProof.Rows.envOfC "are_facts" (defScope sAreFacts) s.heap.objs.size f cdv)).units + 1 < cLine := by
    omega
  refine ⟨_, pss_cons (ps_if (PW.pt (pw_or (pt_not (pt_val (pe_call GR (hr.mono (by decide)) rfl mR kR bR .nil pass0 (pa_cons (pv 1) pa_nil)))) (pw_or1 (pt_cmpR op_gt (pe_callB call_len_seq rfl T.len PySem.boot_len (pa_cons (pv 1) pa_nil)) (pe_callB call_len_seq rfl T.len PySem.boot_len (pa_cons (pv 0) pa_nil)) (nomark _)))))
      (pss_one (ps_ret pe_bl)) pss_nil)
    (pss_cons (ps_set (i := 2) scAreFacts.nd rfl (.inl rfl) (pe_callTy (call_dictZ (by rfl)) rfl T.dict vd_ (pa_cons (pv 0) pa_nil)))
    (pss_cons (ps_set (i := 3) scAreFacts.nd rfl (.inl rfl) pe_dnewK)
    (pss_cons (ps_for PassesOwn.never rfl (pi_row (pv 1)) (pg_name (i := 4) scAreFacts.nd rfl (.inl rfl))
      (pss_cons (ps_if (pt_not (pt_val (pe_call GP hr rfl mP kP bP .nil pass0 (pa_cons (pv 4) pa_nil)))) (pss_one (ps_ret pe_bl)) pss_nil)
      (pss_cons (ps_asg (pv 4) (pg_row rfl (pgs_cons (pg_name (i := 5) scAreFacts.nd rfl (.inl rfl)) (pgs_cons (pg_name (i := 6) scAreFacts.nd rfl (.inl rfl)) pgs_nil))))
      (pss_cons (ps_if (PW.pt (pw_or (pt_not (pt_val (pe_isi T.isi T.str vs_ (pv 5)))) (pw_or (pt_cmp (pc_din hu1 (pv 5) (pv 3)) (by with_unfolding_all rfl)) (pw_or1 (pt_cmp (pc_dnotin hu1 (pv 5) (pv 2)) (by with_unfolding_all rfl))))))
        (pss_one (ps_ret pe_bl)) pss_nil)
      (pss_cons (ps_if (pt_cmpR (op_notInZ hu2) (pv 6) (pe_dget hu1 (pv 2) (pv 5) (fun _ _ => rfl)) (by with_unfolding_all rfl)) (pss_one (ps_ret pe_bl)) pss_nil)
      (pss_one (ps_dput hu1 (pv 3) (pv 5) pe_bl rfl)))))))
    (pss_one (ps_ret pe_bl))))), ?_⟩
  refine ⟨_, rfl, v, d, rfl, hd, fun H1 s1 => ⟨_, rfl, ?_⟩⟩
  cases e : rowOf d with
  | none =>
    have e1 : isRow d = false := by
      unfold isRow
      rw [e]
      rfl
    rw [e1]
    refine iteT (iteT (q_is ?_ (k H1 s1)))
    unfold areFacts
    rw [e]
  | some fs =>
    have e1 : isRow d = true := by
      unfold isRow
      rw [e]
      rfl
    rw [e1]
    obtain ⟨q, ys, rfl, hq, ha⟩ := row_len (dp_same s1 hd) e
    have hlen := dps_len ha
    obtain ⟨ps, kvs, hz, hT, hn, hm⟩ := ht
    have hz1 : SqZ H1 p (ps.map V.ref) := hz.same s1
    have hT1 := hT.same s1
    have hps : (ps.map V.ref).length = t.length := by rw [List.length_map, hT1.len.1]
    refine iteF ⟨_, rfl, q, ys, rfl, hq, _, rfl, p, _, rfl, .inr hz1.sqT, _, _, rfl, rfl, _, rfl, ?_⟩
    by_cases hl : fs.length ≤ t.length
    · refine iteDF (by omega) ?_
      refine ⟨_, rfl, p, ps, kvs, rfl, .inr hz1, hT1.prs, fun Av hA => ?_⟩
      intro Bv hB
      have hkeys : (kvs.map (·.1)).Nodup := by
        rw [hT1.len.2]
        exact nodup_inr hn
      have hmk : mergeK [] kvs = kvs := (merge_nodup kvs [] (fun _ _ => rfl) hkeys).trans (List.nil_append kvs)
      rw [hmk] at hB ⊢
      have hAB : Av ≠ Bv := fun z => by
        rw [z, upd_same] at hB
        cases hB
      have s2 : Same H1 (upd (upd H1 Av (.dK kvs)) Bv (.dK [])) := (new_same hA _).trans (new_same hB _)
      have areq : areFacts t d = goFacts t [] fs := by
        unfold areFacts
        rw [e]
        show (decide (fs.length ≤ t.length) && goFacts t [] fs) = _
        rw [decide_eq_true hl, Bool.true_and]
      show tFor (iRow K (tVar 1)) (gName 4) _ _ _ _
      refine for_row (ys := ys) (H0 := H1) (fun i σ H' => ∃ (seen : List Str) (told : List (Key × V)) (f4 f5 f6 : Option V), σ = [some (.ref p), some (.ref q), some (.ref Av), some (.ref Bv), f4, f5, f6] ∧ H' Av = some (.dK kvs) ∧ H' Bv = some (.dK told) ∧ told.length ≤ i ∧
        (∀ n, (valV told (.inr n)).isSome = seen.contains n) ∧ Same H1 H' ∧ areFacts t d = goFacts t seen (fs.drop i)) (fun Q' z => ⟨_, rfl, z⟩) hq ?_ ?_ ?_ ?_
      · refine ⟨[], [], none, none, none, rfl, ?_, upd_same, Nat.le_refl _, fun n => rfl, s2, areq⟩
        rw [upd_ne hAB, upd_same]
      · rintro i σ H' ⟨_, _, _, _, _, _, _, _, _, _, z, _⟩
        exact z
      · rintro i x σ H2 hi ⟨seen, told, f4, f5, f6, rfl, h1, h2, h3, h4, h5, h6⟩ hx
        obtain ⟨f, hf1, hdf⟩ := dps_get ha hx
        have hfm : f ∈ fs := List.mem_of_getElem? hf1
        have hdrop : fs.drop i = f :: fs.drop (i + 1) := by
          obtain ⟨hi2, e2⟩ := List.getElem?_eq_some_iff.mp hf1
          rw [List.drop_eq_getElem_cons hi2, e2]
        rw [hdrop] at h6
        refine ⟨_, rfl, x, f, rfl, dp_same h5 hdf, fun H3 s3 => ⟨_, rfl, ?_⟩⟩
        have s13 : Same H1 H3 := h5.trans s3
        have no : areFacts t d = false → Q (.bl false) H3 := fun z => q_is z.symm (k _ (s1.trans s13))
        cases ep : isPair f with
        | false => exact iteT (no (h6.trans (go_none (pair_no ep))))
        | true =>
          obtain ⟨a, b, e2, e3⟩ := pair_yes ep
          refine iteF ?_
          obtain ⟨r, zs, rfl, hz2, hzs⟩ := row_len (dp_same s13 hdf) e3
          obtain ⟨va, vb, rfl, hva, hvb⟩ : ∃ va vb, zs = [va, vb] ∧ Dp K H3 va a ∧ Dp K H3 vb b := by
            cases hzs with
            | cons q1 q2 =>
              cases q2 with
              | cons q3 q4 =>
                cases q4
                exact ⟨_, _, rfl, q1, q3⟩
          have asg : ∀ Q' : L2.St → Hp → Prop, Q' [some (.ref p), some (.ref q), some (.ref Av), some (.ref Bv), some (.ref r), some va, some vb] H3 →
              gRow K 2 (gCons (gName 5) (gCons (gName 6) gNil)) (.ref r) [some (.ref p), some (.ref q), some (.ref Av), some (.ref Bv), some (.ref r), f5, f6] H3 Q' := fun Q' z => by
            rcases hz2 with hz2 | hz2
            · exact .inr ⟨r, [va, vb], rfl, hz2, rfl, va, [vb], rfl, vb, [], rfl, rfl, z⟩
            · exact .inl ⟨r, [va, vb], rfl, hz2, rfl, va, [vb], rfl, vb, [], rfl, rfl, z⟩
          refine ⟨_, rfl, asg _ ?_⟩
          refine ⟨_, rfl, _, _, _, _, _, rfl, .ty _, tyD hva, kit_str (dp_no_dict hva), _, rfl, ?_⟩
          cases es : isStr a with
          | false => exact iteT (iteT (no (h6.trans (go_nostr e2 es))))
          | true =>
            obtain ⟨n, rfl⟩ : ∃ n, a = .str n := by
              cases a <;> first | exact ⟨_, rfl⟩ | cases es
            cases hva
            have h1' := s3 _ _ h1
            have h2' := s3 _ _ h2
            refine iteF ⟨_, rfl, _, rfl, Bv, _, rfl, DGet.k (k := .inr n) h2', _, rfl, ?_⟩
            rw [h4]
            cases en : seen.contains n with
            | true => exact iteT (iteT (no (h6.trans (go_seen e2 en))))
            | false =>
              refine iteF ⟨_, rfl, _, rfl, Av, _, rfl, DGet.k (k := .inr n) h1', _, rfl, ?_⟩
              rcases hT1.val (n := n) with ⟨g1, g2⟩ | ⟨ws, vp, g1, g2, g3, g4⟩
              · rw [g2]
                exact iteT (no (h6.trans (go_new e2 g1)))
              · rw [g2]
                refine iteF ?_
                have hg := DGet.k (k := .inr n) h1'
                rw [g2] at hg
                refine ⟨_, rfl, _, rfl, _, rfl, Av, _, rfl, hg, vp, ws, b, rfl, seqT_same s13 g3, g4, hvb, hf fs e f hfm _ _ e2, _, rfl, ?_⟩
                have g5 := go_old (t := t) (seen := seen) (fs := fs.drop (i + 1)) e2 g1
                rw [en] at g5
                cases ew : stands ws b with
                | false =>
                  refine iteT (no (h6.trans (g5.trans ?_)))
                  rw [ew] <;> rfl
                | true =>
                  refine iteF ⟨_, rfl, _, rfl, Bv, _, rfl, DPut.k (k := .inr n) h2' (small1000 (by omega)), ?_⟩
                  refine ⟨n :: seen, putK told (.inr n) (.bl true), some (.ref r), some (.str n), some vb, rfl, ?_, upd_same, ?_, ?_, ?_, ?_⟩
                  · rw [upd_ne hAB]
                    exact h1'
                  · have := length_putK told (.inr n) (.bl true)
                    omega
                  · intro m
                    rw [valV_put, List.contains_cons]
                    by_cases em : m = n
                    · subst em
                      rw [if_pos rfl]
                      simp
                    · rw [if_neg (fun z => em (Sum.inr.inj z)), h4 m]
                      have : (m == n) = false := beq_eq_false_iff_ne.mpr em
                      rw [this, Bool.false_or]
                  · refine fun b' o z => ?_
                    have nB : b' ≠ Bv := fun y => by
                      subst y
                      have := (new_same hA (.dK kvs)) _ _ z
                      rw [hB] at this
                      cases this
                    rw [upd_ne nB]
                    exact s13 _ _ z
                  · rw [h6, g5, ew] <;> rfl
      · rintro σ H' ⟨seen, told, f4, f5, f6, rfl, h1, h2, h3, h4, h5, h6⟩
        rw [List.drop_eq_nil_of_le (by omega)] at h6
        exact q_is (h6.trans rfl).symm (k _ (s1.trans h5))
    · refine iteDT (by omega) (q_is ?_ (k H1 s1))
      unfold areFacts
      rw [e]
      show false = (decide (fs.length ≤ t.length) && goFacts t [] fs)
      rw [decide_eq_false hl, Bool.false_and]
end
end Q
set_option Elab.async false
set_option linter.all false
set_option maxRecDepth 100000
set_option maxHeartbeats 4000000
/-! ### in_sequence -/
namespace Q
open PySem L2 XD
/-- the word told with a name -/
def pick (n : Str) : List (Str × Str) → Option Str
  | [] => none
  | (m, w) :: r => if m = n then some w else pick n r
def sorted (t : List (Str × List Str)) (r : List (Str × Str)) : List (Str × Str) := t.filterMap fun e => (pick e.1 r).map fun w => (e.1, w)
/-- pairs of words, each a list or a tuple -/
inductive FactR (K : PySem.W.Frag) (H : Hp) : List Addr → List (Key × V) → List (Str × Str) → Prop
  | nil : FactR K H [] [] []
  | cons {q : Addr} {n w : Str} {ps : List Addr} {kvs : List (Key × V)} {r : List (Str × Str)} : (SqT K H q [.str n, .str w] ∨ SqL K H q [.str n, .str w]) → FactR K H ps kvs r → FactR K H (q :: ps) ((.inr n, .str w) :: kvs) ((n, w) :: r)
theorem FactR.prs {K : PySem.W.Frag} {H : Hp} : ∀ {ps : List Addr} {kvs : List (Key × V)} {r : List (Str × Str)}, FactR K H ps kvs r → Paired (fun p (kv : Key × V) => SqT K H p [kV kv.1, kv.2] ∨ SqL K H p [kV kv.1, kv.2]) ps kvs
  | _, _, _, .nil => .nil
  | _, _, _, .cons a c => .cons a (FactR.prs c)
theorem FactR.same {K : PySem.W.Frag} {H H' : Hp} (s : Same H H') : ∀ {ps : List Addr} {kvs : List (Key × V)} {r : List (Str × Str)}, FactR K H ps kvs r → FactR K H' ps kvs r
  | _, _, _, .nil => .nil
  | _, _, _, .cons a c => .cons (a.elim (fun q => .inl (seqT_same s q)) (fun q => .inr (s.seq q))) (FactR.same s c)
theorem FactR.keys {K : PySem.W.Frag} {H : Hp} : ∀ {ps : List Addr} {kvs : List (Key × V)} {r : List (Str × Str)}, FactR K H ps kvs r → kvs.map (·.1) = (r.map (·.1)).map Sum.inr
  | _, _, _, .nil => rfl
  | _, _, _, .cons a c => by rw [List.map_cons, List.map_cons, List.map_cons, FactR.keys c]
theorem FactR.val {K : PySem.W.Frag} {H : Hp} {n : Str} : ∀ {ps : List Addr} {kvs : List (Key × V)} {r : List (Str × Str)}, FactR K H ps kvs r → valV kvs (.inr n) = (pick n r).map V.str
  | _, _, _, .nil => rfl
  | _, _, _, .cons (n := m) (w := w) (r := r) a c => by
    by_cases e : m = n
    · subst e
      rw [valV_pos rfl]
      unfold pick
      rw [if_pos rfl] <;> rfl
    · rw [valV_neg (fun z => e (Sum.inr.inj z)), FactR.val c]
      conv => rhs; unfold pick
      rw [if_neg e]
/-- a rule as a form keeps it -/
def RuleAt (K : PySem.W.Frag) (H : Hp) (p : Addr) (r : List (Str × Str)) : Prop := ∃ qs : List Addr, SqZ H p (qs.map V.ref) ∧ Paired (fun q (e : Str × Str) => SqT K H q [.str e.1, .str e.2]) qs r
theorem prd_same {K : PySem.W.Frag} {H H' : Hp} (s : Same H H') : ∀ {qs : List Addr} {r : List (Str × Str)}, Paired (fun q (e : Str × Str) => SqT K H q [.str e.1, .str e.2]) qs r → Paired (fun q (e : Str × Str) => SqT K H' q [.str e.1, .str e.2]) qs r
  | _, _, .nil => .nil
  | _, _, .cons a b => .cons (seqT_same s a) (prd_same s b)
theorem prd_snoc {α β : Type} {R : α → β → Prop} : ∀ {xs : List α} {ys : List β} {x : α} {y : β}, Paired R xs ys → R x y → Paired R (xs ++ [x]) (ys ++ [y])
  | _, _, _, _, .nil, h => .cons h .nil
  | _, _, _, _, .cons a b, h => .cons a (prd_snoc b h)
theorem TabR.at {K : PySem.W.Frag} {H : Hp} : ∀ {ps : List Addr} {kvs : List (Key × V)} {t : List (Str × List Str)} {i : Nat} {x : V}, TabR K H ps kvs t → (ps.map V.ref)[i]? = some x →
    ∃ (q v : Addr) (n : Str) (ws : List Str), x = .ref q ∧ t[i]? = some (n, ws) ∧ SqT K H q [.str n, .ref v] ∧ SqT K H v (ws.map V.str)
  | _, _, _, _, _, .nil, e => by simp at e
  | _, _, _, 0, _, .cons (q := q) (v := v) (n := n) (ws := ws) a b o c, e => by
    simp at e
    exact ⟨q, v, n, ws, e.symm, rfl, a, b⟩
  | _, _, _, i + 1, x, .cons a b o c, e => by
    obtain ⟨q, v, n, ws, h1, h2, h3⟩ := TabR.at (i := i) (x := x) c (by simpa using e)
    exact ⟨q, v, n, ws, h1, by simpa using h2, h3⟩
theorem sorted_next {t : List (Str × List Str)} {r : List (Str × Str)} {i : Nat} {n : Str} {ws : List Str} (h : t[i]? = some (n, ws)) : sorted (t.take (i + 1)) r = sorted (t.take i) r ++ ((pick n r).map fun w => (n, w)).toList := by
  unfold sorted
  rw [take_one h, List.filterMap_append]
  cases e : pick n r with
  | none => simp [e]
  | some w => simp [e]
theorem sorted_len {t : List (Str × List Str)} {r : List (Str × Str)} : (sorted t r).length ≤ t.length := by
  unfold sorted
  exact List.length_filterMap_le _ _
theorem prd_len {α β : Type} {R : α → β → Prop} : ∀ {xs : List α} {ys : List β}, Paired R xs ys → xs.length = ys.length
  | _, _, .nil => rfl
  | _, _, .cons _ b => by rw [List.length_cons, List.length_cons, prd_len b]
theorem seqT_off {K : PySem.W.Frag} {H : Hp} {D q : Addr} {xs acc acc' : List V} (h : SqT K H q xs) (hD : H D = some (.lst acc)) : SqT K (upd H D (.lst acc')) q xs := by
  have n1 : ∀ {o : HO}, H q = some o → (∀ l, o ≠ .lst l) → q ≠ D := fun e1 e2 z => by
    subst z
    rw [hD] at e1
    exact e2 _ (Option.some.inj e1).symm
  rcases h with (h | ⟨o, h⟩) | h
  · exact .inl (.inl (by rw [upd_ne (n1 h (by intro l z; cases z))]; exact h))
  · exact .inl (.inr ⟨o, by rw [upd_ne (n1 h (by intro l z; cases z))]; exact h⟩)
  · exact .inr h
theorem prd_off {K : PySem.W.Frag} {H : Hp} {D : Addr} {acc acc' : List V} (hD : H D = some (.lst acc)) : ∀ {qs : List Addr} {r : List (Str × Str)}, Paired (fun q (e : Str × Str) => SqT K H q [.str e.1, .str e.2]) qs r →
    Paired (fun q (e : Str × Str) => SqT K (upd H D (.lst acc')) q [.str e.1, .str e.2]) qs r
  | _, _, .nil => .nil
  | _, _, .cons a b => .cons (seqT_off a hD) (prd_off hD b)
def spInSeq (K : PySem.W.Frag) : Sp := fun vs H Q _ => ∃ (p q : Addr) (t : List (Str × List Str)) (ps : List Addr) (kvs : List (Key × V)) (r : List (Str × Str)), vs = [.ref p, .ref q] ∧ TabAt K H p t ∧ (SqL K H q (ps.map V.ref) ∨ SqZ H q (ps.map V.ref)) ∧
  FactR K H ps kvs r ∧ (r.map (·.1)).Nodup ∧ ∀ z H', Same H H' → RuleAt K H' z (sorted t r) → Q (.ref z) H'
section
variable {P : Program} {w : World} {K : PySem.W.Frag} {mg : Str → Option Value} {base : Heap}
theorem scInSeq : FnScope ["fields", "facts", "value_of", "name", "_"] ["fields", "facts"] (defScope sInSeq) := ⟨rfl, rfl, rfl, by decide +kernel, rfl, by decide +kernel, by decide +kernel⟩
theorem ok_inseq {f : Addr} {fd : FuncData} (F : Fun K "in_sequence" "in_sequence" sInSeq f fd) (T : Bb mg) : FnOk P w K mg base CX0 1 f fd ["fields", "facts"] (spInSeq K) := by
  refine F.ok scInSeq (fun vs H Q E h => ?_) (fun cdv A outer s H vs Q E hr h => ?_)
  · obtain ⟨p, q, t, ps, kvs, r, rfl, _⟩ := h
    rfl
  obtain ⟨p, q, t, ps, kvs, r, rfl, ht, hq, hF, hn, k⟩ := h
  have vd_ : PySem.bootBuiltins "dict" = some (.type "dict") := by decide +kernel
  have vt_ : PySem.bootBuiltins "tuple" = some (.type "tuple") := by decide +kernel
  have hu1 : (A.deeper (PyProof.Rows.envOfC "in_sequence" (defScope sInSeq) s.heap.objs.size f cdv)).units + 1 < cLine := by
    have := hr.un
    omega
  refine ⟨_, pss_cons (ps_set (i := 2) scInSeq.nd rfl (.inr rfl) (pe_callTy (call_dictZ (by rfl)) rfl T.dict vd_ (pa_cons (pv 1) pa_nil)))
    (pss_one (ps_ret (pe_callTy call_tupZ rfl T.tup vt_ (pa_cons (pe_lc (own := [("name", 3), ("_", 4)]) (g := gTup K 2 (gCons (gName 3) (gCons (gName 4) gNil))) (by rfl) scInSeq.nd (pi_row (pv 0)) (blkOk_by (N := ["fields", "facts", "value_of", "name", "_"]) (sc := defScope sInSeq) (by decide +kernel))
      (fun _ _ _ _ _ => pg_tup rfl (pgs_cons (pg_name (i := 3) scInSeq.nd rfl (.inl rfl)) (pgs_cons (pg_name (i := 4) scInSeq.nd rfl (.inl rfl)) pgs_nil)))
      (fun _ _ _ _ _ => pts_one (pt_cmp (pc_din hu1 (pv 3) (pv 2)) (by with_unfolding_all rfl)))
      (fun _ _ _ _ _ => pe_tupZ (pa_cons (pv 3) (pa_cons (pe_dget hu1 (pv 2) (pv 3) (fun _ _ => rfl)) pa_nil)))) pa_nil)))), ?_⟩
  obtain ⟨ps0, tk, hz, hT, htn, htm⟩ := ht
  refine ⟨_, rfl, q, ps, kvs, rfl, hq, hF.prs, fun C hC => ?_⟩
  have hmk : mergeK [] kvs = kvs := (merge_nodup kvs [] (fun _ _ => rfl) (by rw [hF.keys]; exact nodup_inr hn)).trans (List.nil_append kvs)
  rw [hmk]
  have s2 : Same H (upd H C (.dK kvs)) := new_same hC _
  have hT2 := hT.same s2
  have hlen : (ps0.map V.ref).length = t.length := by rw [List.length_map, hT.len.1]
  show tLc (iRow K (tVar 0)) (gTup K 2 (gCons (gName 3) (gCons (gName 4) gNil))) (tB (tDIn (tVar 3) (tVar 2))) (tTupZ (tCons (tVar 3) (tCons (tDGet (tVar 2) (tVar 3)) tNil))) [3, 4]
    [some (.ref p), some (.ref q), some (.ref C), none, none] (upd H C (.dK kvs)) (fun x H1 => rTupZ K [x] H1 Q)
  refine lc_row (ys := ps0.map V.ref) (fun D i H' => ∃ qs : List Addr, H' D = some (.lst (qs.map V.ref)) ∧ Paired (fun q (e : Str × Str) => SqT K H' q [.str e.1, .str e.2]) qs (sorted (t.take i) r) ∧ Same (upd H C (.dK kvs)) H')
    (fun Q' z => ⟨_, rfl, z⟩) (.inr (hz.same s2).sqT) (fun D hD => ⟨[], upd_same, .nil, new_same hD _⟩) (fun D i H' hD hP => hP.elim fun _ z => z.2.2) (fun D i x H' hD hi hP hx => ?_) (fun D H' hD hP => ?_)
  · obtain ⟨qs, g1, g2, g3⟩ := hP
    obtain ⟨q1, v1, n, ws, rfl, e1, e2, e3⟩ := hT2.at hx
    have hC' := g3 _ _ (upd_same (H := H) (a := C) (o := .dK kvs))
    have hv := hF.val (n := n)
    have hnx := sorted_next (r := r) e1
    refine ⟨q1, _, rfl, seqT_same g3 e2, rfl, .str n, _, rfl, .ref v1, [], rfl, rfl, rfl, _, rfl, _, rfl, C, _, rfl, DGet.k (k := .inr n) hC', _, rfl, ?_⟩
    rw [hv]
    cases ep : pick n r with
    | none =>
      refine iteF ⟨qs, g1, ?_, g3⟩
      rw [hnx, ep]
      simpa using g2
    | some w1 =>
      have hg := DGet.k (k := .inr n) hC'
      rw [hv, ep] at hg
      refine iteT ⟨_, rfl, _, rfl, _, rfl, C, _, rfl, hg, (by show 2 ≤ sizeLine; decide), fun z o hz0 ho => ?_⟩
      have hDz : D ≠ z := fun y => by
        rw [y, hz0] at g1
        cases g1
      have sz : Same H' (upd H' z (.frz o (.tup [.str n, .str w1]))) := new_same hz0 _
      have hD4 := sz _ _ g1
      have hql : qs.length ≤ t.length := by
        rw [prd_len g2]
        refine Nat.le_trans sorted_len ?_
        rw [List.length_take]
        exact Nat.min_le_right _ _
      refine ⟨_, hD4, small1000 (by rw [List.length_map]; omega), qs ++ [z], ?_, ?_, fun b o' y => ?_⟩
      · rw [upd_same, List.map_append] <;> rfl
      · rw [hnx, ep]
        refine prd_off hD4 (prd_snoc (prd_same sz g2) ?_)
        exact .inl (.inr ⟨o, upd_same⟩)
      · rw [upd_ne (ne_of_none y hD)]
        exact sz _ _ (g3 _ _ y)
  · obtain ⟨qs, g1, g2, g3⟩ := hP
    rw [List.take_of_length_le (by omega)] at g2
    refine ⟨D, _, rfl, .inl ⟨SqL.of g1, fun l o hl ho => ?_⟩⟩
    have sl : Same H' (upd H' l (.frz o (.tup (qs.map V.ref)))) := new_same hl _
    exact k l _ ((s2.trans g3).trans sl) ⟨qs, ⟨o, upd_same, ho⟩, prd_same sl g2⟩
end
end Q
set_option Elab.async false
set_option linter.all false
set_option maxRecDepth 100000
set_option maxHeartbeats 4000000
/-! ### _are_values, _are_fields -/
namespace Q
open PySem L2 XD
structure Fm (mg : Str → Option Value) : Prop where
  mf : ∃ t, mg "MOST_FIELDS" = some (.int 6 t)
  mv : ∃ t, mg "MOST_VALUES" = some (.int 5 t)
  mr : ∃ t, mg "MOST_RULES" = some (.int 20 t)
  mp : ∃ t, mg "MOST_PAIRS" = some (.int 4 t)
  mfi : ∃ t, mg "MOST_FILLINGS" = some (.int 1000 t)
/-- a def that is known -/
structure Kn (P : Program) (w : World) (K : PySem.W.Frag) (mg : Str → Option Value) (base : Heap) (k : Nat) (x : Str) (ps : List Str) (sp : Sp) : Prop where
  ex : ∃ f fd, FnOk P w K mg base CX0 k f fd ps sp ∧ PySem.W.keepIn K (.ref f) = true ∧ Binds K fd ps [] ∧ mg x = some (.ref f)
def areValues (d : PyData) : Bool := match rowOf d with
  | some ws => decide (1 ≤ ws.length) && (decide (ws.length ≤ 5) && unlike ws)
  | none => false
def MShort (d : PyData) : Prop := ∀ ws, rowOf d = some ws → ∀ w ∈ ws, Short w
def spAreValues (K : PySem.W.Frag) : Sp := fun vs H Q _ => ∃ (v : V) (d : PyData), vs = [v] ∧ Dp K H v d ∧ MShort d ∧ ∀ H', Same H H' → Q (.bl (areValues d)) H'
theorem isRow_of {d : PyData} {xs : List PyData} (h : rowOf d = some xs) : isRow d = true := by
  unfold isRow
  rw [h]
  rfl
theorem isRow_no {d : PyData} (h : rowOf d = none) : isRow d = false := by
  unfold isRow
  rw [h]
  rfl
section
variable {P : Program} {w : World} {K : PySem.W.Frag} {mg : Str → Option Value} {base : Heap}
theorem scAreValues : FnScope ["values"] ["values"] (defScope sAreValues) := ⟨rfl, rfl, rfl, by decide +kernel, rfl, by decide +kernel, by decide +kernel⟩
theorem ok_arevalues {f : Addr} {fd : FuncData} (F : Fun K "_are_values" "_are_values" sAreValues f fd) (T : Bb mg) (C : Fm mg) (KR : Kn P w K mg base 1 "is_row" ["thing"] (spIsRow K)) (KU : Kn P w K mg base 3 "are_unlike_words" ["things"] (spUnlike K)) :
    FnOk P w K mg base CX0 4 f fd ["values"] (spAreValues K) := by
  obtain ⟨fR, fdR, GR, kR, bR, mR⟩ := KR.ex
  obtain ⟨fU, fdU, GU, kU, bU, mU⟩ := KU.ex
  obtain ⟨tV, hV⟩ := C.mv
  refine F.ok scAreValues (fun vs H Q E h => ?_) (fun cdv A outer s H vs Q E hr h => ?_)
  · obtain ⟨v, d, rfl, _⟩ := h
    rfl
  obtain ⟨v, d, rfl, hd, hs, k⟩ := h
  refine ⟨_, pss_one (ps_ret (pe_and (pe_call GR (hr.mono (by decide)) rfl mR kR bR .nil pass0 (pa_cons (pv 0) pa_nil))
    (pe_and (pe_chain op_le op_le pe_int (pe_callB call_len_seq rfl T.len PySem.boot_len (pa_cons (pv 0) pa_nil)) (pe_glob (v := .int 5) (by rfl) hV ⟨_, rfl⟩))
    (pe_one (pe_call GU hr rfl mU kU bU .nil pass0 (pa_cons (pv 0) pa_nil)))))), ?_⟩
  refine ⟨_, rfl, v, d, rfl, hd, fun H1 s1 => ⟨_, rfl, ?_⟩⟩
  cases e : rowOf d with
  | none =>
    rw [isRow_no e]
    refine iteF (q_is ?_ (k H1 s1))
    unfold areValues
    rw [e]
  | some ws =>
    rw [isRow_of e]
    obtain ⟨p, ys, rfl, hq, ha⟩ := row_len (dp_same s1 hd) e
    have hlen := dps_len ha
    have eq0 : areValues d = (decide (1 ≤ ws.length) && (decide (ws.length ≤ 5) && unlike ws)) := by
      unfold areValues
      rw [e]
    refine iteT ⟨_, rfl, p, ys, rfl, hq, _, _, rfl, rfl, _, rfl, ?_⟩
    by_cases h1 : 1 ≤ ws.length
    · rw [decide_eq_true h1, Bool.true_and] at eq0
      refine iteDT (by omega) ⟨_, _, rfl, rfl, _, rfl, ?_⟩
      by_cases h5 : ws.length ≤ 5
      · rw [decide_eq_true h5, Bool.true_and] at eq0
        refine iteDT (by omega) ⟨_, rfl, p, ys, ws, rfl, hq, ha, hs ws e, by omega, fun H2 s2 => q_is eq0.symm (k _ (s1.trans s2))⟩
      · rw [decide_eq_false h5, Bool.false_and] at eq0
        exact iteDF (by omega) (q_is eq0.symm (k H1 s1))
    · rw [decide_eq_false h1, Bool.false_and] at eq0
      exact iteDF (by omega) ⟨_, rfl, iteF (q_is eq0.symm (k H1 s1))⟩
end
def fieldOk (f : PyData) : Bool := match pairOf f with
  | some (_, v) => areValues v
  | none => false
def firstOf (f : PyData) : PyData := match pairOf f with
  | some (a, _) => a
  | none => .none
def areFields (d : PyData) : Bool := match rowOf d with
  | some fs => decide (1 ≤ fs.length) && (decide (fs.length ≤ 6) && (fs.all fieldOk && unlike (fs.map firstOf)))
  | none => false
/-- the texts in it are short -/
def FShort (d : PyData) : Prop := ∀ fs, rowOf d = some fs → ∀ f ∈ fs, ∀ a b, pairOf f = some (a, b) → Short a ∧ MShort b
def spAreFields (K : PySem.W.Frag) : Sp := fun vs H Q _ => ∃ (v : V) (d : PyData), vs = [v] ∧ Dp K H v d ∧ FShort d ∧ ∀ H', Same H H' → Q (.bl (areFields d)) H'
def rBoth (K : PySem.W.Frag) : V → V → Hp → VK → Prop := fun x y H Q => rIxL K x y H Q ∨ rIxT K x y H Q
theorem ix_both {X : Cx} (K : PySem.W.Frag) (h : X.K = K) : IxR X (rBoth K) := by
  subst h
  exact IxR.or ix_list ix_tup
theorem ix_row {K : PySem.W.Frag} {H : Hp} {p : Addr} {xs : List V} {i : Int} {v : V} {Q : VK} (h : SqL K H p xs ∨ SqT K H p xs) (e : atI xs i = some v) (q : Q v H) : rBoth K (.ref p) (.int i) H Q :=
  h.elim (fun z => .inl ⟨p, xs, i, v, rfl, rfl, z, e, q⟩) (fun z => .inr ⟨p, xs, i, v, rfl, rfl, z, e, q⟩)
theorem dps_snoc {K : PySem.W.Frag} {H : Hp} {v : V} {d : PyData} : ∀ {vs : List V} {ds : List PyData}, DpAll K H vs ds → Dp K H v d → DpAll K H (vs ++ [v]) (ds ++ [d])
  | _, _, .nil, h => .cons h .nil
  | _, _, .cons a b, h => .cons a (dps_snoc b h)
/-- what stands behind a pair -/
theorem pair_at {K : PySem.W.Frag} {H : Hp} {v : V} {f a b : PyData} (h : Dp K H v f) (e : pairOf f = some (a, b)) : ∃ (r : Addr) (va vb : V), v = .ref r ∧ (SqL K H r [va, vb] ∨ SqT K H r [va, vb]) ∧ Dp K H va a ∧ Dp K H vb b := by
  have e3 : rowOf f = some [a, b] := by
    unfold pairOf at e
    cases er : rowOf f with
    | none =>
      rw [er] at e
      cases e
    | some xs =>
      rw [er] at e
      match xs, e with
      | [_, _], e =>
        cases e
        rfl
  obtain ⟨r, zs, rfl, hz2, hzs⟩ := row_len h e3
  cases hzs with
  | cons q1 q2 =>
    cases q2 with
    | cons q3 q4 =>
      cases q4
      exact ⟨r, _, _, rfl, hz2, q1, q3⟩
theorem pair_isPair {f a b : PyData} (e : pairOf f = some (a, b)) : isPair f = true := by
  cases h : isPair f with
  | true => rfl
  | false =>
    rw [pair_no h] at e
    cases e
section
variable {P : Program} {w : World} {K : PySem.W.Frag} {mg : Str → Option Value} {base : Heap}
theorem scAreFields : FnScope ["fields", "field"] ["fields"] (defScope sAreFields) := ⟨rfl, rfl, rfl, by decide +kernel, rfl, by decide +kernel, by decide +kernel⟩
theorem ok_arefields {f : Addr} {fd : FuncData} (F : Fun K "_are_fields" "_are_fields" sAreFields f fd) (T : Bb mg) (C : Fm mg) (KR : Kn P w K mg base 1 "is_row" ["thing"] (spIsRow K)) (KP : Kn P w K mg base 2 "is_pair" ["thing"] (spIsPair K)) (KU : Kn P w K mg base 3 "are_unlike_words" ["things"] (spUnlike K)) (KV : Kn P w K mg base 4 "_are_values" ["values"] (spAreValues K)) :
    FnOk P w K mg base CX0 5 f fd ["fields"] (spAreFields K) := by
  obtain ⟨fR, fdR, GR, kR, bR, mR⟩ := KR.ex
  obtain ⟨fP, fdP, GP, kP, bP, mP⟩ := KP.ex
  obtain ⟨fU, fdU, GU, kU, bU, mU⟩ := KU.ex
  obtain ⟨fV, fdV, GV, kV, bV, mV⟩ := KV.ex
  obtain ⟨tF, hF⟩ := C.mf
  refine F.ok scAreFields (fun vs H Q E h => ?_) (fun cdv A outer s H vs Q E hr h => ?_)
  · obtain ⟨v, d, rfl, _⟩ := h
    rfl
  obtain ⟨v, d, rfl, hd, hs, k⟩ := h
  refine ⟨_, pss_cons (ps_if (PW.pt (pw_or (pt_not (pt_val (pe_call GR (hr.mono (by decide)) rfl mR kR bR .nil pass0 (pa_cons (pv 0) pa_nil)))) (pw_or1 (pt_not (pt_chain op_le op_le pe_int (pe_callB call_len_seq rfl T.len PySem.boot_len (pa_cons (pv 0) pa_nil)) (pe_glob (v := .int 6) (by rfl) hF ⟨_, rfl⟩))))))
      (pss_one (ps_ret pe_bl)) pss_nil)
    (pss_cons (ps_for PassesOwn.never rfl (pi_row (pv 0)) (pg_name (i := 1) scAreFields.nd rfl (.inl rfl))
      (pss_one (ps_if (PW.pt (pw_or (pt_not (pt_val (pe_call GP (hr.mono (by decide)) rfl mP kP bP .nil pass0 (pa_cons (pv 1) pa_nil)))) (pw_or1 (pt_not (pt_val (pe_call GV hr rfl mV kV bV .nil pass0 (pa_cons (pe_ix (ix_both K rfl) (pv 1) pe_int (fun _ _ => rfl)) pa_nil)))))))
        (pss_one (ps_ret pe_bl)) pss_nil)))
    (pss_one (ps_ret (pe_call GU (hr.mono (by decide)) rfl mU kU bU .nil pass0 (pa_cons (pe_lc (own := [("field", 1)]) (g := gName 1) (tt := tYes) (by rfl) scAreFields.nd (pi_row (pv 0)) (blkOk_by (N := ["fields", "field"]) (sc := defScope sAreFields) (by decide +kernel))
      (fun _ _ _ _ _ => pg_name (i := 1) scAreFields.nd rfl (.inl rfl)) (fun _ _ _ _ _ => pts_nil) (fun _ _ _ _ _ => pe_ix (ix_both K rfl) (pv 1) pe_int (fun _ _ => rfl))) pa_nil))))), ?_⟩
  refine ⟨_, rfl, v, d, rfl, hd, fun H1 s1 => ⟨_, rfl, ?_⟩⟩
  cases e : rowOf d with
  | none =>
    rw [isRow_no e]
    refine iteT (iteT (q_is ?_ (k H1 s1)))
    unfold areFields
    rw [e]
  | some fs =>
    rw [isRow_of e]
    obtain ⟨p, ys, rfl, hq, ha⟩ := row_len (dp_same s1 hd) e
    have hlen := dps_len ha
    have eq0 : areFields d = (decide (1 ≤ fs.length) && (decide (fs.length ≤ 6) && (fs.all fieldOk && unlike (fs.map firstOf)))) := by
      unfold areFields
      rw [e]
    refine iteF ⟨_, rfl, p, ys, rfl, hq, _, _, rfl, rfl, _, rfl, ?_⟩
    by_cases h1 : 1 ≤ fs.length
    · rw [decide_eq_true h1, Bool.true_and] at eq0
      refine iteDT (by omega) ⟨_, _, rfl, rfl, _, rfl, ?_⟩
      by_cases h5 : fs.length ≤ 6
      · rw [decide_eq_true h5, Bool.true_and] at eq0
        rw [decide_eq_true (by omega : (ys.length : Int) ≤ 6)]
        refine iteF ?_
        show tFor (iRow K (tVar 0)) (gName 1) _ _ _ _
        refine for_row (ys := ys) (H0 := H1) (fun i σ H' => ∃ f1 : Option V, σ = [some (.ref p), f1] ∧ Same H1 H' ∧ fs.all fieldOk = (fs.drop i).all fieldOk) (fun Q' z => ⟨_, rfl, z⟩) hq ⟨none, rfl, Same.refl H1, rfl⟩ ?_ ?_ ?_
        · rintro i σ H' ⟨_, _, z, _⟩
          exact z
        · rintro i x σ H2 hi ⟨f1, rfl, s2, h6⟩ hx
          obtain ⟨f, hf1, hdf⟩ := dps_get ha hx
          have hfm : f ∈ fs := List.mem_of_getElem? hf1
          have hdrop : fs.drop i = f :: fs.drop (i + 1) := by
            obtain ⟨hi2, e2⟩ := List.getElem?_eq_some_iff.mp hf1
            rw [List.drop_eq_getElem_cons hi2, e2]
          rw [hdrop, List.all_cons] at h6
          have no : ∀ H3, Same H1 H3 → fieldOk f = false → Q (.bl false) H3 := fun H3 s3 z => q_is (by rw [eq0, h6, z] <;> rfl) (k _ (s1.trans s3))
          refine ⟨_, rfl, x, f, rfl, dp_same s2 hdf, fun H3 s3 => ⟨_, rfl, ?_⟩⟩
          have s13 : Same H1 H3 := s2.trans s3
          cases ep : pairOf f with
          | none =>
            have : isPair f = false := by
              cases z : isPair f with
              | false => rfl
              | true =>
                obtain ⟨a, b, z2, _⟩ := pair_yes z
                rw [ep] at z2
                cases z2
            rw [this]
            exact iteT (iteT (no _ s13 (by unfold fieldOk; rw [ep])))
          | some ab =>
            obtain ⟨a, b⟩ := ab
            rw [pair_isPair ep]
            obtain ⟨r, va, vb, rfl, hr2, hva, hvb⟩ := pair_at (dp_same s13 hdf) ep
            have eok : fieldOk f = areValues b := by
              unfold fieldOk
              rw [ep]
            refine iteF ⟨_, rfl, ix_row hr2 rfl ⟨vb, b, rfl, hvb, (hs fs e f hfm a b ep).2, fun H4 s4 => ⟨_, rfl, ?_⟩⟩⟩
            have s14 : Same H1 H4 := s13.trans s4
            rw [← eok]
            cases ev : fieldOk f with
            | false => exact iteT (no _ s14 ev)
            | true =>
              refine iteF ⟨_, rfl, s14, ?_⟩
              rw [h6, ev, Bool.true_and]
        · rintro σ H' ⟨f1, rfl, s2, h6⟩
          rw [List.drop_eq_nil_of_le (by omega)] at h6
          have hall : fs.all fieldOk = true := h6
          rw [hall, Bool.true_and] at eq0
          have s02 : Same H H' := s1.trans s2
          show tLc (iRow K (tVar 0)) (gName 1) tYes (tOp (rBoth K) (tVar 1) (tC (.int 0))) [1] [some (.ref p), f1] H' (fun x H2 => spUnlike K ([x] ++ []) H2 Q E0)
          -- the first parts
          have pick1 : ∀ {i : Nat} {x : V} {f : PyData} {H3 : Hp}, Same H1 H3 → ys[i]? = some x → fs[i]? = some f → ∃ (r : Addr) (va vb : V), x = .ref r ∧ (SqL K H3 r [va, vb] ∨ SqT K H3 r [va, vb]) ∧ Dp K H3 va (firstOf f) := fun {i x f H3} s3 hx hf1 => by
            obtain ⟨f', hf2, hdf⟩ := dps_get ha hx
            rw [hf1] at hf2
            cases hf2
            have hfm : f ∈ fs := List.mem_of_getElem? hf1
            have hok := List.all_eq_true.mp hall f hfm
            cases ep : pairOf f with
            | none =>
              unfold fieldOk at hok
              rw [ep] at hok
              cases hok
            | some ab =>
              obtain ⟨a, b⟩ := ab
              obtain ⟨r, va, vb, h1, h2, h3, _⟩ := pair_at (dp_same s3 hdf) ep
              have ef : firstOf f = a := by
                unfold firstOf
                rw [ep]
              rw [ef]
              exact ⟨r, va, vb, h1, h2, h3⟩
          refine lc_row (ys := ys) (fun D i H3 => ∃ vs : List V, H3 D = some (.lst vs) ∧ DpAll K H1 vs ((fs.take i).map firstOf) ∧ Same H' H3) (fun Q' z => ⟨_, rfl, z⟩) (sq_same s2 hq) (fun D hD => ⟨[], upd_same, .nil, new_same hD _⟩) (fun D i H3 _ hP => hP.elim fun _ z => z.2.2) (fun D i x H3 hD hi hP hx => ?_) (fun D H3 hD hP => ?_)
          · obtain ⟨vs, g1, g2, g3⟩ := hP
            obtain ⟨f, hf1, _⟩ := dps_get ha hx
            obtain ⟨r, va, vb, rfl, h2', h3'⟩ := pick1 (Same.refl H1) hx hf1
            refine ⟨rfl, ?_⟩
            unfold tYes
            refine iteT ⟨_, rfl, ix_row (sq_same (s2.trans g3) h2') rfl ⟨vs, g1, small1000 ?_, vs ++ [va], upd_same, ?_, fun b o z => ?_⟩⟩
            · rw [dps_len g2, List.length_map, List.length_take]
              omega
            · rw [take_one hf1, List.map_append]
              exact dps_snoc g2 h3'
            · rw [upd_ne (ne_of_none z hD)]
              exact g3 _ _ z
          · obtain ⟨vs, g1, g2, g3⟩ := hP
            rw [List.take_of_length_le (by omega)] at g2
            refine ⟨D, vs, fs.map firstOf, rfl, .inl (SqL.of g1), dps_same (s2.trans g3) g2, ?_, by rw [List.length_map]; omega, fun H4 s4 => q_is eq0.symm (k _ ((s02.trans g3).trans s4))⟩
            intro a hm
            obtain ⟨f, hfm, rfl⟩ := List.mem_map.mp hm
            cases ep : pairOf f with
            | none =>
              have : firstOf f = .none := by
                unfold firstOf
                rw [ep]
              rw [this]
              exact True.intro
            | some ab =>
              obtain ⟨a, b⟩ := ab
              have ef : firstOf f = a := by
                unfold firstOf
                rw [ep]
              rw [ef]
              exact (hs fs e f hfm a b ep).1
      · rw [decide_eq_false h5, Bool.false_and] at eq0
        rw [decide_eq_false (by omega : ¬ (ys.length : Int) ≤ 6)]
        exact iteT (q_is eq0.symm (k H1 s1))
    · rw [decide_eq_false h1, Bool.false_and] at eq0
      exact iteDF (by omega) ⟨_, rfl, iteT (q_is eq0.symm (k H1 s1))⟩
end
end Q
set_option Elab.async false
set_option linter.all false
set_option maxRecDepth 100000
set_option maxHeartbeats 4000000
/-! ### _are_rules, _ways_to_fill -/
namespace Q
open PySem L2 XD
def ruleOk (t : List (Str × List Str)) (d : PyData) : Bool := match rowOf d with
  | some fs => areFacts t d && (decide (1 ≤ fs.length) && decide (fs.length ≤ 4))
  | none => false
def areRules (t : List (Str × List Str)) (d : PyData) : Bool := match rowOf d with
  | some rs => decide (rs.length ≤ 20) && rs.all (ruleOk t)
  | none => false
def ROk (d : PyData) : Prop := ∀ rs, rowOf d = some rs → ∀ r ∈ rs, FOk r
theorem TabAt.same {K : PySem.W.Frag} {H H' : Hp} {p : Addr} {t : List (Str × List Str)} (s : Same H H') (h : TabAt K H p t) : TabAt K H' p t := by
  obtain ⟨ps, kvs, a, b, c⟩ := h
  exact ⟨ps, kvs, a.same s, b.same s, c⟩
theorem facts_row {t : List (Str × List Str)} {d : PyData} (h : areFacts t d = true) : ∃ fs, rowOf d = some fs := by
  unfold areFacts at h
  cases e : rowOf d with
  | some fs => exact ⟨fs, rfl⟩
  | none =>
    rw [e] at h
    cases h
theorem ruleOk_no {t : List (Str × List Str)} {d : PyData} (h : areFacts t d = false) : ruleOk t d = false := by
  unfold ruleOk
  cases e : rowOf d with
  | none => rfl
  | some fs =>
    show (areFacts t d && _) = false
    rw [h, Bool.false_and]
theorem ruleOk_yes {t : List (Str × List Str)} {d : PyData} {fs : List PyData} (e : rowOf d = some fs) (h : areFacts t d = true) : ruleOk t d = (decide (1 ≤ fs.length) && decide (fs.length ≤ 4)) := by
  unfold ruleOk
  rw [e]
  show (areFacts t d && _) = _
  rw [h, Bool.true_and]
def spAreRules (K : PySem.W.Frag) : Sp := fun vs H Q _ => ∃ (p : Addr) (t : List (Str × List Str)) (v : V) (d : PyData), vs = [.ref p, v] ∧ TabAt K H p t ∧ Dp K H v d ∧ ROk d ∧ ∀ H', Same H H' → Q (.bl (areRules t d)) H'
section
variable {P : Program} {w : World} {K : PySem.W.Frag} {mg : Str → Option Value} {base : Heap}
theorem scAreRules : FnScope ["fields", "rules", "rule"] ["fields", "rules"] (defScope sAreRules) := ⟨rfl, rfl, rfl, by decide +kernel, rfl, by decide +kernel, by decide +kernel⟩
theorem ok_arerules {f : Addr} {fd : FuncData} (F : Fun K "_are_rules" "_are_rules" sAreRules f fd) (T : Bb mg) (C : Fm mg) (KR : Kn P w K mg base 1 "is_row" ["thing"] (spIsRow K)) (KF : Kn P w K mg base 3 "are_facts" ["fields", "facts"] (spAreFacts K)) :
    FnOk P w K mg base CX0 4 f fd ["fields", "rules"] (spAreRules K) := by
  obtain ⟨fR, fdR, GR, kR, bR, mR⟩ := KR.ex
  obtain ⟨fF, fdF, GF, kF, bF, mF⟩ := KF.ex
  obtain ⟨tR, hR⟩ := C.mr
  obtain ⟨tP, hP⟩ := C.mp
  refine F.ok scAreRules (fun vs H Q E h => ?_) (fun cdv A outer s H vs Q E hr h => ?_)
  · obtain ⟨p, t, v, d, rfl, _⟩ := h
    rfl
  obtain ⟨p, t, v, d, rfl, ht, hd, hs, k⟩ := h
  refine ⟨_, pss_cons (ps_if (PW.pt (pw_or (pt_not (pt_val (pe_call GR (hr.mono (by decide)) rfl mR kR bR .nil pass0 (pa_cons (pv 1) pa_nil)))) (pw_or1 (pt_cmpR op_gt (pe_callB call_len_seq rfl T.len PySem.boot_len (pa_cons (pv 1) pa_nil)) (pe_glob (v := .int 20) (by rfl) hR ⟨_, rfl⟩) (nomark _)))))
      (pss_one (ps_ret pe_bl)) pss_nil)
    (pss_cons (ps_for PassesOwn.never rfl (pi_row (pv 1)) (pg_name (i := 2) scAreRules.nd rfl (.inl rfl))
      (pss_one (ps_if (PW.pt (pw_or (pt_not (pt_val (pe_call GF hr rfl mF kF bF .nil pass0 (pa_cons (pv 0) (pa_cons (pv 2) pa_nil))))) (pw_or1 (pt_not (pt_chain op_le op_le pe_int (pe_callB call_len_seq rfl T.len PySem.boot_len (pa_cons (pv 2) pa_nil)) (pe_glob (v := .int 4) (by rfl) hP ⟨_, rfl⟩))))))
        (pss_one (ps_ret pe_bl)) pss_nil)))
    (pss_one (ps_ret pe_bl))), ?_⟩
  refine ⟨_, rfl, v, d, rfl, hd, fun H1 s1 => ⟨_, rfl, ?_⟩⟩
  cases e : rowOf d with
  | none =>
    rw [isRow_no e]
    refine iteT (iteT (q_is ?_ (k H1 s1)))
    unfold areRules
    rw [e]
  | some fs =>
    rw [isRow_of e]
    obtain ⟨q, ys, rfl, hq, ha⟩ := row_len (dp_same s1 hd) e
    have hlen := dps_len ha
    have eq0 : areRules t d = (decide (fs.length ≤ 20) && fs.all (ruleOk t)) := by
      unfold areRules
      rw [e]
    refine iteF ⟨_, rfl, q, ys, rfl, hq, _, _, rfl, rfl, _, rfl, ?_⟩
    by_cases h1 : fs.length ≤ 20
    · rw [decide_eq_true h1, Bool.true_and] at eq0
      refine iteDF (by omega) ?_
      show tFor (iRow K (tVar 1)) (gName 2) _ _ _ _
      refine for_row (ys := ys) (H0 := H1) (fun i σ H' => ∃ f1 : Option V, σ = [some (.ref p), some (.ref q), f1] ∧ Same H1 H' ∧ fs.all (ruleOk t) = (fs.drop i).all (ruleOk t)) (fun Q' z => ⟨_, rfl, z⟩) hq ⟨none, rfl, Same.refl H1, rfl⟩ ?_ ?_ ?_
      · rintro i σ H' ⟨_, _, z, _⟩
        exact z
      · rintro i x σ H2 hi ⟨f1, rfl, s2, h6⟩ hx
        obtain ⟨f, hf1, hdf⟩ := dps_get ha hx
        have hfm : f ∈ fs := List.mem_of_getElem? hf1
        have hdrop : fs.drop i = f :: fs.drop (i + 1) := by
          obtain ⟨hi2, e2⟩ := List.getElem?_eq_some_iff.mp hf1
          rw [List.drop_eq_getElem_cons hi2, e2]
        rw [hdrop, List.all_cons] at h6
        have no : ∀ H3, Same H1 H3 → ruleOk t f = false → Q (.bl false) H3 := fun H3 s3 z => q_is (by rw [eq0, h6, z] <;> rfl) (k _ (s1.trans s3))
        refine ⟨_, rfl, _, rfl, p, t, x, f, rfl, TabAt.same (s1.trans s2) ht, dp_same s2 hdf, hs fs e f hfm, fun H3 s3 => ⟨_, rfl, ?_⟩⟩
        have s13 : Same H1 H3 := s2.trans s3
        cases ef : areFacts t f with
        | false => exact iteT (iteT (no _ s13 (ruleOk_no ef)))
        | true =>
          obtain ⟨gs, eg⟩ := facts_row ef
          obtain ⟨r, zs, rfl, hr2, hzs⟩ := row_len (dp_same s13 hdf) eg
          have hzl := dps_len hzs
          have eok := ruleOk_yes eg ef
          refine iteF ⟨_, rfl, r, zs, rfl, hr2, _, _, rfl, rfl, _, rfl, ?_⟩
          by_cases g1 : 1 ≤ gs.length
          · rw [decide_eq_true g1, Bool.true_and] at eok
            refine iteDT (by omega) ⟨_, _, rfl, rfl, _, rfl, ?_⟩
            by_cases g4 : gs.length ≤ 4
            · rw [decide_eq_true g4] at eok
              rw [decide_eq_true (by omega : (zs.length : Int) ≤ 4)]
              refine iteF ⟨_, rfl, s13, ?_⟩
              rw [h6, eok, Bool.true_and]
            · rw [decide_eq_false g4] at eok
              rw [decide_eq_false (by omega : ¬ (zs.length : Int) ≤ 4)]
              exact iteT (no _ s13 eok)
          · rw [decide_eq_false g1, Bool.false_and] at eok
            exact iteDF (by omega) ⟨_, rfl, iteT (no _ s13 eok)⟩
      · rintro σ H' ⟨f1, rfl, s2, h6⟩
        rw [List.drop_eq_nil_of_le (by omega)] at h6
        exact q_is (eq0.trans h6).symm (k _ (s1.trans s2))
    · rw [decide_eq_false h1, Bool.false_and] at eq0
      exact iteDT (by omega) (q_is eq0.symm (k H1 s1))
end
end Q
set_option Elab.async false
set_option linter.all false
set_option maxRecDepth 100000
set_option maxHeartbeats 4000000
/-! ### _ways_to_fill, _each_once -/
namespace Q
open PySem L2 XD
/-- so many ways -/
def waysFrom (a : Nat) (t : List (Str × List Str)) : Nat := t.foldl (fun a e => a * e.2.length) a
def spWays (K : PySem.W.Frag) : Sp := fun vs H Q _ => ∃ (p : Addr) (t : List (Str × List Str)), vs = [.ref p] ∧ TabAt K H p t ∧ t.length ≤ 6 ∧ (∀ e ∈ t, e.2.length ≤ 5) ∧ ∀ H', Same H H' → Q (.int (waysFrom 1 t : Nat)) H'
theorem ways_next {t : List (Str × List Str)} {i : Nat} {e : Str × List Str} (h : t[i]? = some e) : waysFrom 1 (t.take (i + 1)) = waysFrom 1 (t.take i) * e.2.length := by
  unfold waysFrom
  rw [take_one h, List.foldl_append]
  rfl
theorem ways_small {t : List (Str × List Str)} (hs : ∀ e ∈ t, e.2.length ≤ 5) : ∀ a, waysFrom a t ≤ a * 5 ^ t.length := by
  induction t with
  | nil =>
    intro a
    show a ≤ a * 1
    omega
  | cons e t ih =>
    intro a
    show waysFrom (a * e.2.length) t ≤ a * 5 ^ (t.length + 1)
    refine Nat.le_trans (ih (fun e' h => hs e' (List.mem_cons_of_mem _ h)) _) ?_
    rw [Nat.pow_succ, Nat.mul_assoc]
    refine Nat.mul_le_mul_left a ?_
    rw [Nat.mul_comm]
    exact Nat.mul_le_mul_left _ (hs e List.mem_cons_self)
/-- a rule as data -/
def ruleD (r : List (Str × Str)) : PyData := .tuple (r.map fun e => .tuple [.str e.1, .str e.2])
theorem eqvAll_pairs : ∀ a b : List (Str × Str), PyData.eqvAll (a.map fun e => .tuple [.str e.1, .str e.2]) (b.map fun e => .tuple [.str e.1, .str e.2]) = decide (a = b)
  | [], [] => by simp [PyData.eqvAll]
  | [], _ :: _ => by simp [PyData.eqvAll]
  | _ :: _, [] => by simp [PyData.eqvAll]
  | (n, w) :: a, (m, v) :: b => by
    rw [List.map_cons, List.map_cons, PyData.eqvAll, eqvAll_pairs a b, PyData.eqv, PyData.eqvAll, PyData.eqvAll, PyData.eqvAll, PyData.eqv, PyData.eqv]
    by_cases h1 : n = m
    · by_cases h2 : w = v
      · by_cases h3 : a = b
        · simp [h1, h2, h3]
        · simp [h1, h2, h3]
      · simp [h1, h2]
    · simp [h1]
theorem eqv_rule (a b : List (Str × Str)) : PyData.eqv (ruleD a) (ruleD b) = decide (a = b) := by
  unfold ruleD
  rw [PyData.eqv]
  exact eqvAll_pairs a b
def RStr (r : List (Str × Str)) : Prop := ∀ e ∈ r, PyData.strOk e.1 = true ∧ PyData.strOk e.2 = true
theorem rule_lay : ∀ r : List (Str × Str), RStr r → PyData.canLayAll0 (r.map fun e => .tuple [.str e.1, .str e.2]) = true
  | [], _ => by simp [PyData.canLayAll0]
  | e :: r, h => by
    have h1 := h e List.mem_cons_self
    have h2 := rule_lay r fun x hx => h x (List.mem_cons_of_mem _ hx)
    rw [List.map_cons, PyData.canLayAll0, h2, Bool.and_true]
    simp [PyData.canLay0, PyData.canLayAll0, h1.1, h1.2]
theorem rule_depth : ∀ r : List (Str × Str), PyData.depthAll (r.map fun e => .tuple [.str e.1, .str e.2]) ≤ 2
  | [] => by simp [PyData.depthAll]
  | e :: r => by
    have := rule_depth r
    rw [List.map_cons, PyData.depthAll]
    simp [PyData.depth, PyData.depthAll] at this ⊢
    omega
theorem rule_shaped {r : List (Str × Str)} (h : RStr r) : SeqAt.shaped (ruleD r) = true := by
  unfold SeqAt.shaped ruleD
  have h1 := rule_lay r h
  have h2 := rule_depth r
  rw [PyData.canLay0, h1, Bool.true_and]
  refine decide_eq_true ?_
  rw [PyData.depth]
  omega
theorem rules_lay : ∀ rs : List (List (Str × Str)), (∀ r ∈ rs, RStr r) → PyData.canLayAll0 (rs.map ruleD) = true
  | [], _ => by simp [PyData.canLayAll0]
  | r :: rs, h => by
    rw [List.map_cons, PyData.canLayAll0, rules_lay rs fun x hx => h x (List.mem_cons_of_mem _ hx), Bool.and_true]
    exact SeqAt.canLay_of_shaped (rule_shaped (h r List.mem_cons_self))
theorem rules_depth : ∀ rs : List (List (Str × Str)), PyData.depthAll (rs.map ruleD) ≤ 3
  | [] => by simp [PyData.depthAll]
  | r :: rs => by
    have h1 := rules_depth rs
    have h2 := rule_depth r
    rw [List.map_cons, PyData.depthAll]
    have h3 : (ruleD r).depth ≤ 3 := by
      unfold ruleD
      rw [PyData.depth]
      omega
    omega
theorem rules_shaped {rs : List (List (Str × Str))} (h : ∀ r ∈ rs, RStr r) : SeqAt.shaped (.list (rs.map ruleD)) = true := by
  unfold SeqAt.shaped
  have h1 := rules_lay rs h
  have h2 := rules_depth rs
  rw [PyData.canLay0, h1, Bool.true_and]
  refine decide_eq_true ?_
  rw [PyData.depth]
  omega
theorem prd_dps {K : PySem.W.Frag} {H : Hp} : ∀ {qs : List Addr} {r : List (Str × Str)}, Paired (fun q (e : Str × Str) => SqT K H q [.str e.1, .str e.2]) qs r → DpAll K H (qs.map V.ref) (r.map fun e => .tuple [.str e.1, .str e.2])
  | _, _, .nil => .nil
  | _, _, .cons a b => .cons (.tup a (.cons (.str _) (.cons (.str _) .nil))) (prd_dps b)
theorem RuleAt.dp {K : PySem.W.Frag} {H : Hp} {p : Addr} {r : List (Str × Str)} (h : RuleAt K H p r) : Dp K H (.ref p) (ruleD r) := by
  obtain ⟨qs, h1, h2⟩ := h
  exact .tup h1.sqT (prd_dps h2)
theorem RuleAt.same {K : PySem.W.Frag} {H H' : Hp} {p : Addr} {r : List (Str × Str)} (s : Same H H') (h : RuleAt K H p r) : RuleAt K H' p r := by
  obtain ⟨qs, h1, h2⟩ := h
  exact ⟨qs, h1.same s, prd_same s h2⟩
theorem rules_dps {K : PySem.W.Frag} {H : Hp} : ∀ {ps : List Addr} {rs : List (List (Str × Str))}, Paired (RuleAt K H) ps rs → DpAll K H (ps.map V.ref) (rs.map ruleD)
  | _, _, .nil => .nil
  | _, _, .cons a b => .cons a.dp (rules_dps b)
theorem rules_same {K : PySem.W.Frag} {H H' : Hp} (s : Same H H') : ∀ {ps : List Addr} {rs : List (List (Str × Str))}, Paired (RuleAt K H) ps rs → Paired (RuleAt K H') ps rs
  | _, _, .nil => .nil
  | _, _, .cons a b => .cons (a.same s) (rules_same s b)
theorem prd_at {α β : Type} {R : α → β → Prop} : ∀ {xs : List α} {ys : List β} {i : Nat} {x : α}, Paired R xs ys → xs[i]? = some x → ∃ y, ys[i]? = some y ∧ R x y
  | _, _, _, _, .nil, e => by simp at e
  | _, _, 0, _, .cons a b, e => by
    simp at e
    subst e
    exact ⟨_, rfl, a⟩
  | _, _, i + 1, x, .cons a b, e => by
    obtain ⟨y, h1, h2⟩ := prd_at (i := i) (x := x) b (by simpa using e)
    exact ⟨y, by simpa using h1, h2⟩
/-- each once, at its first place -/
def once (rs : List (List (Str × Str))) : List (List (Str × Str)) := rs.foldl (fun acc r => if r ∈ acc then acc else acc ++ [r]) []
theorem once_next {rs : List (List (Str × Str))} {i : Nat} {r : List (Str × Str)} (h : rs[i]? = some r) : once (rs.take (i + 1)) = if r ∈ once (rs.take i) then once (rs.take i) else once (rs.take i) ++ [r] := by
  unfold once
  rw [take_one h, List.foldl_append]
  rfl
def RulesAt (K : PySem.W.Frag) (H : Hp) (p : Addr) (rs : List (List (Str × Str))) : Prop := ∃ ps : List Addr, SqZ H p (ps.map V.ref) ∧ Paired (RuleAt K H) ps rs
def spEach (K : PySem.W.Frag) : Sp := fun vs H Q _ => ∃ (q : Addr) (ps : List Addr) (rs : List (List (Str × Str))), vs = [.ref q] ∧ SqL K H q (ps.map V.ref) ∧ Paired (RuleAt K H) ps rs ∧ (∀ r ∈ rs, RStr r) ∧ rs.length ≤ 1000 ∧ ∀ z H', Same H H' → RulesAt K H' z (once rs) → Q (.ref z) H'
section
variable {P : Program} {w : World} {K : PySem.W.Frag} {mg : Str → Option Value} {base : Heap}
theorem scWays : FnScope ["fields", "ways", "_", "values"] ["fields"] (defScope sWays) := ⟨rfl, rfl, rfl, by decide +kernel, rfl, by decide +kernel, by decide +kernel⟩
theorem ok_ways {f : Addr} {fd : FuncData} (F : Fun K "_ways_to_fill" "_ways_to_fill" sWays f fd) (T : Bb mg) : FnOk P w K mg base CX0 1 f fd ["fields"] (spWays K) := by
  refine F.ok scWays (fun vs H Q E h => ?_) (fun cdv A outer s H vs Q E hr h => ?_)
  · obtain ⟨p, t, rfl, _⟩ := h
    rfl
  obtain ⟨p, t, rfl, ⟨ps, kvs, hz, hT, hn, hm⟩, hl, hs, k⟩ := h
  refine ⟨_, pss_cons (ps_set (i := 1) scWays.nd rfl (.inl rfl) pe_int)
    (pss_cons (ps_for PassesOwn.never rfl (pi_row (pv 0)) (pg_tup rfl (pgs_cons (pg_name (i := 2) scWays.nd rfl (.inl rfl)) (pgs_cons (pg_name (i := 3) scWays.nd rfl (.inl rfl)) pgs_nil)))
      (pss_one (ps_set (i := 1) scWays.nd rfl (.inl rfl) (pe_mul (pv 1) (pe_callB call_len_seq rfl T.len PySem.boot_len (pa_cons (pv 3) pa_nil))))))
    (pss_one (ps_ret (pv 1)))), ?_⟩
  have hlen : (ps.map V.ref).length = t.length := by rw [List.length_map, hT.len.1]
  show tFor (iRow K (tVar 0)) _ _ _ [some (.ref p), some (.int 1), none, none] _
  refine for_row (ys := ps.map V.ref) (H0 := H) (fun i σ H' => ∃ f2 f3 : Option V, σ = [some (.ref p), some (.int (waysFrom 1 (t.take i) : Nat)), f2, f3] ∧ H' = H) (fun Q' z => ⟨_, rfl, z⟩) (.inr hz.sqT) ⟨none, none, rfl, rfl⟩ ?_ ?_ ?_
  · rintro i σ H' ⟨_, _, _, rfl⟩
    exact Same.refl _
  · rintro i x σ H' hi ⟨f2, f3, rfl, rfl⟩ hx
    obtain ⟨q1, v1, n, ws, rfl, e1, e2, e3⟩ := hT.at hx
    have b1 : waysFrom 1 (t.take i) ≤ 15625 := by
      refine Nat.le_trans (ways_small (fun e he => hs e (List.mem_of_mem_take he)) 1) ?_
      rw [Nat.one_mul]
      have : (t.take i).length ≤ 6 := by
        rw [List.length_take]
        omega
      exact Nat.le_trans (Nat.pow_le_pow_right (by decide) this) (by decide)
    refine ⟨q1, _, rfl, e2, rfl, .str n, _, rfl, .ref v1, [], rfl, rfl, _, rfl, _, rfl, v1, _, rfl, .inr e3, _, _, rfl, rfl, ?_, ?_⟩
    · constructor
      · have : -(2 ^ 64 : Int) < 0 := by decide
        omega
      · have : (15625 : Int) < 2 ^ 64 := by decide
        omega
    · refine ⟨some (.str n), some (.ref v1), ?_, rfl⟩
      rw [ways_next e1, List.length_map]
      show [_, some (V.int _), _, _] = _
      rw [Int.natCast_mul]
  · rintro σ H' ⟨f2, f3, rfl, rfl⟩
    rw [List.take_of_length_le (by omega)]
    exact ⟨_, rfl, k _ (Same.refl _)⟩
theorem scEach : FnScope ["rules", "kept", "rule"] ["rules"] (defScope sEach) := ⟨rfl, rfl, rfl, by decide +kernel, rfl, by decide +kernel, by decide +kernel⟩
theorem ok_each {f : Addr} {fd : FuncData} (F : Fun K "_each_once" "_each_once" sEach f fd) (T : Bb mg) : FnOk P w K mg base CX0 1 f fd ["rules"] (spEach K) := by
  refine F.ok scEach (fun vs H Q E h => ?_) (fun cdv A outer s H vs Q E hr h => ?_)
  · obtain ⟨q, ps, rs, rfl, _⟩ := h
    rfl
  obtain ⟨q, ps, rs, rfl, hq, hp, hs, hm, k⟩ := h
  have vt_ : PySem.bootBuiltins "tuple" = some (.type "tuple") := by decide +kernel
  have hu2 : (A.deeper (PyProof.Rows.envOfC "_each_once" (defScope sEach) s.heap.objs.size f cdv)).units + 65 < cLine := by
    have := hr.un
    omega
  refine ⟨_, pss_cons (ps_set (i := 1) scEach.nd rfl (.inl rfl) (pe_lst pa_nil))
    (pss_cons (ps_for PassesOwn.never rfl (pi_row (pv 0)) (pg_name (i := 2) scEach.nd rfl (.inl rfl))
      (pss_one (ps_if (pt_cmpR (op_notInD hu2) (pv 2) (pv 1) (by with_unfolding_all rfl))
        (pss_one (ps_expr (pe_bm PySem.F.plainAttrs_list PySem.F.slot_list_append PySem.F.type_list_append mt_append (pv 1) (pa_cons (pv 2) pa_nil)))) pss_nil)))
    (pss_one (ps_ret (pe_callTy call_tupZ rfl T.tup vt_ (pa_cons (pv 1) pa_nil))))), ?_⟩
  refine ⟨by show 0 ≤ sizeLine; decide, fun B hB => ?_⟩
  have hlen : (ps.map V.ref).length = rs.length := by rw [List.length_map, prd_len hp]
  have s1 : Same H (upd H B (.lst [])) := new_same hB _
  show tFor (iRow K (tVar 0)) _ _ _ [some (.ref q), some (.ref B), none] _
  refine for_row (ys := ps.map V.ref) (H0 := H) (fun i σ H' => ∃ (f2 : Option V) (ks : List Addr), σ = [some (.ref q), some (.ref B), f2] ∧ H' B = some (.lst (ks.map V.ref)) ∧ Paired (RuleAt K H) ks (once (rs.take i)) ∧ (∀ r ∈ once (rs.take i), r ∈ rs) ∧ ks.length ≤ i ∧ Same H H') (fun Q' z => ⟨_, rfl, z⟩) (.inl hq)
    ⟨none, [], rfl, upd_same, .nil, (fun (r : List (Str × Str)) (h : r ∈ ([] : List (List (Str × Str)))) => absurd h List.not_mem_nil), Nat.le_refl _, s1⟩ ?_ ?_ ?_
  · rintro i σ H' ⟨_, _, _, _, _, _, _, z⟩
    exact z
  · rintro i x σ H' hi ⟨f2, ks, rfl, g1, g2, g3, g4, g5⟩ hx
    obtain ⟨pr, e0, rfl⟩ : ∃ pr, ps[i]? = some pr ∧ x = .ref pr := by
      rw [List.getElem?_map] at hx
      cases e : ps[i]? with
      | none =>
        rw [e] at hx
        cases hx
      | some pr =>
        rw [e] at hx
        cases hx
        exact ⟨pr, rfl, rfl⟩
    obtain ⟨r, e1, hr1⟩ := prd_at hp e0
    have hrm : r ∈ rs := List.mem_of_getElem? e1
    have hnx := once_next e1
    have hany : ((once (rs.take i)).map ruleD).any (fun z => PyData.eqv z (ruleD r)) = decide (r ∈ once (rs.take i)) := by
      rw [List.any_map]
      refine (List.any_eq (p := _)).trans (decide_eq_decide.mpr ⟨fun ⟨y, h1, h2⟩ => ?_, fun h1 => ⟨r, h1, ?_⟩⟩)
      · have h3 : PyData.eqv (ruleD y) (ruleD r) = true := h2
        rw [eqv_rule] at h3
        exact (of_decide_eq_true h3) ▸ h1
      · show PyData.eqv (ruleD r) (ruleD r) = true
        rw [eqv_rule]
        exact decide_eq_true rfl
    refine ⟨_, rfl, _, rfl, ruleD r, (once (rs.take i)).map ruleD, (hr1.same g5).dp, .lst (SqL.of g1) (rules_dps (rules_same g5 g2)), rule_shaped (hs r hrm), rules_shaped (fun r' h => hs r' (g3 r' h)), _, rfl, ?_⟩
    rw [hany]
    by_cases hin : r ∈ once (rs.take i)
    · rw [if_pos hin] at hnx
      rw [decide_eq_true hin]
      refine iteF ⟨_, ks, rfl, g1, by rw [hnx]; exact g2, by rw [hnx]; exact g3, by omega, g5⟩
    · rw [if_neg hin] at hnx
      rw [decide_eq_false hin]
      refine iteT ⟨_, rfl, .inl ⟨rfl, _, SqL.of g1⟩, _, rfl, B, _, _, rfl, rfl, g1, small1000 (by rw [List.length_map]; omega), ?_⟩
      refine ⟨_, ks ++ [pr], rfl, ?_, ?_, ?_, ?_, fun b o z => ?_⟩
      · rw [upd_same, List.map_append] <;> rfl
      · rw [hnx]
        exact prd_snoc g2 hr1
      · rw [hnx]
        intro r' h'
        rcases List.mem_append.mp h' with h' | h'
        · exact g3 r' h'
        · rw [List.mem_singleton.mp h']
          exact hrm
      · rw [List.length_append, List.length_singleton]
        omega
      · rw [upd_ne (ne_of_none z hB)]
        exact g5 _ _ z
  · rintro σ H' ⟨f2, ks, rfl, g1, g2, g3, g4, g5⟩
    rw [List.take_of_length_le (by omega)] at g2
    refine ⟨_, rfl, B, _, rfl, .inl ⟨SqL.of g1, fun l o hl ho => ?_⟩⟩
    have sl : Same H' (upd H' l (.frz o (.tup (ks.map V.ref)))) := new_same hl _
    exact k l _ (g5.trans sl) ⟨ks, ⟨o, upd_same, ho⟩, rules_same (g5.trans sl) g2⟩
end
end Q
set_option Elab.async false
set_option linter.all false
set_option maxRecDepth 100000
set_option maxHeartbeats 4000000
/-! ### what surely are facts -/
namespace Q
open PySem L2 XD
theorem stands_str {ws : List Str} {d : PyData} (h : stands ws d = true) : ∃ w, d = .str w ∧ w ∈ ws := by
  unfold stands at h
  obtain ⟨z, hz, e⟩ := List.any_eq_true.mp h
  obtain ⟨w, hw, rfl⟩ := List.mem_map.mp hz
  cases d with
  | str x =>
    rw [PyData.eqv] at e
    have : w = x := by simpa using e
    subst this
    exact ⟨w, rfl, hw⟩
  | _ => simp [PyData.eqv] at e
/-- the pair of texts that a fact is -/
def factOf (f : PyData) : Str × Str := match pairOf f with
  | some (.str n, .str w) => (n, w)
  | _ => (Str.empty, Str.empty)
def factsOf (d : PyData) : List (Str × Str) := match rowOf d with
  | some fs => fs.map factOf
  | none => []
theorem go_cons {t : List (Str × List Str)} {seen : List Str} {f : PyData} {fs : List PyData} (h : goFacts t seen (f :: fs) = true) :
    ∃ n w ws, pairOf f = some (.str n, .str w) ∧ look n t = some ws ∧ w ∈ ws ∧ seen.contains n = false ∧ goFacts t (n :: seen) fs = true := by
  cases ep : pairOf f with
  | none =>
    rw [go_none ep] at h
    cases h
  | some ab =>
    obtain ⟨a, b⟩ := ab
    cases es : isStr a with
    | false =>
      rw [go_nostr ep es] at h
      cases h
    | true =>
      obtain ⟨n, rfl⟩ : ∃ n, a = .str n := by
        cases a <;> first | exact ⟨_, rfl⟩ | cases es
      cases el : look n t with
      | none =>
        rw [go_new ep el] at h
        cases h
      | some ws =>
        rw [go_old ep el, Bool.and_eq_true, Bool.and_eq_true] at h
        obtain ⟨h1, h2, h3⟩ := h
        obtain ⟨w, rfl, hw⟩ := stands_str h2
        exact ⟨n, w, ws, rfl, el, hw, by simpa using h1, h3⟩
theorem facts_good {K : PySem.W.Frag} {H : Hp} {t : List (Str × List Str)} : ∀ {ys : List V} {fs : List PyData} {seen : List Str}, DpAll K H ys fs → goFacts t seen fs = true →
    ∃ (ps : List Addr) (kvs : List (Key × V)), ys = ps.map V.ref ∧ FactR K H ps kvs (fs.map factOf) ∧ ((fs.map factOf).map (·.1)).Nodup ∧ (∀ e ∈ fs.map factOf, e.1 ∉ seen) ∧ (∀ e ∈ fs.map factOf, ∃ ws, look e.1 t = some ws ∧ e.2 ∈ ws)
  | _, _, _, .nil, _ => ⟨[], [], rfl, .nil, List.nodup_nil, fun e h => absurd h List.not_mem_nil, fun e h => absurd h List.not_mem_nil⟩
  | _, _, seen, .cons (v := v) (d := f) (ds := fs) h t', g => by
    obtain ⟨n, w, ws, e1, e2, e3, e4, e5⟩ := go_cons g
    obtain ⟨ps, kvs, rfl, i1, i2, i3, i4⟩ := facts_good t' e5
    obtain ⟨r, va, vb, rfl, hr, hva, hvb⟩ := pair_at h e1
    cases hva
    cases hvb
    have ef : factOf f = (n, w) := by
      unfold factOf
      rw [e1]
    have nin : n ∉ seen := fun z => by
      have : seen.contains n = true := by simpa using z
      rw [this] at e4
      cases e4
    refine ⟨r :: ps, (.inr n, .str w) :: kvs, rfl, ?_, ?_, ?_, ?_⟩
    · rw [List.map_cons, ef]
      exact .cons hr.symm i1
    · rw [List.map_cons, List.map_cons, ef, List.nodup_cons]
      refine ⟨fun z => ?_, i2⟩
      obtain ⟨e, he, hn⟩ := List.mem_map.mp z
      exact i3 e he (hn ▸ List.mem_cons_self)
    · rw [List.map_cons, ef]
      intro e he
      rcases List.mem_cons.mp he with rfl | he
      · exact nin
      · exact fun z => i3 e he (List.mem_cons_of_mem _ z)
    · rw [List.map_cons, ef]
      intro e he
      rcases List.mem_cons.mp he with rfl | he
      · exact ⟨ws, e2, e3⟩
      · exact i4 e he
theorem facts_go {t : List (Str × List Str)} {d : PyData} {fs : List PyData} (e : rowOf d = some fs) (h : areFacts t d = true) : fs.length ≤ t.length ∧ goFacts t [] fs = true := by
  unfold areFacts at h
  rw [e] at h
  have h2 : (decide (fs.length ≤ t.length) && goFacts t [] fs) = true := h
  rw [Bool.and_eq_true] at h2
  exact ⟨of_decide_eq_true h2.1, h2.2⟩
/-- fields that are such, as a table -/
def entryOf (f : PyData) : Str × List Str := match pairOf f with
  | some (a, b) => (strOf a, match rowOf b with
    | some ws => textsOf ws
    | none => [])
  | none => (Str.empty, [])
def tabOf (d : PyData) : List (Str × List Str) := match rowOf d with
  | some fs => fs.map entryOf
  | none => []
theorem az_small {c : Nat} (h : az c = true) : c < 0x110000 := by
  unfold az at h
  rw [Bool.and_eq_true] at h
  have h2 : ¬ (("z" : Str).cps.toList < [c]) := by simpa using h.2
  by_cases h3 : c < 0x110000
  · exact h3
  · exfalso
    refine h2 ?_
    show ([122] : List Nat) < [c]
    exact List.cons_lt_cons_iff.mpr (.inl (by omega))
theorem word_ok {s : Str} (h : word s = true) : PyData.strOk s = true := by
  unfold word at h
  rw [Bool.and_eq_true] at h
  unfold PyData.strOk
  rw [← Array.all_toList]
  refine List.all_eq_true.mpr fun c hc => decide_eq_true (az_small (List.all_eq_true.mp h.2 c hc))
theorem entry_first (f : PyData) : (entryOf f).1 = strOf (firstOf f) := by
  unfold entryOf firstOf
  cases pairOf f with
  | none => rfl
  | some ab => rfl
theorem word_str {d : PyData} (h : isWord d = true) : ∃ n, d = .str n ∧ word n = true := by
  cases d with
  | str n => exact ⟨n, rfl, h⟩
  | _ => cases h
theorem field_good {f : PyData} (h : fieldOk f = true) (hw : isWord (firstOf f) = true) : ∃ (n : Str) (b : PyData) (ws : List PyData), pairOf f = some (.str n, b) ∧ rowOf b = some ws ∧ ws.all isWord = true ∧ ws.length ≤ 5 ∧ word n = true ∧ entryOf f = (n, textsOf ws) := by
  cases e : pairOf f with
  | none =>
    unfold fieldOk at h
    rw [e] at h
    cases h
  | some ab =>
    obtain ⟨a, b⟩ := ab
    have h1 : areValues b = true := by
      unfold fieldOk at h
      rw [e] at h
      exact h
    have h2 : firstOf f = a := by
      unfold firstOf
      rw [e]
    rw [h2] at hw
    obtain ⟨n, rfl, hn⟩ := word_str hw
    unfold areValues at h1
    cases er : rowOf b with
    | none =>
      rw [er] at h1
      cases h1
    | some ws =>
      rw [er] at h1
      have h3 : (decide (1 ≤ ws.length) && (decide (ws.length ≤ 5) && unlike ws)) = true := h1
      rw [Bool.and_eq_true, Bool.and_eq_true] at h3
      have h4 := h3.2.2
      unfold unlike at h4
      rw [Bool.and_eq_true] at h4
      refine ⟨n, b, ws, rfl, er, h4.1, of_decide_eq_true h3.2.1, hn, ?_⟩
      unfold entryOf
      rw [e]
      show (n, _) = (n, _)
      rw [er]
theorem fields_good {d : PyData} (h : areFields d = true) : ∃ fs, rowOf d = some fs ∧ fs.length ≤ 6 ∧ tabOf d = fs.map entryOf ∧ ((tabOf d).map (·.1)).Nodup ∧ ∀ f ∈ fs, fieldOk f = true ∧ isWord (firstOf f) = true := by
  unfold areFields at h
  cases e : rowOf d with
  | none =>
    rw [e] at h
    cases h
  | some fs =>
    rw [e] at h
    have h3 : (decide (1 ≤ fs.length) && (decide (fs.length ≤ 6) && (fs.all fieldOk && unlike (fs.map firstOf)))) = true := h
    rw [Bool.and_eq_true, Bool.and_eq_true, Bool.and_eq_true] at h3
    have h4 := h3.2.2.2
    unfold unlike at h4
    rw [Bool.and_eq_true] at h4
    have ht : tabOf d = fs.map entryOf := by
      unfold tabOf
      rw [e]
    refine ⟨fs, rfl, of_decide_eq_true h3.2.1, ht, ?_, fun f hf => ⟨List.all_eq_true.mp h3.2.2.1 f hf, List.all_eq_true.mp h4.1 _ (List.mem_map.mpr ⟨f, hf, rfl⟩)⟩⟩
    have h5 := of_decide_eq_true h4.2
    have : (tabOf d).map (·.1) = textsOf (fs.map firstOf) := by
      rw [ht]
      unfold textsOf
      rw [List.map_map, List.map_map]
      exact List.map_congr_left fun f _ => entry_first f
    rw [this]
    exact h5
theorem texts_word {ws : List PyData} (h : ws.all isWord = true) : ∀ w ∈ textsOf ws, word w = true := fun w hw => by
  obtain ⟨d, hd, rfl⟩ := List.mem_map.mp hw
  obtain ⟨n, rfl, hn⟩ := word_str (List.all_eq_true.mp h d hd)
  exact hn
theorem texts_len {ws : List PyData} : (textsOf ws).length = ws.length := by
  unfold textsOf
  rw [List.length_map]
end Q
set_option Elab.async false
set_option linter.all false
set_option maxRecDepth 100000
set_option maxHeartbeats 4000000
/-! ### what stays when a list or an object is changed -/
namespace Q
open PySem L2 XD
theorem sqZ_off {H : Hp} {D q : Addr} {xs acc acc' : List V} (h : SqZ H q xs) (hD : H D = some (.lst acc)) : SqZ (upd H D (.lst acc')) q xs := by
  obtain ⟨o, e, d⟩ := h
  have n : q ≠ D := fun z => by
    rw [z, hD] at e
    cases e
  exact ⟨o, by rw [upd_ne n]; exact e, d⟩
theorem RuleAt.off {K : PySem.W.Frag} {H : Hp} {D p : Addr} {acc acc' : List V} {r : List (Str × Str)} (h : RuleAt K H p r) (hD : H D = some (.lst acc)) : RuleAt K (upd H D (.lst acc')) p r := by
  obtain ⟨qs, h1, h2⟩ := h
  exact ⟨qs, sqZ_off h1 hD, prd_off hD h2⟩
theorem rules_off {K : PySem.W.Frag} {H : Hp} {D : Addr} {acc acc' : List V} (hD : H D = some (.lst acc)) : ∀ {ps : List Addr} {rs : List (List (Str × Str))}, Paired (RuleAt K H) ps rs → Paired (RuleAt K (upd H D (.lst acc'))) ps rs
  | _, _, .nil => .nil
  | _, _, .cons a b => .cons (a.off hD) (rules_off hD b)
theorem TabR.off {K : PySem.W.Frag} {H : Hp} {D : Addr} {acc acc' : List V} (hD : H D = some (.lst acc)) : ∀ {ps : List Addr} {kvs : List (Key × V)} {t : List (Str × List Str)}, TabR K H ps kvs t → TabR K (upd H D (.lst acc')) ps kvs t
  | _, _, _, .nil => .nil
  | _, _, _, .cons a b o c => .cons (seqT_off a hD) (seqT_off b hD) o (TabR.off hD c)
theorem TabR.snoc {K : PySem.W.Frag} {H : Hp} {q v : Addr} {n : Str} {ws : List Str} (h1 : SqT K H q [.str n, .ref v]) (h2 : SqT K H v (ws.map V.str)) (h3 : ∀ w ∈ ws, PyData.strOk w = true) : ∀ {ps : List Addr} {kvs : List (Key × V)} {t : List (Str × List Str)}, TabR K H ps kvs t → TabR K H (ps ++ [q]) (kvs ++ [(.inr n, .ref v)]) (t ++ [(n, ws)])
  | _, _, _, .nil => .cons h1 h2 h3 .nil
  | _, _, _, .cons a b o c => .cons a b o (TabR.snoc h1 h2 h3 c)
/-- all but what stands of objects is kept -/
def Sd (H H' : Hp) : Prop := ∀ b o, (∀ C dx fs, o ≠ .ins C dx fs) → H b = some o → H' b = some o
theorem sdOf {H H' : Hp} (s : Same H H') : Sd H H' := fun b o _ e => s b o e
theorem Sd.trans {H H' H'' : Hp} (s : Sd H H') (t : Sd H' H'') : Sd H H'' := fun b o n e => t b o n (s b o n e)
theorem sd_ins {H : Hp} {x C dx : Addr} {fs fs' : List (Str × V)} {dx' : Addr} (h : H x = some (.ins C dx fs)) : Sd H (upd H x (.ins C dx' fs')) := fun b o n e => by
  have nb : b ≠ x := fun z => by
    rw [z, h] at e
    exact n _ _ _ (Option.some.inj e).symm
  rw [upd_ne nb]
  exact e
theorem seq_sd {K : PySem.W.Frag} {H H' : Hp} {a : Addr} {xs : List V} (s : Sd H H') (h : SqL K H a xs) : SqL K H' a xs := by
  rcases h with (h | ⟨o, h⟩) | h
  · exact .inl (.inl (s _ _ (by intro _ _ _ z; cases z) h))
  · exact .inl (.inr ⟨o, s _ _ (by intro _ _ _ z; cases z) h⟩)
  · exact .inr h
theorem seqT_sd {K : PySem.W.Frag} {H H' : Hp} {a : Addr} {xs : List V} (s : Sd H H') (h : SqT K H a xs) : SqT K H' a xs := by
  rcases h with (h | ⟨o, h⟩) | h
  · exact .inl (.inl (s _ _ (by intro _ _ _ z; cases z) h))
  · exact .inl (.inr ⟨o, s _ _ (by intro _ _ _ z; cases z) h⟩)
  · exact .inr h
theorem sqZ_sd {H H' : Hp} {a : Addr} {xs : List V} (s : Sd H H') (h : SqZ H a xs) : SqZ H' a xs := by
  obtain ⟨o, e, d⟩ := h
  exact ⟨o, s _ _ (by intro _ _ _ z; cases z) e, d⟩
mutual
theorem dp_sd {K : PySem.W.Frag} {H H' : Hp} (s : Sd H H') : ∀ {v : V} {d : PyData}, Dp K H v d → Dp K H' v d
  | _, _, .non => .non
  | _, _, .bl b => .bl b
  | _, _, .int i => .int i
  | _, _, .str x => .str x
  | _, _, .lst h a => .lst (seq_sd s h) (dps_sd s a)
  | _, _, .tup h a => .tup (seqT_sd s h) (dps_sd s a)
theorem dps_sd {K : PySem.W.Frag} {H H' : Hp} (s : Sd H H') : ∀ {vs : List V} {ds : List PyData}, DpAll K H vs ds → DpAll K H' vs ds
  | _, _, .nil => .nil
  | _, _, .cons h t => .cons (dp_sd s h) (dps_sd s t)
end
theorem tabR_sd {K : PySem.W.Frag} {H H' : Hp} (s : Sd H H') : ∀ {ps : List Addr} {kvs : List (Key × V)} {t : List (Str × List Str)}, TabR K H ps kvs t → TabR K H' ps kvs t
  | _, _, _, .nil => .nil
  | _, _, _, .cons a b o c => .cons (seqT_sd s a) (seqT_sd s b) o (tabR_sd s c)
theorem tab_sd {K : PySem.W.Frag} {H H' : Hp} {p : Addr} {t : List (Str × List Str)} (s : Sd H H') (h : TabAt K H p t) : TabAt K H' p t := by
  obtain ⟨ps, kvs, a, b, c⟩ := h
  exact ⟨ps, kvs, sqZ_sd s a, tabR_sd s b, c⟩
theorem prd_sd {K : PySem.W.Frag} {H H' : Hp} (s : Sd H H') : ∀ {qs : List Addr} {r : List (Str × Str)}, Paired (fun q (e : Str × Str) => SqT K H q [.str e.1, .str e.2]) qs r → Paired (fun q (e : Str × Str) => SqT K H' q [.str e.1, .str e.2]) qs r
  | _, _, .nil => .nil
  | _, _, .cons a b => .cons (seqT_sd s a) (prd_sd s b)
theorem rules_sd' {K : PySem.W.Frag} {H H' : Hp} (s : Sd H H') : ∀ {ps : List Addr} {rs : List (List (Str × Str))}, Paired (RuleAt K H) ps rs → Paired (RuleAt K H') ps rs
  | _, _, .nil => .nil
  | _, _, .cons a b => by
    obtain ⟨qs, h1, h2⟩ := a
    exact .cons ⟨qs, sqZ_sd s h1, prd_sd s h2⟩ (rules_sd' s b)
theorem rulesAt_sd {K : PySem.W.Frag} {H H' : Hp} {p : Addr} {rs : List (List (Str × Str))} (s : Sd H H') (h : RulesAt K H p rs) : RulesAt K H' p rs := by
  obtain ⟨ps, a, b⟩ := h
  exact ⟨ps, sqZ_sd s a, rules_sd' s b⟩
theorem factR_sd {K : PySem.W.Frag} {H H' : Hp} (s : Sd H H') : ∀ {ps : List Addr} {kvs : List (Key × V)} {r : List (Str × Str)}, FactR K H ps kvs r → FactR K H' ps kvs r
  | _, _, _, .nil => .nil
  | _, _, _, .cons a c => .cons (a.elim (fun q => .inl (seqT_sd s q)) (fun q => .inr (seq_sd s q))) (factR_sd s c)
/-- all texts of a table, of rules over it, can be compared -/
theorem look_mem {n : Str} {ws : List Str} : ∀ {t : List (Str × List Str)}, look n t = some ws → (n, ws) ∈ t
  | [], h => by cases h
  | (m, vs) :: t, h => by
    unfold look at h
    by_cases e : m = n
    · rw [if_pos e] at h
      cases h
      rw [e]
      exact List.mem_cons_self
    · rw [if_neg e] at h
      exact List.mem_cons_of_mem _ (look_mem h)
theorem pick_mem {n w : Str} : ∀ {r : List (Str × Str)}, pick n r = some w → (n, w) ∈ r
  | [], h => by cases h
  | (m, v) :: r, h => by
    unfold pick at h
    by_cases e : m = n
    · rw [if_pos e] at h
      cases h
      rw [e]
      exact List.mem_cons_self
    · rw [if_neg e] at h
      exact List.mem_cons_of_mem _ (pick_mem h)
theorem sorted_mem {t : List (Str × List Str)} {r : List (Str × Str)} {e : Str × Str} (h : e ∈ sorted t r) : e ∈ r := by
  unfold sorted at h
  obtain ⟨f, _, h2⟩ := List.mem_filterMap.mp h
  cases ep : pick f.1 r with
  | none =>
    rw [ep] at h2
    cases h2
  | some w =>
    rw [ep] at h2
    cases h2
    exact pick_mem ep
end Q
set_option Elab.async false
set_option linter.all false
set_option maxRecDepth 100000
set_option maxHeartbeats 4000000
/-! Several except clauses, each with a name of its own; what is caught has no context, so that defs may be called in the suites. -/
namespace XT
open PySem PySem.Spec PyProof.Rows L2 L2N
/-- one clause: the class, the name's slot, the suite's reading -/
structure Cl where
  c : Value
  i : Nat
  ts : Addr → Value → Option Addr → TS
/-- the ends of a suite: behind it the name is gone -/
def offEnds (D : Ends) (i : Nat) : Ends :=
  ⟨fun σ H => D.nx (σ.set i none) H, D.rt, fun σ H => D.bk (σ.set i none) H, fun σ H => D.ct (σ.set i none) H⟩
def wCls (K : PySem.W.Frag) (Wout : WX) (D : Ends) : List Cl → WX
  | [] => Wout
  | q :: r => fun cls d σ H => ∃ yes, PySem.W.exmOne K cls q.c = some yes ∧
      (yes = true → ∀ a, H a = none → q.ts a cls d (offEnds D q.i) (σ.set q.i (some (.ref a))) H) ∧
      (yes = false → wCls K Wout D r cls d σ H)
inductive ClsOk (X : Cx) : List ExceptHandler → List Cl → Prop
  | nil : ClsOk X [] []
  | cons {x n : Str} {q : Cl} {b1 : Stmt} {more : List Stmt} {p1 p2 : Pos} {hs : List ExceptHandler} {l : List Cl}
      (hc : Names X x q.c) (hi : X.N[q.i]? = some n) (hl : X.env.kindOf n = some .local)
      (hsu : ∀ (a : Addr) (oe : Obj) (cls : Value) (d : Option Addr) (pn : List (Addr × Obj)), Zn cls d oe →
        (∃ vs, oe.data = .fields vs) → PSs (X.suite a ((a, oe) :: pn)) (b1 :: more) (q.ts a cls d)) (r : ClsOk X hs l) :
      ClsOk X (.ExceptHandler (some (.Name x p1)) (some n) (b1 :: more) p2 :: hs) (q :: l)
section
variable {X : Cx} {body : List Stmt} {hd1 : ExceptHandler} {hs1 : List ExceptHandler} {l : List Cl} {pos : Pos} {tb : WX → TS} {Wout : WX}
/-- what flies on from a clause list that did not take it -/
theorem flies {A : Around} {B : Heap} {env : Env} {outer : List Env} {a L : Addr} {Z : Obj → Prop} {s : Shared} {Q : Flow → Shared → Prop} {E : Value → Shared → Prop} {M : Model}
    (hf : env.frame = some L) (fl : HandSPX.FlyingZ B (env :: outer) a Z s.heap)
    (q : ∀ h, HandSPX.HeldZ B (env :: outer) a Z L h → s.heap.UpToSlots h → E (.ref a) { s with heap := h }) :
    wpAny M A (handleBy (.ref a) env []) Q E s := by
  refine wpAny_handleBy_nil ?_
  obtain ⟨_, _, _, oe, vs, T, oT, ts, he, hz, hd, h1, _⟩ := id fl
  have step : wpAny M A (setFlight (.ref a) env.frame) (fun _ s4 => wpAny M A (throw (.ref a) : Sem Flow) Q E s4) E s := by
    rw [hf]
    exact HandSPX.setFlight_upZ fl fun h hh up => wpAny_throw (q h hh up)
  unfold PySem.passOn
  refine wpAny_bind (wpAny_field he hd h1 ?_)
  rw [if_neg (show ¬ ((Value.ref T == Value.none) = true) by simp)]
  first
    | exact wpAny_bind (wpAny_pure (wpAny_bind step))
    | exact wpAny_bind step
theorem not_frame {B : Heap} {l : List Env} {h : Heap} {a : Addr} {o : Obj} {vs : Array Value} (ff : h.FunFrames B l)
    (e : h.get? a = some o) (dd : o.data = .fields vs) : a ∉ frs l := fun hm => by
  obtain ⟨_, u, hu, nf⟩ := ff.mem hm
  rw [hu] at e
  cases e
  exact nf _ dd
theorem ps_try_cls (hst : X.stack = X.env :: X.outer) (hf : X.env.frame = some X.env.locals) (hN : X.N.Nodup) (tk : L2N.Takes X Wout)
    (hb : ∀ (W : WX) (pn : List (Addr × Obj)) (xe : Value → Shared → Prop), L2N.Takes (X.tr pn xe) W →
      PassesOwn (model X.prog X.w) X.A X.env xe → PSs (X.tr pn xe) body (tb W))
    (hh : ClsOk X (hd1 :: hs1) l) : PS X (.Try body (hd1 :: hs1) [] [] pos) (fun D σ H => tb (wCls X.K Wout D l) D σ H) := by
  constructor
  intro pins s σ H D I h
  have ok := I.ok
  have frm : X.A.frames = some (X.env :: X.outer) := by
    rw [ok.frames, hst]
  refine wpAny_Try_except ?_
  have run := (hb (wCls X.K Wout D l) (X.pn ++ pins)
    (fun e s1 => wpAny (model X.prog X.w) X.A (noteFrame e X.env)
      (fun _ s2 => wpAny (model X.prog X.w) X.A (setFlight e none)
        (fun _ s3 => wpAny (model X.prog X.w) X.A (handleBy e X.env (hd1 :: hs1)) (SP X pins D) X.xe s3) X.xe s2) X.xe s1)
    ?takes PassesOwn.looking).run [] s σ H D (I.toTry _) h
  case takes =>
    intro u s1 air
    obtain ⟨a, B, sI, pins', σ1, H1, cls, d, rfl, J0, nb, up, sky, na, os, ag, w⟩ := air
    have J : Inv X pins σ1 H1 sI := J0.ofTry ok
    have sky1 : Sky B (X.env :: X.outer) a (Zn cls d) X.env.locals s1.heap := by
      rw [← hst]
      exact sky
    show wpAny (model X.prog X.w) X.A (noteFrame (.ref a) X.env) _ _ _
    refine L2N.Sky.land Zn.steady frm hf sky1 fun h3 fl up3 => ?_
    have J3 : Inv X pins σ1 H1 { s1 with heap := h3 } := J.landed nb fl.1 (up.trans up3) os ag
    obtain ⟨o3, v3, e3, z3, d3⟩ := fl.there
    have nfr := not_frame fl.2.2.1 e3 d3
    have nL : a ≠ X.env.locals := fun z =>
      nfr (List.mem_filterMap.mpr ⟨X.env, List.mem_cons_self, by rw [hf, z]⟩)
    have nF : a ∉ X.fs := fun hm => by
      obtain ⟨e, he, q⟩ := List.mem_filterMap.mp hm
      exact nfr (List.mem_filterMap.mpr ⟨e, List.mem_cons_of_mem _ he, q⟩)
    have S3 := J3.suite e3 d3 na nL nF
    have go : ∀ {hs2 : List ExceptHandler} {l2 : List Cl}, ClsOk X hs2 l2 → wCls X.K Wout D l2 cls d σ1 H1 →
        wpAny (model X.prog X.w) X.A (handleBy (.ref a) X.env hs2) (SP X pins D) X.xe { s1 with heap := h3 } := by
      intro hs2 l2 hk
      induction hk with
      | nil =>
        intro w
        refine flies (s := { s1 with heap := h3 }) hf fl fun h4 hh4 up4 => tk _ _ ?_
        exact ⟨a, B, sI, pins, σ1, H1, cls, d, rfl, J, nb, (up.trans up3).trans up4, .inr (.inr (by rw [hst]; exact hh4)), na, os, ag, w⟩
      | @cons x n q b1 more p1 p2 hs l hc hi hl hsu r ih =>
        intro w
        obtain ⟨yes, hx, hyes, hno⟩ := w
        refine wpAny_handleBy_cons (codeAny_handlers_test ?_) (by intro z; cases z)
        have LT : PySem.W.Looks (model X.prog X.w) h3 (typeOf (.ref a)) cls :=
          fun A Q E s k q => wpAny_typeOf_ref (k _ _ e3) (by rw [z3.1]; exact q)
        have LM := PySem.W.exm_one (M := model X.prog X.w) (J3.kIn) LT hx
        have test : ∀ {Q : Value → Shared → Prop} {E : Value → Shared → Prop}, Q q.c { s1 with heap := h3 } →
            wpAny (model X.prog X.w) (X.A.mark (some (.ref a))) (eval (.Name x p1) X.env) Q E { s1 with heap := h3 } := by
          intro Q E z
          obtain ⟨hg, hdb, hm | ⟨hm, hv, hnn⟩⟩ := hc
          · exact ld_glob (X := X.suite a ((a, o3) :: (X.pn ++ pins))) S3 hg hm z hdb
          · exact ld_blt (X := X.suite a ((a, o3) :: (X.pn ++ pins))) S3 hg hm hv z hnn hdb
        refine test (LM.here ?_)
        cases yes with
        | false =>
          show wpAny _ X.A (handleBy (.ref a) X.env hs) _ _ _
          exact ih (hno rfl)
        | true =>
          refine codeAny_handlers_suite_as ?_
          refine HandSPX.lands_againZ fl fun h4 fl4 up4 => ?_
          have J4 : Inv X pins σ1 H1 { s1 with heap := h4 } :=
            J.landed nb fl4.1 ((up.trans up3).trans up4) os ag
          obtain ⟨o4, v4, e4, z4, d4⟩ := fl4.there
          have S4 := J4.suite e4 d4 na nL nF
          refine store_ok (X := X.suite a ((a, o4) :: (X.pn ++ pins))) (v := .ref a) S4 hN hi (.inl hl) rfl (fun s5 S5 => ?_) (.inr hl)
          have fin : ∀ {s6 : Shared} {σ6 : L2.St} {H6 : Hp} {Q : Shared → Prop}, Inv (X.suite a ((a, o4) :: (X.pn ++ pins))) [] σ6 H6 s6 →
              (∀ s7, Inv X pins (σ6.set q.i none) H6 s7 → Q s7) →
              wpAny (model X.prog X.w) X.A (do bindName X.env n .none; unbindBehindTheSuite X.env n p2) (fun _ s7 => Q s7) X.xe s6 :=
            fun S6 hq => gone_ok (S6.unsuite ok) hN hi hl hq
          refine wpAny_mono ((hsu a o4 cls d (X.pn ++ pins) z4 ⟨_, d4⟩).run [] s5 _ H1 _ S5 (hyes rfl a na)) (fun f s6 hsp => ?_) (fun _ _ z => False.elim z)
          cases f with
          | ret u =>
            obtain ⟨v6, σ6, H6, S6, r6, q6⟩ := hsp
            exact fin S6 fun s7 J7 => ⟨_, _, _, J7, r6, q6⟩
          | next =>
            obtain ⟨σ6, H6, S6, q6⟩ := hsp
            exact fin S6 fun s7 J7 => ⟨_, _, J7, q6⟩
          | brk =>
            obtain ⟨σ6, H6, S6, q6⟩ := hsp
            exact fin S6 fun s7 J7 => ⟨_, _, J7, q6⟩
          | cont =>
            obtain ⟨σ6, H6, S6, q6⟩ := hsp
            exact fin S6 fun s7 J7 => ⟨_, _, J7, q6⟩
    exact go hh w
  refine wpAny_mono run (fun f s1 hsp => ?_) (fun e s1 he => he)
  cases f with
  | ret u =>
    obtain ⟨v, σ1, H1, J1, rv, q⟩ := hsp
    exact ⟨v, σ1, H1, J1.ofTry ok, rv, q⟩
  | next =>
    obtain ⟨σ1, H1, J1, q⟩ := hsp
    exact wpAny_execs_nil ⟨σ1, H1, J1.ofTry ok, q⟩
  | brk =>
    obtain ⟨σ1, H1, J1, q⟩ := hsp
    exact ⟨σ1, H1, J1.ofTry ok, q⟩
  | cont =>
    obtain ⟨σ1, H1, J1, q⟩ := hsp
    exact ⟨σ1, H1, J1.ofTry ok, q⟩
end
end XT
set_option Elab.async false
set_option linter.all false
set_option maxRecDepth 100000
set_option maxHeartbeats 4000000
/-! Own error classes over Exception with «def __init__(self, f): self.f = f», f one of three names: made and raised. -/
namespace XM
open PySem PySem.W PySem.Calls PyProof.Rows PySem.HandSPX
abbrev exTail : List Value := [.type "Exception", .type "BaseException", .type "object"]
def eArgs (f : Str) (p1 p2 : Pos) : Arguments :=
  { posonlyargs := [], args := [⟨"self", none, p1⟩, ⟨f, none, p2⟩], vararg := none, kwonlyargs := [], kw_defaults := [], kwarg := none, defaults := [] }
def eBody (f : Str) (q1 q2 q3 q4 : Pos) : List Stmt := [.Assign [.Attribute (.Name "self" q1) f q2] (.Name f q3) q4]
def eScope (f : Str) : Scope := ⟨.function, [(PySem.Str.ofString "self", .local), (f, .local)], false, false, []⟩
def Fld (f : Str) : Prop := f = PySem.Str.ofString "at" ∨ f = PySem.Str.ofString "name" ∨ f = PySem.Str.ofString "word"
/-- what the written part says of the class at C, its __init__ at fI, its field f -/
structure XcT (K : Frag) (C fI : Addr) (f qual : Str) : Prop where
  fld : Fld f
  ini : excInitIn K C exTail "Exception.__new__" = true
  ovr : excOver K C exTail = true
  tkn : takerIn K C f = some none
  sa : findIn K (.ref C) "__setattr__" = some (some (.builtin "object.__setattr__"))
  ga : findIn K (.ref C) "__getattribute__" = some (some (.builtin "BaseException.__getattribute__"))
  gg : findIn K (.ref C) "__getattr__" = some none
  noN : findIn K (.ref C) f = some none
  iC : findIn K (.ref C) "__init__" = some (some (.ref fI))
  tC : typeIn K (.ref fI) = some (.type "function")
  kC : keepIn K (.ref C) = true
  exC : subIn K (.ref C) (.type "BaseException") = some true
  tyC : typeIn K (.ref C) = some (.type "type")
  hdC : hasDictIn K C = true
  fn : ∃ (oc : Value) (od : Option Addr) (doc pm : Value) (an : Option Addr) (cdv ct : Value) (osl : Array (Option Value)) (p1 p2 q1 q2 q3 q4 : Pos),
    K.lookup fI = some ⟨oc, od, .func (fnOf "__init__" qual (eArgs f p1 p2) (eBody f q1 q2 q3 q4) (eScope f) .none .none doc pm an cdv ct), osl⟩ ∧ codeIn K cdv qual = true
theorem len1 (v : Value) : [v].length ≤ sizeLine := by
  rw [sizeLine_eq]
  exact (by decide : 1 ≤ 16777216)
theorem loaded {M : Model} {s : Shared} {nm : Str} {sc : Scope} {L a : Addr} {cd : Value} {m : Str → Option Value} {x : Str} {pos : Pos} {v : Value}
    {Q : Value → Shared → Prop} {A : Around} {E : Value → Shared → Prop} (hn : s.heap.Ns L m) (hv : m x = some v) (h : Q v s)
    (hk : sc.kind = .function) (hl : (envOfC nm sc L a cd).kindOf x = some .local) (hd : (x == ("__debug__" : Str)) = false) :
    wpAny M A (eval (.Name x pos) (envOfC nm sc L a cd)) Q E s := wpAny_Name (wpAny_loadName_local hk hl hn hv h) hd
/-- behind __init__: the object has its dict at dx, which holds the field -/
structure Inited (h h' : Heap) (x C dx t1 : Addr) (f : Str) (v : Value) : Prop where
  keep : ∀ b o, b ≠ x → h.get? b = some o → h'.get? b = some o
  obj : h'.get? x = some { cls := .ref C, dict := some dx, data := .fields #[.ref t1, .none, .none, .none, .bool false, .none] }
  dbig : h.objs.size ≤ dx
  dne : dx ≠ x
  ns : h'.Ns1 dx (fun y => if y = f then some v else none)
structure Made (h h' : Heap) (e C d : Addr) (f : Str) (v : Value) : Prop where
  keep : ∀ b o, h.get? b = some o → h'.get? b = some o
  new : h.objs.size ≤ e
  obj : ∃ t, h'.get? e = some { cls := .ref C, dict := some d, data := .fields #[.ref t, .none, .none, .none, .bool false, .none] }
  dbig : h.objs.size ≤ d
  dne : d ≠ e
  ns : h'.Ns1 d (fun y => if y = f then some v else none)
section
open Builtin Builtin.ObjectAttr
variable {prog : Program} {w : World} {A : Around} {E : Value → Shared → Prop} {R : Result → Shared → Prop} {K : Frag} {C fI : Addr} {f qual : Str}
/-- the first field of such an error -/
theorem first_field {hp : Heap} {g : Array GenState} {dr : Drawn} {t : Nat} {os : OsState} {tk : Tok} {v : Value} {x : Addr} {fv : Array Value}
    (X : K.In hp) (hx : hp.get? x = some { cls := .ref C, data := .fields fv }) (hov : excOver K C exTail = true) (hh : hasDictIn K C = true) (ht : takerIn K C f = some none)
    (hq : ∀ h' tk' dx, (∀ b o, b ≠ x → hp.get? b = some o → h'.get? b = some o) → hp.objs.size ≤ dx → dx ≠ x →
      h'.get? x = some { cls := .ref C, dict := some dx, data := .fields fv } → h'.Ns1 dx (fun y => if y = f then some v else none) → R (.ok (.ret .none)) ⟨h', g, dr, tk', os⟩) :
    codeAny (model prog w) A (.call (.builtin "object.__setattr__") ⟨[.ref x, .str f tk, v], []⟩) R ⟨hp, g, dr, t, os⟩ := by
  have I : W.InstAt hp x { cls := .ref C, data := .fields fv } C none := ⟨hx, rfl, rfl, trivial⟩
  obtain ⟨cd, hcd, hd⟩ := any_some hh
  have hcls : W.Looks (model prog w) hp (classData C) cd := W.looks_clsIn X hcd
  have lt : x < hp.objs.size := Heap.lt_size hx
  have hxs : x ≠ hp.objs.size := Nat.ne_of_lt lt
  refine osa_openX (s := ⟨hp, g, dr, t, os⟩) F.store_Exception X I hov ht fun b => ?_
  show wpAny _ _ (storeInOwnDict (.ref x) (.ref C) (.str f tk) f v b) _ _ _
  obtain ⟨nm, bs, mro, ns, qn, hd0, sn, sb, ab, col, del⟩ := cd
  have hd1 : hd0 = true := hd
  subst hd1
  unfold storeInOwnDict ownDictForStores
  repeat (first | with_reducible refine store_in_new ?_ ?_ | with_reducible refine wpAny_loadPart_at hx ?_ | with_reducible refine hcls.at ?_ | wp_step)
  · exact ⟨_, #[], _, (Heap.get?_update_ne _ _ _ _ hxs.symm).trans (Heap.get?_push_at rfl rfl), rfl, (fun e he => absurd he (by simp)), fun _ => rfl⟩
  · intro h' tk' hn' same
    have hx1 : (hp.push { cls := .type "dict", data := .dict #[] }).get? x = some { cls := .ref C, data := .fields fv } :=
      Heap.get?_push_of_some _ hx
    refine hq h' tk' hp.objs.size (fun b o hb ho => ?_) (Nat.le_refl _) hxs.symm ?_ hn'
    · have nb : b ≠ hp.objs.size := Nat.ne_of_lt (Heap.lt_size ho)
      exact (same.2 b nb).trans ((Heap.get?_update_ne _ _ _ _ hb).trans (Heap.get?_push_of_some _ ho))
    · exact (same.2 x hxs).trans (Heap.get?_update_self _ hx1 rfl)
theorem xinit (T : XcT K C fI f qual) {s : Shared} {x t0 : Addr} {v : Value} (X : K.In s.heap) (hlim : s.heap.NoLimit)
    (hx : s.heap.get? x = some (excO C t0)) (hroom : A.depth < recursionLimit)
    (hq : ∀ h' tk dx, Inited s.heap h' x C dx t0 f v → R (.ok (.ret .none)) { s with heap := h', toks := tk }) :
    codeAny (model prog w) A (.call (.ref fI) ⟨[.ref x, v], []⟩) R s := by
  obtain ⟨oc, od, doc, pm, an, cdv, ct, osl, p1, p2, q1, q2, q3, q4, ho, hcd⟩ := T.fn
  have hsa := T.sa
  have hov := T.ovr
  have hdc := T.hdC
  have htk := T.tkn
  rcases T.fld with rfl | rfl | rfl <;>
  · refine Att.call_fn (binds := [("self", .ref x), (_, v)]) X hlim ho hcd hroom (BindsTo.of_eq (by first | rfl | with_unfolding_all rfl)) (by first | rfl | decide | with_unfolding_all rfl) (fun s1 IC => ?_) rfl rfl rfl
    obtain ⟨h1, tk1, rfl⟩ := IC.toInCall.same
    have k : ∀ b o, s.heap.get? b = some o → h1.get? b = some o := IC.toInCall.keep
    have hn := IC.toInCall.ns
    have X1 : K.In h1 := X.keeps k
    have hx1 := k _ _ hx
    have big : s.heap.objs.size < h1.objs.size := hn.lt
    show wpAny _ _ (execs _ _) _ _ _
    refine wpAny_execs_cons (plainObj_wpAny_Assign_Attribute ?_)
    refine loaded (v := v) hn (by first | rfl | with_unfolding_all rfl | kernel_rfl) (loaded (v := .ref x) hn (by first | rfl | with_unfolding_all rfl | kernel_rfl) ?_ rfl rfl (by decide)) rfl rfl (by decide)
    refine set_plain X1 (ox := excO C t0) (od := none) ⟨hx1, rfl, rfl, trivial⟩ hsa ?_
    refine first_field X1 hx1 hov hdc htk (fun h3 tk3 dx k3 dn dne hx3 hn3 => ?_)
    show wpAny _ _ (execs _ _) _ _ _
    exact wpAny_execs_nil (hq h3 tk3 dx ⟨fun b o hb e => k3 b o hb (k b o e), hx3, Nat.le_of_lt (Nat.lt_of_lt_of_le big dn), dne, hn3⟩)
theorem xmade (T : XcT K C fI f qual) {s : Shared} {v : Value} (X : K.In s.heap) (hlim : s.heap.NoLimit) (hroom : A.depth + 1 < recursionLimit)
    (hq : ∀ h' tk e d, Made s.heap h' e C d f v → R (.ok (.ret (.ref e))) { s with heap := h', toks := tk }) :
    codeAny (model prog w) A (.call (.ref C) ⟨[v], []⟩) R s := by
  obtain ⟨nm, N, qn, bs, bm, hdct, sn, sub, ab, col, dd, k0, k1, k2, k3, k5, hC, hbm⟩ := excInit_of X T.ini
  obtain ⟨hp, g, dr, tk, os⟩ := s
  have k : ∀ b o, hp.get? b = some o → ((hp.push (kdv_tup [v])).push (excO C hp.objs.size)).get? b = some o :=
    fun b o e => Heap.get?_push_of_some _ (Heap.get?_push_of_some _ e)
  have hget : ((hp.push (kdv_tup [v])).push (excO C hp.objs.size)).get? (hp.objs.size + 1) = some (excO C hp.objs.size) := by
    heap_get
  refine call_own F.excBase_Exception hbm hC (looks_findIn X T.iC) (fun self => bind_fn X self T.tC) (len1 v) ?_
  have room1 : (A.under (.builtin "type.__call__" ⟨.ref C :: [v], []⟩)).depth < recursionLimit := hroom
  refine xinit (s := ⟨(hp.push (kdv_tup [v])).push (excO C hp.objs.size), g, dr, tk, os⟩) T (X.keeps k) (hlim.keeps k) hget room1 fun h' tk' dx Z => ?_
  have old : ∀ b o, hp.get? b = some o → h'.get? b = some o := fun b o e =>
    Z.keep b o (Nat.ne_of_lt (Nat.lt_succ_of_lt (Heap.lt_size e))) (k b o e)
  have z : hp.objs.size + 1 + 1 ≤ dx := by
    have q := Z.dbig
    first
      | (simpa only [Heap.size_push] using q)
      | exact q
      | (rw [Heap.size_push, Heap.size_push] at q; exact q)
  exact ⟨rfl, hq h' tk' (hp.objs.size + 1) dx ⟨old, Nat.le_succ _, ⟨_, Z.obj⟩, Nat.le_trans (Nat.le_trans (Nat.le_succ _) (Nat.le_succ _)) z, Z.dne, Z.ns⟩⟩
end
end XM
namespace XM
open PySem PySem.Spec PyProof.Rows L2
theorem relOne {v : V} {u : Value} (r : RelV v u) (f g : Str) : RelO (List.lookup g [(f, v)]) (if g = f then some u else none) := by
  by_cases h : g = f
  · subst h
    rw [if_pos rfl]
    have e : List.lookup g [(g, v)] = some v := by simp [List.lookup]
    rw [e]
    exact r
  · rw [if_neg h]
    have q : (g == f) = false := by simpa using h
    have e : List.lookup g [(f, v)] = none := by simp [List.lookup, q]
    rw [e]
    trivial
/-- C(e): the error's own dict is new and holds the field -/
def tMk (C : Addr) (f : Str) (ta : TA) : L2.St → Hp → XK → Prop := fun σ H Q =>
  ta σ H fun vs H1 => ∃ v, vs = [v] ∧ ∀ d, H1 d = none → Q (.ref C) (some d) (upd H1 d (.xd [(f, v)]))
theorem pmk {X : Cx} {C fI : Addr} {f qual x : Str} {a : Expr} {ta : TA} {p pos : Pos} {k : Nat} (T : XcT X.K C fI f qual) (hm : X.mg x = some (.ref C)) (hr : Room k X.A) (ha : PA X [a] ta)
    (hg : Gl X x := by rfl) (hdb : (x == ("__debug__" : Str)) = false := by decide)
    (he : starEach (a :: []) X.env = (false, eval a X.env) :: starEach [] X.env := by rfl) (hpl : (backTo pos (starEach [] X.env)).any (·.1) = false := by rfl) :
    L2N.PMk X (.Call (.Name x p) [a] [] pos) (tMk C f ta) := by
  intro pins s σ H Q I h
  refine wpAny_Call_Name_kw (ld_glob I hg hm ?_ hdb)
  refine PySem.W.callWith_K (h₀ := X.base) I.ok.mod.kin T.kC (thn (ha.run pos pins s σ H _ I h) fun us s1 hh => ?_) he hpl
  obtain ⟨vs, H1, I1, r1, v, rfl, q1⟩ := hh
  refine ⟨I1.kIn, ?_⟩
  cases r1 with
  | cons rv rn =>
    rename_i u us1
    cases rn
    have hlim := I1.nolimit
    show wpAny _ _ (call (.ref C) [u]) _ _ _
    obtain ⟨hp, g, dr, tk, os⟩ := s1
    have room : X.A.depth + 1 < recursionLimit := by
      have := hr.dp
      omega
    refine wpAny_call (xmade T I1.kIn hlim room fun h' tk' e d M => ?_)
    show L2N.MkP X pins σ Q (.ref e) ⟨h', g, dr, tk', os⟩
    obtain ⟨t, hoe⟩ := M.obj
    have hns := M.ns
    obtain ⟨G, g1, g2⟩ := restrict h' fun b => decide (b ≠ e)
    have gk : ∀ b, b ≠ e → G.get? b = h'.get? b := fun b hb => g1 b (decide_eq_true hb)
    have ge : G.get? e = none := g2 e (by simp)
    have old : ∀ b o, hp.get? b = some o → G.get? b = some o := fun b o q =>
      (gk b (Nat.ne_of_lt (Nat.lt_of_lt_of_le (Heap.lt_size q) M.new))).trans (M.keep b o q)
    have ob : ObjOk X.prog X.w (upd H1 d (.xd [(f, v)])) G d (.xd [(f, v)]) :=
      ⟨_, hns.at (fun o q => (gk d M.dne).trans q), fun y => relOne rv f y⟩
    have J : Inv X pins σ (upd H1 d (.xd [(f, v)])) ⟨G, g, dr, tk', os⟩ := I1.laid (t' := tk') old M.dbig ob
    refine ⟨e, _, _, ⟨G, g, dr, tk', os⟩, _, .ref C, some d, rfl, J, fun b o q => ?_, ge, hoe, ⟨rfl, rfl, fun ws ew => by cases ew; rfl⟩, rfl, rfl, ?_, rfl, I1.bare, raises_own T.exC T.tyC, q1 d (I1.hok.fresh M.dbig)⟩
    · by_cases hb : b = e
      · have q2 : G.get? b = some o := q
        rw [hb, ge] at q2
        cases q2
      · exact (gk b hb).symm.trans q
    · rw [upd_ne (Ne.symm M.dne)]
      exact I1.hok.fresh M.new
end XM
set_option Elab.async false
set_option linter.all false
set_option maxRecDepth 100000
set_option maxHeartbeats 8000000
/-! ### Form -/
namespace Q
open PySem L2 XD
/-- a def that may let errors out, their own dict with them -/
theorem Fun_okN {P : Program} {w : World} {K : PySem.W.Frag} {mg : Str → Option Value} {base : Heap} {x qual : Str} {st : Stmt} {f : Addr} {fd : FuncData} {N ps : List Str} {k : Nat} {sp : Sp} (F : Fun K x qual st f fd) (S : FnScope N ps (defScope st)) (len : ∀ vs H Q E, sp vs H Q E → vs.length = ps.length)
    (hbody : ∀ (cdv : Value) (A : Around) (outer : List Env) (s : Shared) (H : Hp) (vs : List V) (Q : VK) (E : XK), Room k (A.deeper (PyProof.Rows.envOfC qual (defScope st) s.heap.objs.size f cdv)) → sp vs H Q E →
      ∃ t, PSs (cxOf (L2N.CX P w) P w K mg base N qual (defScope st) f cdv A outer s H E) (defBody st) t ∧ t { nx := fun _ H' => Q .non H', rt := Q } (L2.start N vs) H) : FnOk P w K mg base (L2N.CX P w) (k + 1) f fd ps sp := by
  obtain ⟨oc, od, kV, doc, pm, an, cdv, ct, osl, rfl, lk, hcd⟩ := F.ex
  exact fn_of lk hcd S len fun A outer s H vs Q E hr hsp => hbody cdv A outer s H vs Q E hr hsp
theorem call_tupK {X : Cx} (K : PySem.W.Frag) (h : X.K = K) : CallR X (.type "tuple") (rTupZ K) := by
  subst h
  exact call_tupZ
structure Er (K : PySem.W.Frag) (mg : Str → Option Value) (CV CM : Addr) : Prop where
  v : ∃ fI qual, XM.XcT K CV fI "at" qual
  m : ∃ fI qual, XM.XcT K CM fI "word" qual
  gv : mg "BadValue" = some (.ref CV)
  gm : mg "TooMany" = some (.ref CM)
/-- rules whose pairs may be handed to dict: each a list, or a tuple known to have no dict -/
def RZ (K : PySem.W.Frag) (H : Hp) (v : V) (d : PyData) : Prop := ∃ (q : Addr) (ws : List V) (rds : List PyData), v = .ref q ∧ rowOf d = some rds ∧ (SqL K H q ws ∨ SqT K H q ws) ∧ ws.length = rds.length ∧
  ∀ (i : Nat) (y : V) (rd : PyData), ws[i]? = some y → rds[i]? = some rd → ∃ (q2 : Addr) (zs : List V) (gs : List PyData), y = .ref q2 ∧ (SqL K H q2 zs ∨ SqZ H q2 zs) ∧ rowOf rd = some gs ∧ DpAll K H zs gs
theorem RZ.same {K : PySem.W.Frag} {H H' : Hp} {v : V} {d : PyData} (s : Same H H') (h : RZ K H v d) : RZ K H' v d := by
  obtain ⟨q, ws, rds, e1, e2, e3, e4, e5⟩ := h
  refine ⟨q, ws, rds, e1, e2, sq_same s e3, e4, fun i y rd h1 h2 => ?_⟩
  obtain ⟨q2, zs, gs, f1, f2, f3, f4⟩ := e5 i y rd h1 h2
  exact ⟨q2, zs, gs, f1, f2.elim (fun z => .inl (s.seq z)) (fun z => .inr (z.same s)), f3, dps_same s f4⟩
def rulesOf (d : PyData) : List (List (Str × Str)) := match rowOf d with
  | some rs => rs.map factsOf
  | none => []
/-- what a form is made to -/
inductive Made
  | bad (i : Int)
  | many
  | form (t : List (Str × List Str)) (rs : List (List (Str × Str)))
def made (dF dR : PyData) : Made :=
  if areFields dF = true then
    if areRules (tabOf dF) dR = true then
      if 1000 < waysFrom 1 (tabOf dF) then .many else .form (tabOf dF) (once ((rulesOf dR).map (sorted (tabOf dF))))
    else .bad 1
  else .bad 0
def FormAt (C : Addr) (H : Hp) (x pf pr : Addr) : Prop := ∃ dx, H x = some (.ins C dx [("_fields", .ref pf), ("_rules", .ref pr)])
/-- the end of the making -/
def mEnd (K : PySem.W.Frag) (C CV CM x : Addr) (H : Hp) (Q : VK) (E : XK) : Made → Prop
  | .bad i => ∀ d H', Same H H' → H' d = none → E (.ref CV) (some d) (upd H' d (.xd [("at", .int i)]))
  | .many => ∀ d H', Same H H' → H' d = none → E (.ref CM) (some d) (upd H' d (.xd [("word", .str "fillings")]))
  | .form t rs => ∀ pf pr H', (∀ b o, b ≠ x → H b = some o → H' b = some o) → FormAt C H' x pf pr → TabAt K H' pf t → RulesAt K H' pr rs → Q .non H'
def spInit (K : PySem.W.Frag) (C CV CM : Addr) : Sp := fun vs H Q E => ∃ (x dx : Addr) (vF vR : V) (dF dR : PyData), vs = [.ref x, vF, vR] ∧ H x = some (.ins C dx []) ∧ Dp K H vF dF ∧ Dp K H vR dR ∧ FShort dF ∧ ROk dR ∧ (∀ t rs, made dF dR = .form t rs → RZ K H vR dR) ∧ mEnd K C CV CM x H Q E (made dF dR)
theorem nxt {D : Ends} {σ : L2.St} {H : Hp} (h : D.nx σ H) : tNext D σ H := h
theorem asg_tup {K : PySem.W.Frag} {te : TE} {u : TS} {D : Ends} {σ : L2.St} {H : Hp} {i : Nat} (h : te σ H fun v H1 => rTupZ K [v] H1 fun v2 H2 => u D (σ.set i (some v2)) H2) : tSeq (tAsg (tCB (rTupZ K) (tCons te tNil)) (gName i)) u D σ H := h
theorem fr_ : ¬ (("_fields" : Str) = "_rules") := by decide +kernel
theorem pf2 (l z : Addr) : putF "_rules" (.ref z) (putF "_fields" (.ref l) []) = ([("_fields", V.ref l), ("_rules", V.ref z)] : List (Str × V)) := by
  show (if ("_fields" : Str) = "_rules" then [(("_rules" : Str), V.ref z)] else (("_fields" : Str), V.ref l) :: putF "_rules" (V.ref z) []) = ([("_fields", V.ref l), ("_rules", V.ref z)] : List (Str × V))
  rw [if_neg fr_]
  all_goals rfl
theorem fld_each {K : PySem.W.Frag} {te t0 : TE} {f : Str} {D : Ends} {σ : L2.St} {H : Hp} (h : te σ H fun v H1 => spEach K [v] H1 (fun y H2 => t0 σ H2 fun x H3 => ∃ a C dx fs, x = .ref a ∧ H3 a = some (.ins C dx fs) ∧ Cls K C ∧ NoAttr K C f ∧ fs.length < 1000 ∧ D.nx σ (upd H3 a (.ins C dx (putF f y fs)))) E0) : sFld K t0 (tCall (spEach K) [] E0 (tCons te tNil)) f D σ H := h
theorem rules_good {t : List (Str × List Str)} {d : PyData} (h : areRules t d = true) : ∃ rs, rowOf d = some rs ∧ rs.length ≤ 20 ∧ rulesOf d = rs.map factsOf ∧ ∀ r ∈ rs, areFacts t r = true := by
  unfold areRules at h
  cases e : rowOf d with
  | none =>
    rw [e] at h
    cases h
  | some rs =>
    rw [e] at h
    have h2 : (decide (rs.length ≤ 20) && rs.all (ruleOk t)) = true := h
    rw [Bool.and_eq_true] at h2
    refine ⟨rs, rfl, of_decide_eq_true h2.1, ?_, fun r hr => ?_⟩
    · unfold rulesOf
      rw [e]
    · have h3 := List.all_eq_true.mp h2.2 r hr
      cases ef : areFacts t r with
      | true => rfl
      | false =>
        rw [ruleOk_no ef] at h3
        cases h3
section
variable {P : Program} {w : World} {K : PySem.W.Frag} {mg : Str → Option Value} {base : Heap}
theorem scInit : FnScope ["self", "fields", "rules", "kept", "name", "values", "rule"] ["self", "fields", "rules"] (defScope sInit) := ⟨rfl, rfl, rfl, by decide +kernel, rfl, by decide +kernel, by decide +kernel⟩
theorem scFieldsM : FnScope ["self"] ["self"] (defScope sFieldsM) := ⟨rfl, rfl, rfl, by decide +kernel, rfl, by decide +kernel, by decide +kernel⟩
theorem scRulesM : FnScope ["self"] ["self"] (defScope sRulesM) := ⟨rfl, rfl, rfl, by decide +kernel, rfl, by decide +kernel, by decide +kernel⟩
theorem scEqM : FnScope ["self", "other"] ["self", "other"] (defScope sEqM) := ⟨rfl, rfl, rfl, by decide +kernel, rfl, by decide +kernel, by decide +kernel⟩
theorem ok_init {f C CV CM : Addr} {fd : FuncData} (F : Fun K "__init__" "Form.__init__" sInit f fd) (T : Bb mg) (Cc : Fm mg) (R : Er K mg CV CM) (cl : Cls K C) (nF : NoAttr K C "_fields") (nR : NoAttr K C "_rules")
    (KA : Kn P w K mg base 5 "_are_fields" ["fields"] (spAreFields K)) (KR : Kn P w K mg base 4 "_are_rules" ["fields", "rules"] (spAreRules K)) (KW : Kn P w K mg base 1 "_ways_to_fill" ["fields"] (spWays K)) (KE : Kn P w K mg base 1 "_each_once" ["rules"] (spEach K)) (KS : Kn P w K mg base 1 "in_sequence" ["fields", "facts"] (spInSeq K)) :
    FnOk P w K mg base (L2N.CX P w) 6 f fd ["self", "fields", "rules"] (spInit K C CV CM) := by
  obtain ⟨fA, fdA, GA, kA, bA, mA⟩ := KA.ex
  obtain ⟨fR, fdR, GR, kR, bR, mR⟩ := KR.ex
  obtain ⟨fW, fdW, GW, kW, bW, mW⟩ := KW.ex
  obtain ⟨fE, fdE, GE, kE, bE, mE⟩ := KE.ex
  obtain ⟨fS, fdS, GS, kS, bS, mS⟩ := KS.ex
  obtain ⟨fIv, qv, XV⟩ := R.v
  obtain ⟨fIm, qm, XN⟩ := R.m
  obtain ⟨tF, hF⟩ := Cc.mfi
  refine Fun_okN F scInit (fun vs H Q E h => ?_) (fun cdv A outer s H vs Q E hr h => ?_)
  · obtain ⟨x, dx, vF, vR, dF, dR, rfl, _⟩ := h
    rfl
  have vt_ : PySem.bootBuiltins "tuple" = some (.type "tuple") := by decide +kernel
  refine ⟨_, pss_cons (ps_if (pt_not (pt_val (pe_call GA hr rfl mA kA bA .nil pass0 (pa_cons (pv 1) pa_nil)))) (pss_one (L2N.ps_raise rfl (L2N.takes_of rfl rfl rfl rfl) (XM.pmk XV R.gv hr (pa_cons pe_int pa_nil)))) pss_nil)
    (pss_cons (ps_set (i := 3) scInit.nd rfl (.inr rfl) (pe_callTy (call_tupK K rfl) rfl T.tup vt_ (pa_cons (pe_lc (own := [("name", 4), ("values", 5)]) (g := gRow K 2 (gCons (gName 4) (gCons (gName 5) gNil))) (tt := tYes) (by rfl) scInit.nd (pi_row (pv 1)) (blkOk_by (N := ["self", "fields", "rules", "kept", "name", "values", "rule"]) (sc := defScope sInit) (by decide +kernel))
      (fun _ _ _ _ _ => pg_row rfl (pgs_cons (pg_name (i := 4) scInit.nd rfl (.inl rfl)) (pgs_cons (pg_name (i := 5) scInit.nd rfl (.inl rfl)) pgs_nil)))
      (fun _ _ _ _ _ => pts_nil)
      (fun _ _ _ _ _ => pe_tupZ (pa_cons (pv 4) (pa_cons (pe_callTy (call_tupK K rfl) rfl T.tup vt_ (pa_cons (pv 5) pa_nil)) pa_nil)))) pa_nil)))
    (pss_cons (ps_if (pt_not (pt_val (pe_call GR (hr.mono (by decide)) rfl mR kR bR .nil pass0 (pa_cons (pv 3) (pa_cons (pv 2) pa_nil))))) (pss_one (L2N.ps_raise rfl (L2N.takes_of rfl rfl rfl rfl) (XM.pmk XV R.gv hr (pa_cons pe_int pa_nil)))) pss_nil)
    (pss_cons (ps_if (pt_cmpR op_gt (pe_call GW (hr.mono (by decide)) rfl mW kW bW .nil pass0 (pa_cons (pv 3) pa_nil)) (pe_glob (v := .int 1000) (by rfl) hF ⟨_, rfl⟩) (nomark _)) (pss_one (L2N.ps_raise rfl (L2N.takes_of rfl rfl rfl rfl) (XM.pmk XN R.gm hr (pa_cons pe_str pa_nil)))) pss_nil)
    (pss_cons (ps_fld (pv 0) (pv 3) rfl)
    (pss_one (ps_fld (pv 0) (pe_call GE (hr.mono (by decide)) rfl mE kE bE .nil pass0 (pa_cons (pe_lc (own := [("rule", 6)]) (g := gName 6) (tt := tYes) (by rfl) scInit.nd (pi_row (pv 2)) (blkOk_by (N := ["self", "fields", "rules", "kept", "name", "values", "rule"]) (sc := defScope sInit) (by decide +kernel))
      (fun _ _ _ _ _ => pg_name (i := 6) scInit.nd rfl (.inl rfl)) (fun _ _ _ _ _ => pts_nil)
      (fun _ _ _ _ _ => pe_call GS (hr.mono (by decide)) rfl mS kS bS .nil pass0 (pa_cons (pv 3) (pa_cons (pv 6) pa_nil)))) pa_nil)) rfl)))))), ?_⟩
  obtain ⟨x, dx, vF, vR, dF, dR, rfl, hx, hF, hR, hs, ho, hz, k⟩ := h
  refine ⟨_, rfl, vF, dF, rfl, hF, hs, fun H1 s1 => ⟨_, rfl, ?_⟩⟩
  cases eF : areFields dF with
  | false =>
    refine iteT ⟨.int 0, rfl, fun d hd => ?_⟩
    have em : made dF dR = .bad 0 := by
      unfold made
      rw [eF]
      rfl
    rw [em] at k
    exact k d H1 s1 hd
  | true =>
    obtain ⟨fs, er, hl6, et, hnd, hgood⟩ := fields_good eF
    obtain ⟨p, ys, rfl, hq, ha⟩ := row_len (dp_same s1 hF) er
    have hlen := dps_len ha
    have hwords : ∀ e ∈ tabOf dF, word e.1 = true ∧ e.2.length ≤ 5 ∧ ∀ w ∈ e.2, word w = true := fun e he => by
      rw [et] at he
      obtain ⟨f, hf, rfl⟩ := List.mem_map.mp he
      obtain ⟨n, b, ws, _, _, g3, g4, g5, g6⟩ := field_good (hgood f hf).1 (hgood f hf).2
      rw [g6]
      exact ⟨g5, by show (textsOf ws).length ≤ 5; rw [texts_len]; exact g4, texts_word g3⟩
    have htl : (tabOf dF).length = fs.length := by rw [et, List.length_map]
    refine iteF (nxt ?_)
    dsimp only
    refine asg_tup ?_
    refine lc_row (ys := ys) (fun D i H' => ∃ (ps : List Addr) (kvs : List (Key × V)), H' D = some (.lst (ps.map V.ref)) ∧ TabR K H' ps kvs ((tabOf dF).take i) ∧ Same H1 H') (fun Q' z => ⟨_, rfl, z⟩) hq (fun D hD => ⟨[], [], upd_same, .nil, new_same hD _⟩) (fun D i H' hD hP => by obtain ⟨_, _, _, _, z⟩ := hP; exact z) (fun D i y H' hD hi hP hy => ?_) (fun D H2 hD hP => ?_)
    · obtain ⟨ps, kvs, g1, g2, g3⟩ := hP
      obtain ⟨f, hf1, hdf⟩ := dps_get ha hy
      have hfm : f ∈ fs := List.mem_of_getElem? hf1
      obtain ⟨n, b, ws, e1, e2, e3, e4, e5, e6⟩ := field_good (hgood f hfm).1 (hgood f hfm).2
      have et1 : (tabOf dF)[i]? = some (n, textsOf ws) := by
        rw [et, List.getElem?_map, hf1, ← e6]
        rfl
      obtain ⟨r, va, vb, rfl, hr2, hva, hvb⟩ := pair_at (dp_same g3 hdf) e1
      cases hva
      obtain ⟨u, zs, rfl, hzs, hzd⟩ := row_len hvb e2
      have ezs := words_vals hzd e3
      subst ezs
      have hok : ∀ w ∈ textsOf ws, PyData.strOk w = true := fun w hw => word_ok (texts_word e3 w hw)
      have hpl : ps.length ≤ 6 := by
        rw [g2.len.1, List.length_take]
        omega
      -- behind the pair, whatever the values' tuple is
      have fin : ∀ (H3 : Hp) (l : Addr), Same H' H3 → SqT K H3 l ((textsOf ws).map V.str) → ∀ z o, H3 z = none → o.dict = none → ∃ acc, (upd H3 z (.frz o (.tup [.str n, .ref l]))) D = some (.lst acc) ∧ acc.length < sizeLine ∧
          (∃ (ps : List Addr) (kvs : List (Key × V)), upd (upd H3 z (.frz o (.tup [.str n, .ref l]))) D (.lst (acc ++ [.ref z])) D = some (.lst (ps.map V.ref)) ∧ TabR K (upd (upd H3 z (.frz o (.tup [.str n, .ref l]))) D (.lst (acc ++ [.ref z]))) ps kvs ((tabOf dF).take (i + 1)) ∧ Same H1 (upd (upd H3 z (.frz o (.tup [.str n, .ref l]))) D (.lst (acc ++ [.ref z])))) := fun H3 l s3 hl z o hz0 hod => by
        have sz : Same H3 (upd H3 z (.frz o (.tup [.str n, .ref l]))) := new_same hz0 _
        have hD4 := sz _ _ (s3 _ _ g1)
        refine ⟨ps.map V.ref, hD4, small1000 (by rw [List.length_map]; omega), ps ++ [z], kvs ++ [((.inr n : Key), V.ref l)], ?_, ?_, fun b' o' y' => ?_⟩
        · rw [upd_same, List.map_append] <;> rfl
        · rw [take_one et1]
          exact TabR.off hD4 (TabR.snoc (.inl (.inr ⟨o, upd_same⟩)) (seqT_same sz hl) hok (TabR.same (s3.trans sz) g2))
        · rw [upd_ne (ne_of_none y' hD)]
          exact sz _ _ (s3 _ _ (g3 _ _ y'))
      have asg : ∀ (σ : L2.St) (Q' : L2.St → Hp → Prop), Q' ((σ.set 4 (some (.str n))).set 5 (some (.ref u))) H' → gRow K 2 (gCons (gName 4) (gCons (gName 5) gNil)) (.ref r) σ H' Q' := fun σ Q' z => by
        rcases hr2 with hr2 | hr2
        · exact .inr ⟨r, _, rfl, hr2, rfl, .str n, [.ref u], rfl, .ref u, [], rfl, rfl, z⟩
        · exact .inl ⟨r, _, rfl, hr2, rfl, .str n, [.ref u], rfl, .ref u, [], rfl, rfl, z⟩
      refine asg _ _ ⟨rfl, ?_⟩
      unfold tYes
      refine iteT ⟨_, rfl, _, rfl, u, (textsOf ws).map V.str, rfl, ?_⟩
      rcases hzs with hzs | hzs
      · exact .inl ⟨hzs, fun l o hl hod => ⟨by show 2 ≤ sizeLine; decide, fun z o' hz0 hod' => fin _ l (new_same hl _) (.inl (.inr ⟨o, upd_same⟩)) z o' hz0 hod'⟩⟩
      · exact .inr ⟨hzs, by show 2 ≤ sizeLine; decide, fun z o' hz0 hod' => fin _ u (Same.refl _) hzs z o' hz0 hod'⟩
    · obtain ⟨ps, kvs, g1, g2, g3⟩ := hP
      rw [List.take_of_length_le (by omega)] at g2
      refine ⟨D, _, rfl, .inl ⟨SqL.of g1, fun l o hl hod => ?_⟩⟩
      have sl : Same H2 (upd H2 l (.frz o (.tup (ps.map V.ref)))) := new_same hl _
      have s3 : Same H (upd H2 l (.frz o (.tup (ps.map V.ref)))) := (s1.trans g3).trans sl
      have tab3 : TabAt K (upd H2 l (.frz o (.tup (ps.map V.ref)))) l (tabOf dF) := ⟨ps, kvs, ⟨o, upd_same, hod⟩, TabR.same sl g2, hnd, by omega⟩
      refine ⟨_, rfl, _, rfl, l, tabOf dF, vR, dR, rfl, tab3, dp_same s3 hR, ho, fun H4 s4 => ⟨_, rfl, ?_⟩⟩
      cases eR : areRules (tabOf dF) dR with
      | false =>
        refine iteT ⟨.int 1, rfl, fun d hd => ?_⟩
        have em : made dF dR = .bad 1 := by
          unfold made
          rw [eF, eR]
          rfl
        rw [em] at k
        exact k d H4 (s3.trans s4) hd
      | true =>
        obtain ⟨rs, er2, hl20, eru, hrf⟩ := rules_good eR
        refine iteF (nxt ?_)
        dsimp only
        refine ⟨_, rfl, l, tabOf dF, rfl, TabAt.same s4 tab3, by omega, fun e he => (hwords e he).2.1, fun H5 s5 => ⟨_, _, rfl, rfl, _, rfl, ?_⟩⟩
        have s35 := s4.trans s5
        have s05 : Same H H5 := s3.trans s35
        by_cases hw : 1000 < waysFrom 1 (tabOf dF)
        · refine iteDT (by omega) ⟨.str "fillings", rfl, fun d hd => ?_⟩
          have em : made dF dR = .many := by
            unfold made
            rw [eF, eR, if_pos rfl, if_pos rfl, if_pos hw]
          rw [em] at k
          exact k d H5 s05 hd
        · have em : made dF dR = .form (tabOf dF) (once ((rulesOf dR).map (sorted (tabOf dF)))) := by
            unfold made
            rw [eF, eR, if_pos rfl, if_pos rfl, if_neg hw]
          have hz := hz _ _ em
          rw [em] at k
          refine iteDF (by omega) (nxt ?_)
          dsimp only
          have hx5 := s05 _ _ hx
          refine ⟨_, rfl, _, rfl, x, C, dx, [], rfl, hx5, cl, nF, by show 0 < 1000; decide, ?_⟩
          have d6 : Sd H5 (upd H5 x (.ins C dx (putF "_fields" (.ref l) []))) := sd_ins hx5
          have d06 : Sd H (upd H5 x (.ins C dx (putF "_fields" (.ref l) []))) := Sd.trans (sdOf s05) d6
          have tab6 := tab_sd (Sd.trans (sdOf s35) d6) tab3
          obtain ⟨q, ws, rds, rfl, er3, hq0, hwl, hz⟩ := hz
          rw [er2] at er3
          cases er3
          have hq6 : SqL K (upd H5 x (.ins C dx (putF "_fields" (.ref l) []))) q ws ∨ SqT K (upd H5 x (.ins C dx (putF "_fields" (.ref l) []))) q ws := hq0.elim (fun z => .inl (seq_sd d06 z)) (fun z => .inr (seqT_sd d06 z))
          -- one rule
          have one : ∀ {j : Nat} {y : V}, ws[j]? = some y → ∃ (rd : PyData) (q2 : Addr) (ps2 : List Addr) (kvs2 : List (Key × V)), rs[j]? = some rd ∧ y = .ref q2 ∧ (SqL K H q2 (ps2.map V.ref) ∨ SqZ H q2 (ps2.map V.ref)) ∧ FactR K H ps2 kvs2 (factsOf rd) ∧ ((factsOf rd).map (·.1)).Nodup ∧ RStr (factsOf rd) := fun {j y} hy => by
            have hjl : j < rs.length := by
              have := (List.getElem?_eq_some_iff.mp hy).1
              omega
            obtain ⟨rd, e1⟩ : ∃ rd, rs[j]? = some rd := ⟨_, List.getElem?_eq_getElem hjl⟩
            have hrm : rd ∈ rs := List.mem_of_getElem? e1
            obtain ⟨q2, zs, gs, rfl, hz2, eg, hzs⟩ := hz j y rd hy e1
            obtain ⟨ps2, kvs2, rfl, i1, i2, _, i4⟩ := facts_good hzs (facts_go eg (hrf rd hrm)).2
            have efo : factsOf rd = gs.map factOf := by
              unfold factsOf
              rw [eg]
            refine ⟨rd, q2, ps2, kvs2, e1, rfl, hz2, by rw [efo]; exact i1, by rw [efo]; exact i2, ?_⟩
            rw [efo]
            intro e he
            obtain ⟨vs, h1, h2⟩ := i4 e he
            have h3 := hwords _ (look_mem h1)
            exact ⟨word_ok h3.1, word_ok (h3.2.2 _ h2)⟩
          dsimp only
          refine fld_each ?_
          refine lc_row (ys := ws) (fun D j H' => ∃ zs : List Addr, H' D = some (.lst (zs.map V.ref)) ∧ Paired (RuleAt K H') zs ((rs.take j).map fun rd => sorted (tabOf dF) (factsOf rd)) ∧ Same (upd H5 x (.ins C dx (putF "_fields" (.ref l) []))) H') (fun Q' z => ⟨_, rfl, z⟩) hq6 (fun D hD => ⟨[], upd_same, .nil, new_same hD _⟩) (fun D i H' hD hP => by obtain ⟨_, _, _, z⟩ := hP; exact z) (fun D j y H' hD hj hP hy => ?_) (fun D H7 hD hP => ?_)
          · obtain ⟨zs, g1, g2, g3⟩ := hP
            obtain ⟨rd, q2, ps2, kvs2, e1, rfl, e3, e4, e5, e6⟩ := one hy
            have d7 : Sd H H' := Sd.trans d06 (sdOf g3)
            refine ⟨rfl, ?_⟩
            unfold tYes
            refine iteT ⟨_, rfl, _, rfl, l, q2, tabOf dF, ps2, kvs2, factsOf rd, rfl, TabAt.same g3 tab6, e3.elim (fun z => .inl (seq_sd d7 z)) (fun z => .inr (sqZ_sd d7 z)), factR_sd d7 e4, e5, fun z H8 s8 hru => ?_⟩
            have hD8 := s8 _ _ g1
            have hzl : zs.length ≤ 20 := by
              rw [prd_len g2, List.length_map, List.length_take]
              omega
            refine ⟨zs.map V.ref, hD8, small1000 (by rw [List.length_map]; omega), zs ++ [z], ?_, ?_, fun b o' y' => ?_⟩
            · rw [upd_same, List.map_append] <;> rfl
            · rw [take_one e1, List.map_append]
              exact rules_off hD8 (prd_snoc (rules_same s8 g2) hru)
            · rw [upd_ne (ne_of_none y' hD)]
              exact s8 _ _ (g3 _ _ y')
          · obtain ⟨zs, g1, g2, g3⟩ := hP
            rw [List.take_of_length_le (by omega)] at g2
            refine ⟨D, zs, _, rfl, SqL.of g1, g2, fun r hr => ?_, by rw [List.length_map]; omega, fun z H8 s8 hru => ?_⟩
            · obtain ⟨rd, hrd, rfl⟩ := List.mem_map.mp hr
              obtain ⟨j, hj, ej⟩ := List.mem_iff_getElem.mp hrd
              have hjw : j < ws.length := by omega
              obtain ⟨rd', _, _, _, e1, _, _, _, _, e6⟩ := one (List.getElem?_eq_getElem hjw)
              have e7 : rs[j]? = some rd := by rw [List.getElem?_eq_getElem hj, ej]
              rw [e7] at e1
              cases e1
              exact fun e he => e6 e (sorted_mem he)
            · have s68 := g3.trans s8
              have hx8 : H8 x = some (.ins C dx (putF "_fields" (.ref l) [])) := s68 _ _ upd_same
              refine ⟨_, rfl, x, C, dx, _, rfl, hx8, cl, nR, by show 1 < 1000; decide, ?_⟩
              have d9 : Sd H8 (upd H8 x (.ins C dx (putF "_rules" (.ref z) (putF "_fields" (.ref l) [])))) := sd_ins hx8
              refine k l z _ (fun b o' nb e => ?_) ⟨dx, by rw [upd_same, pf2]⟩ (tab_sd (Sd.trans (sdOf s68) d9) tab6) ?_
              · rw [upd_ne nb]
                refine s68 _ _ ?_
                rw [upd_ne nb]
                exact s05 _ _ e
              · rw [eru, List.map_map]
                exact rulesAt_sd d9 hru
end
end Q
set_option Elab.async false
set_option linter.all false
set_option maxRecDepth 100000
set_option maxHeartbeats 4000000
/-! ### fields, rules, __eq__ -/
namespace Q
open PySem L2 XD
/-- fields as data -/
def entryD (e : Str × List Str) : PyData := .tuple [.str e.1, .tuple (e.2.map PyData.str)]
def tabD (t : List (Str × List Str)) : PyData := .tuple (t.map entryD)
def rulesD (rs : List (List (Str × Str))) : PyData := .tuple (rs.map ruleD)
theorem eqvAll_strs : ∀ a b : List Str, PyData.eqvAll (a.map PyData.str) (b.map PyData.str) = decide (a = b)
  | [], [] => by simp [PyData.eqvAll]
  | [], _ :: _ => by simp [PyData.eqvAll]
  | _ :: _, [] => by simp [PyData.eqvAll]
  | x :: a, y :: b => by
    rw [List.map_cons, List.map_cons, PyData.eqvAll, eqvAll_strs a b, PyData.eqv]
    by_cases h1 : x = y
    · by_cases h2 : a = b
      · simp [h1, h2]
      · simp [h1, h2]
    · simp [h1]
theorem eqvAll_tab : ∀ a b : List (Str × List Str), PyData.eqvAll (a.map entryD) (b.map entryD) = decide (a = b)
  | [], [] => by simp [PyData.eqvAll]
  | [], _ :: _ => by simp [PyData.eqvAll]
  | _ :: _, [] => by simp [PyData.eqvAll]
  | (n, w) :: a, (m, v) :: b => by
    rw [List.map_cons, List.map_cons, PyData.eqvAll, eqvAll_tab a b]
    unfold entryD
    rw [PyData.eqv, PyData.eqvAll, PyData.eqvAll, PyData.eqvAll, PyData.eqv, PyData.eqv, eqvAll_strs]
    by_cases h1 : n = m
    · by_cases h2 : w = v
      · by_cases h3 : a = b
        · simp [h1, h2, h3]
        · simp [h1, h2, h3]
      · simp [h1, h2]
    · simp [h1]
theorem eqvAll_rules : ∀ a b : List (List (Str × Str)), PyData.eqvAll (a.map ruleD) (b.map ruleD) = decide (a = b)
  | [], [] => by simp [PyData.eqvAll]
  | [], _ :: _ => by simp [PyData.eqvAll]
  | _ :: _, [] => by simp [PyData.eqvAll]
  | x :: a, y :: b => by
    rw [List.map_cons, List.map_cons, PyData.eqvAll, eqvAll_rules a b, eqv_rule]
    by_cases h1 : x = y
    · by_cases h2 : a = b
      · simp [h1, h2]
      · simp [h1, h2]
    · simp [h1]
def TStr (t : List (Str × List Str)) : Prop := ∀ e ∈ t, PyData.strOk e.1 = true ∧ ∀ w ∈ e.2, PyData.strOk w = true
theorem strs_depth : ∀ ws : List Str, PyData.depthAll (ws.map PyData.str) = 0
  | [] => by simp [PyData.depthAll]
  | w :: ws => by simp [PyData.depthAll, PyData.depth, strs_depth ws]
theorem tab_lay : ∀ t : List (Str × List Str), TStr t → PyData.canLayAll0 (t.map entryD) = true
  | [], _ => by simp [PyData.canLayAll0]
  | e :: t, h => by
    have h1 := h e List.mem_cons_self
    rw [List.map_cons, PyData.canLayAll0, tab_lay t fun x hx => h x (List.mem_cons_of_mem _ hx), Bool.and_true]
    unfold entryD
    simp [PyData.canLay0, PyData.canLayAll0, h1.1, lay_strs e.2 h1.2]
theorem tab_depth : ∀ t : List (Str × List Str), PyData.depthAll (t.map entryD) ≤ 2
  | [] => by simp [PyData.depthAll]
  | e :: t => by
    have h1 := tab_depth t
    rw [List.map_cons, PyData.depthAll]
    have h2 : (entryD e).depth ≤ 2 := by
      unfold entryD
      simp [PyData.depth, PyData.depthAll, strs_depth]
    omega
theorem tab_shaped {t : List (Str × List Str)} (h : TStr t) : SeqAt.shaped (tabD t) = true := by
  unfold SeqAt.shaped tabD
  have h2 := tab_depth t
  rw [PyData.canLay0, tab_lay t h, Bool.true_and]
  refine decide_eq_true ?_
  rw [PyData.depth]
  omega
theorem rulesD_shaped {rs : List (List (Str × Str))} (h : ∀ r ∈ rs, RStr r) : SeqAt.shaped (rulesD rs) = true := by
  unfold SeqAt.shaped rulesD
  have h2 := rules_depth rs
  rw [PyData.canLay0, rules_lay rs h, Bool.true_and]
  refine decide_eq_true ?_
  rw [PyData.depth]
  omega
theorem tabR_dps {K : PySem.W.Frag} {H : Hp} : ∀ {ps : List Addr} {kvs : List (Key × V)} {t : List (Str × List Str)}, TabR K H ps kvs t → DpAll K H (ps.map V.ref) (t.map entryD)
  | _, _, _, .nil => .nil
  | _, _, _, .cons a b o c => .cons (.tup a (.cons (.str _) (.cons (.tup b (dps_strs _)) .nil))) (tabR_dps c)
theorem tab_dp {K : PySem.W.Frag} {H : Hp} {p : Addr} {t : List (Str × List Str)} (h : TabAt K H p t) : Dp K H (.ref p) (tabD t) := by
  obtain ⟨ps, kvs, a, b, _⟩ := h
  exact .tup a.sqT (tabR_dps b)
theorem rules_dp {K : PySem.W.Frag} {H : Hp} {p : Addr} {rs : List (List (Str × Str))} (h : RulesAt K H p rs) : Dp K H (.ref p) (rulesD rs) := by
  obtain ⟨ps, a, b⟩ := h
  exact .tup a.sqT (rules_dps b)
/-- a form stands at x -/
structure Stands (K : PySem.W.Frag) (C : Addr) (H : Hp) (x : Addr) (t : List (Str × List Str)) (rs : List (List (Str × Str))) : Prop where
  at_ : ∃ pf pr, FormAt C H x pf pr ∧ TabAt K H pf t ∧ RulesAt K H pr rs
  ts : TStr t
  rs : ∀ r ∈ rs, RStr r
def spGet (K : PySem.W.Frag) (C : Addr) (r : Bool) : Sp := fun vs H Q _ => ∃ x pf pr, vs = [.ref x] ∧ FormAt C H x pf pr ∧ Q (.ref (if r = true then pr else pf)) H
def spEq (K : PySem.W.Frag) (C : Addr) : Sp := fun vs H Q _ => ∃ x t rs v, vs = [.ref x, v] ∧ Stands K C H x t rs ∧
  ((∃ d, Dp K H v d ∧ Q (.bl false) H) ∨ ∃ y t' rs', v = .ref y ∧ Stands K C H y t' rs' ∧ Q (.bl (decide (t = t') && decide (rs = rs'))) H)
/-- what the written part says of the class -/
structure Fc (K : PySem.W.Frag) (mg : Str → Option Value) (C : Addr) : Prop where
  cl : Cls K C
  nF : NoAttr K C "_fields"
  nR : NoAttr K C "_rules"
  gF : mg "Form" = some (.ref C)
  isi : mg "isinstance" = none
  ty : ∀ {H : Hp} {x dx : Addr} {fs : List (Str × V)}, H x = some (.ins C dx fs) → TyOf K H (.ref x) (.ref C)
  self : PySem.W.kitOne K (.ref C) (.ref C) = some true
  no : ∀ d : PyData, (∀ kvs, d ≠ .dict kvs) → PySem.W.kitOne K (.type (tyName d)) (.ref C) = some false
theorem lkF {l z : Addr} : List.lookup ("_fields" : Str) [(("_fields" : Str), V.ref l), (("_rules" : Str), V.ref z)] = some (.ref l) := by
  have e : (("_fields" : Str) == "_fields") = true := by decide +kernel
  rw [List.lookup, e]
theorem lkR {l z : Addr} : List.lookup ("_rules" : Str) [(("_fields" : Str), V.ref l), (("_rules" : Str), V.ref z)] = some (.ref z) := by
  have e : (("_rules" : Str) == "_fields") = false := by decide +kernel
  have e2 : (("_rules" : Str) == "_rules") = true := by decide +kernel
  rw [List.lookup, e]
  show List.lookup ("_rules" : Str) [(("_rules" : Str), V.ref z)] = _
  rw [List.lookup, e2]
section
variable {P : Program} {w : World} {K : PySem.W.Frag} {mg : Str → Option Value} {base : Heap}
theorem ok_fieldsM {f C : Addr} {fd : FuncData} (F : Fun K "fields" "Form.fields" sFieldsM f fd) (T : Fc K mg C) : FnOk P w K mg base CX0 1 f fd ["self"] (spGet K C false) := by
  refine F.ok scFieldsM (fun vs H Q E h => ?_) (fun cdv A outer s H vs Q E hr h => ?_)
  · obtain ⟨x, pf, pr, rfl, _⟩ := h
    rfl
  obtain ⟨x, pf, pr, rfl, ⟨dx, hx⟩, k⟩ := h
  refine ⟨_, pss_one (ps_ret (pe_fld (pv 0) rfl)), ?_⟩
  exact ⟨_, rfl, x, C, dx, _, _, rfl, hx, T.cl, T.nF, lkF, k⟩
theorem ok_rulesM {f C : Addr} {fd : FuncData} (F : Fun K "rules" "Form.rules" sRulesM f fd) (T : Fc K mg C) : FnOk P w K mg base CX0 1 f fd ["self"] (spGet K C true) := by
  refine F.ok scRulesM (fun vs H Q E h => ?_) (fun cdv A outer s H vs Q E hr h => ?_)
  · obtain ⟨x, pf, pr, rfl, _⟩ := h
    rfl
  obtain ⟨x, pf, pr, rfl, ⟨dx, hx⟩, k⟩ := h
  refine ⟨_, pss_one (ps_ret (pe_fld (pv 0) rfl)), ?_⟩
  exact ⟨_, rfl, x, C, dx, _, _, rfl, hx, T.cl, T.nR, lkR, k⟩
theorem ok_eqM {f C : Addr} {fd : FuncData} (F : Fun K "__eq__" "Form.__eq__" sEqM f fd) (T : Fc K mg C) : FnOk P w K mg base CX0 1 f fd ["self", "other"] (spEq K C) := by
  refine F.ok scEqM (fun vs H Q E h => ?_) (fun cdv A outer s H vs Q E hr h => ?_)
  · obtain ⟨x, t, rs, v, rfl, _⟩ := h
    rfl
  obtain ⟨x, t, rs, v, rfl, ⟨⟨pf, pr, ⟨dx, hx⟩, h2, h3⟩, hts, hrs⟩, k⟩ := h
  have hu := hr.units
  refine ⟨_, pss_one (ps_ret (pe_and (pe_callB call_isi rfl T.isi (by decide +kernel) (pa_cons (pv 1) (pa_cons (pe_glob (v := .ref C) (by rfl) T.gF rfl) pa_nil)))
    (pe_and (pe_cmpR (op_eqD hu) (pe_fld (pv 0) rfl) (pe_fld (pv 1) rfl) (nomark _)) (pe_one (pe_cmpR (op_eqD hu) (pe_fld (pv 0) rfl) (pe_fld (pv 1) rfl) (nomark _)))))), ?_⟩
  rcases k with ⟨d, hd, k⟩ | ⟨y, t', rs', rfl, ⟨⟨pf', pr', ⟨dx', hx'⟩, h2', h3'⟩, hts', hrs'⟩, k⟩
  · exact ⟨_, rfl, _, _, _, _, _, rfl, .own C, tyD hd, T.no d (dp_no_dict hd), _, rfl, iteF k⟩
  · refine ⟨_, rfl, _, _, _, _, _, rfl, .own C, .base (T.ty hx'), T.self, _, rfl, iteT ?_⟩
    refine ⟨_, rfl, x, C, dx, _, _, rfl, hx, T.cl, T.nF, lkF, _, rfl, y, C, dx', _, _, rfl, hx', T.cl, T.nF, lkF, tabD t, tabD t', tab_dp h2, tab_dp h2', tab_shaped hts, tab_shaped hts', _, rfl, ?_⟩
    have e1 : PyData.eqv (tabD t) (tabD t') = decide (t = t') := by
      unfold tabD
      rw [PyData.eqv]
      exact eqvAll_tab t t'
    have e2 : PyData.eqv (rulesD rs) (rulesD rs') = decide (rs = rs') := by
      unfold rulesD
      rw [PyData.eqv]
      exact eqvAll_rules rs rs'
    rw [e1]
    by_cases g : t = t'
    · rw [decide_eq_true g, Bool.true_and] at k
      refine iteDT g ⟨_, rfl, x, C, dx, _, _, rfl, hx, T.cl, T.nR, lkR, _, rfl, y, C, dx', _, _, rfl, hx', T.cl, T.nR, lkR, rulesD rs, rulesD rs', rules_dp h3, rules_dp h3', rulesD_shaped hrs, rulesD_shaped hrs', ?_⟩
      rw [e2]
      exact k
    · rw [decide_eq_false g, Bool.false_and] at k
      exact iteDF g k
end
end Q
set_option Elab.async false
set_option linter.all false
set_option maxRecDepth 100000
set_option maxHeartbeats 4000000
namespace Q
open PySem L2
end Q
/-! ### the flow: a list of the script's copy and five ints -/
namespace Q
open PySem L2
def fl (b : Addr) (p s c m w : Int) : List V := [.ref b, .int p, .int s, .int c, .int m, .int w]
/-- a flow at a: its copy of the script at b -/
structure Fx (H : Hp) (a b : Addr) (ns : List Int) (p s c m w : Int) : Prop where
  at_ : H a = some (.lst (fl b p s c m w))
  ls : H b = some (.lst (ns.map V.int))
  pos : 0 ≤ p
/-- .. whose copy of the script is b -/
def Flw (b : Addr) (H : Hp) (a : Addr) : Prop := ∃ (ns : List Int) (p s c m w : Int), Fx H a b ns p s c m w
/-- all but a stands -/
def Kept (a : Addr) (H H' : Hp) : Prop := ∀ x o, x ≠ a → H x = some o → H' x = some o
theorem Kept.refl {a : Addr} {H : Hp} : Kept a H H := fun _ _ _ e => e
theorem Kept.trans {a : Addr} {H H1 H2 : Hp} (k : Kept a H H1) (l : Kept a H1 H2) : Kept a H H2 := fun x o n e => l x o n (k x o n e)
theorem Kept.upd {a : Addr} {H : Hp} {o : HO} : Kept a H (upd H a o) := fun x u n e => by
  rw [upd_ne n]
  exact e
theorem Fx.ne {H : Hp} {a b : Addr} {ns : List Int} {p s c m w : Int} (F : Fx H a b ns p s c m w) : b ≠ a := fun e => by
  have h := F.ls
  rw [e, F.at_] at h
  have q : (fl b p s c m w) = ns.map V.int := HO.lst.inj (Option.some.inj h)
  cases ns with
  | nil => cases q
  | cons x r =>
    have z := (List.cons.inj q).1
    cases z
theorem Fx.put {H : Hp} {a b : Addr} {ns : List Int} {p s c m w p' s' c' m' w' : Int} (F : Fx H a b ns p s c m w) (h : 0 ≤ p') : Fx (upd H a (.lst (fl b p' s' c' m' w'))) a b ns p' s' c' m' w' :=
  ⟨upd_same, by rw [upd_ne F.ne]; exact F.ls, h⟩
theorem Fx.kept {H H' : Hp} {a b : Addr} {ns : List Int} {p s c m w : Int} (F : Fx H a b ns p s c m w) (k : Same H H') : Fx H' a b ns p s c m w :=
  ⟨k _ _ F.at_, k _ _ F.ls, F.pos⟩
theorem Flw.same {H H' : Hp} {a b : Addr} (F : Flw b H a) (k : Same H H') : Flw b H' a := by
  obtain ⟨ns, p, s, c, m, w, F⟩ := F
  exact ⟨ns, p, s, c, m, w, F.kept k⟩
theorem Kept.of_same {a : Addr} {H H' : Hp} (k : Same H H') : Kept a H H' := fun x o _ e => k x o e
theorem fl0 {b : Addr} {p s c m w : Int} : atI (fl b p s c m w) 0 = some (.ref b) := rfl
theorem fl1 {b : Addr} {p s c m w : Int} : atI (fl b p s c m w) 1 = some (.int p) := rfl
theorem fl2 {b : Addr} {p s c m w : Int} : atI (fl b p s c m w) 2 = some (.int s) := rfl
theorem fl3 {b : Addr} {p s c m w : Int} : atI (fl b p s c m w) 3 = some (.int c) := rfl
theorem fl4 {b : Addr} {p s c m w : Int} : atI (fl b p s c m w) 4 = some (.int m) := rfl
theorem fl5 {b : Addr} {p s c m w : Int} : atI (fl b p s c m w) 5 = some (.int w) := rfl
/-! ### promises -/
def spFlow (K : PySem.W.Frag) : Sp := fun vs H Q _ => ∃ (a : Addr) (ns : List Int), vs = [.ref a] ∧ SqL K H a (ns.map V.int) ∧
  ∀ (f b : Addr) (H' : Hp), Same H H' → Flw b H' f → H f = none → H b = none → Q (.ref f) H'
def spLoad : Sp := fun vs H Q _ => ∃ a b, vs = [.ref a] ∧ Flw b H a ∧ ∀ H', Flw b H' a → Kept a H H' → Q .non H'
def spDraw : Sp := fun vs H Q _ => ∃ (a b : Addr) (n : Int), vs = [.ref a, .int n] ∧ Flw b H a ∧ n.natAbs < 2 ^ 200 ∧
  ∀ (r : Int) (H' : Hp), 0 ≤ r → r < (if n > 1 then n else 1) → Flw b H' a → Kept a H H' → Q (.int r) H'
def spPick : Sp := fun vs H Q _ => ∃ (a b t : Addr) (xs : List V), vs = [.ref a, .ref t] ∧ Flw b H a ∧ H t = some (.lst xs) ∧ t ≠ a ∧ 0 < xs.length ∧ xs.length ≤ 1000 ∧
  ∀ (x : V) (H' : Hp), x ∈ xs → Flw b H' a → Kept a H H' → Q x H'
structure Bt (mg : Str → Option Value) : Prop where
  int : mg "int" = none
  list : mg "list" = none
  len : mg "len" = none
  abs : mg "abs" = none
  max : mg "max" = none
end Q
set_option Elab.async false
set_option linter.all false
set_option maxRecDepth 100000
set_option maxHeartbeats 4000000
/-! ### _law_letter, _law_name -/
namespace Q
open PySem L2 XD
theorem Flw.off {H : Hp} {a b D : Addr} {o : HO} (F : Flw b H a) (h1 : D ≠ a) (h2 : D ≠ b) : Flw b (upd H D o) a := by
  obtain ⟨ns, p, s, c, m, w, Fl⟩ := F
  exact ⟨ns, p, s, c, m, w, by rw [upd_ne h1.symm]; exact Fl.at_, by rw [upd_ne h2.symm]; exact Fl.ls, Fl.pos⟩
theorem Flw.ne {H : Hp} {a b D : Addr} (F : Flw b H a) (h : H D = none) : D ≠ a ∧ D ≠ b := by
  obtain ⟨ns, p, s, c, m, w, Fl⟩ := F
  refine ⟨fun z => ?_, fun z => ?_⟩
  · rw [z, Fl.at_] at h
    cases h
  · rw [z, Fl.ls] at h
    cases h
def spLetter : Sp := fun vs H Q _ => ∃ a b, vs = [.ref a] ∧ Flw b H a ∧ ∀ (c : Nat) H', az c = true → Flw b H' a → Kept a H H' → Q (.str ⟨#[c]⟩) H'
theorem abc_at : ∀ n, n < 26 → atI ("abcdefghijklmnopqrstuvwxyz" : Str).cps.toList (n : Nat) = some (97 + n) ∧ az (97 + n) = true := by
  decide +kernel
end Q
set_option Elab.async false
set_option linter.all false
set_option maxRecDepth 100000
set_option maxHeartbeats 4000000
/-! ### _law_same: of two times the same data it says True -/
namespace Q
open PySem L2 XD
/-- data to a depth, no row longer than 1000 -/
def Ds : Nat → PyData → Prop
  | 0, _ => False
  | n + 1, d => ∀ xs, rowOf d = some xs → xs.length ≤ 1000 ∧ ∀ x ∈ xs, Ds n x
def spSame (K : PySem.W.Frag) (n : Nat) : Sp := fun vs H Q _ => ∃ (v u : V) (d : PyData), vs = [v, u] ∧ Dp K H v d ∧ Dp K H u d ∧ Ds n d ∧ ∀ H', Same H H' → Q (.bl true) H'
structure Bs (mg : Str → Option Value) : Prop where
  isi : mg "isinstance" = none
  tup : mg "tuple" = none
  list : mg "list" = none
  len : mg "len" = none
  all : mg "all" = none
  range : mg "range" = none
  str : mg "str" = none
  bool : mg "bool" = none
  int : mg "int" = none
theorem all_true (n : Nat) : (List.replicate n true).all id = true := by
  induction n with
  | zero => rfl
  | succ n ih => rw [List.replicate_succ, List.all_cons, ih] <;> rfl
theorem iteNS {c : Bool} {A B : Prop} (h : c = false) (b : B) : if c = true then A else B := by
  rw [h]
  exact iteF b
theorem dps_get2 {K : PySem.W.Frag} {H : Hp} {vs us : List V} {ds : List PyData} {i : Nat} (h1 : DpAll K H vs ds) (h2 : DpAll K H us ds) (hi : i < ds.length) : ∃ v u d, vs[i]? = some v ∧ us[i]? = some u ∧ ds[i]? = some d ∧ Dp K H v d ∧ Dp K H u d := by
  have l1 := dps_len h1
  have l2 := dps_len h2
  have e1 : vs[i]? = some vs[i] := List.getElem?_eq_getElem (by omega)
  have e2 : us[i]? = some us[i] := List.getElem?_eq_getElem (by omega)
  obtain ⟨d, g1, g2⟩ := dps_get h1 e1
  obtain ⟨d', g3, g4⟩ := dps_get h2 e2
  rw [g1] at g3
  cases g3
  exact ⟨_, _, d, e1, e2, g1, g2, g4⟩
end Q
set_option Elab.async false
set_option linter.all false
set_option maxRecDepth 100000
set_option maxHeartbeats 4000000
/-! ### _law_sorted -/
namespace Q
open PySem L2 XD
/-- the pairs in the sequence of the table, as the law finds them -/
def bySeq (t : List (Str × List Str)) (r : List (Str × Str)) : List (Str × Str) := t.flatMap fun e => r.filter fun f => decide (f.1 = e.1)
theorem bySeq_next {t : List (Str × List Str)} {r : List (Str × Str)} {i : Nat} {e : Str × List Str} (h : t[i]? = some e) : bySeq (t.take (i + 1)) r = bySeq (t.take i) r ++ r.filter fun f => decide (f.1 = e.1) := by
  unfold bySeq
  rw [take_one h, List.flatMap_append]
  simp
theorem prd_app {α β : Type} {R : α → β → Prop} : ∀ {xs xs2 : List α} {ys ys2 : List β}, Paired R xs ys → Paired R xs2 ys2 → Paired R (xs ++ xs2) (ys ++ ys2)
  | _, _, _, _, .nil, h => h
  | _, _, _, _, .cons a b, h => .cons a (prd_app b h)
def spSorted (K : PySem.W.Frag) : Sp := fun vs H Q _ => ∃ (p q : Addr) (ps : List Addr) (kvs : List (Key × V)) (t : List (Str × List Str)) (qs : List Addr) (r : List (Str × Str)), vs = [.ref p, .ref q] ∧ (SqL K H p (ps.map V.ref) ∨ SqT K H p (ps.map V.ref)) ∧ TabR K H ps kvs t ∧
  (SqL K H q (qs.map V.ref) ∨ SqT K H q (qs.map V.ref)) ∧ Paired (fun q (e : Str × Str) => SqT K H q [.str e.1, .str e.2]) qs r ∧ t.length ≤ 6 ∧ r.length ≤ 10 ∧ ∀ z H', Same H H' → RuleAt K H' z (bySeq t r) → Q (.ref z) H'
end Q
set_option Elab.async false
set_option linter.all false
/-! ### the program's sequence and the law's are one -/
namespace Q
open PySem L2 XD
theorem filter_none {n : Str} : ∀ {r : List (Str × Str)}, (∀ e ∈ r, e.1 ≠ n) → r.filter (fun f => decide (f.1 = n)) = []
  | [], _ => rfl
  | e :: r, h => by
    rw [List.filter_cons_of_neg (by simpa using h e List.mem_cons_self)]
    exact filter_none fun f hf => h f (List.mem_cons_of_mem _ hf)
theorem pick_filter {n : Str} : ∀ {r : List (Str × Str)}, (r.map (·.1)).Nodup → ((pick n r).map fun w => (n, w)).toList = r.filter fun f => decide (f.1 = n)
  | [], _ => rfl
  | (m, w) :: r, h => by
    rw [List.map_cons, List.nodup_cons] at h
    unfold pick
    by_cases e : m = n
    · subst e
      rw [if_pos rfl, List.filter_cons_of_pos (by simp), filter_none fun f hf z => h.1 (List.mem_map.mpr ⟨f, hf, z⟩)]
      rfl
    · rw [if_neg e, List.filter_cons_of_neg (by simpa using e)]
      exact pick_filter h.2
theorem sorted_bySeq {r : List (Str × Str)} (h : (r.map (·.1)).Nodup) : ∀ t : List (Str × List Str), sorted t r = bySeq t r
  | [] => rfl
  | e :: t => by
    have ih := sorted_bySeq h t
    unfold sorted bySeq at ih ⊢
    rw [List.flatMap_cons, ← ih, ← pick_filter (n := e.1) h]
    cases ep : pick e.1 r with
    | none => simp [ep]
    | some w => simp [ep]
end Q
set_option Elab.async false
set_option linter.all false
set_option maxRecDepth 100000
set_option maxHeartbeats 4000000
/-! ### texts as lists of code points; _law_near -/
namespace Q
open PySem L2 XD
def tlx (s : Str) : List Nat := s.cps.toList
theorem tlx_len (s : Str) : (tlx s).length = s.length := Array.length_toList
theorem tlx_app (a b : Str) : tlx (a ++ b) = tlx a ++ tlx b := TL.tl_append a b
theorem tlx_inj {a b : Str} (h : tlx a = tlx b) : a = b := by
  obtain ⟨⟨x⟩⟩ := a
  obtain ⟨⟨y⟩⟩ := b
  have h' : x = y := h
  rw [h']
theorem tlx_one (c : Nat) : tlx ⟨#[c]⟩ = [c] := rfl
theorem tlx_to (z : Str) (k : Nat) : tlx (cutS z none (some (k : Int))) = (tlx z).take k := by
  show ((z.cps.toList.drop 0).take (HT.sIx z.length z.length (some (k : Int)) - 0)) = z.cps.toList.take k
  rw [HT.sIx_nat, List.drop_zero, Nat.sub_zero]
  have e : z.cps.toList.length = z.length := Array.length_toList
  rw [← e, ← List.take_eq_take_min]
theorem tlx_from (z : Str) (k : Nat) : tlx (cutS z (some (k : Int)) none) = (tlx z).drop k := by
  show ((z.cps.toList.drop (HT.sIx z.length 0 (some (k : Int)))).take (z.length - HT.sIx z.length 0 (some (k : Int)))) = z.cps.toList.drop k
  have e : z.cps.toList.length = z.length := Array.length_toList
  rw [HT.sIx_nat, ← e]
  by_cases h : k ≤ z.cps.toList.length
  · rw [Nat.min_eq_left h, List.take_of_length_le (by rw [List.length_drop]; exact Nat.le_refl _)]
  · rw [Nat.min_eq_right (by omega), List.drop_length, List.drop_eq_nil_of_le (by omega), List.take_nil]
theorem word_iff {s : Str} : word s = true ↔ 1 ≤ (tlx s).length ∧ (tlx s).length ≤ 8 ∧ (tlx s).all az = true := by
  unfold word
  rw [Bool.and_eq_true, Bool.and_eq_true, decide_eq_true_eq, decide_eq_true_eq, tlx_len]
  exact ⟨fun ⟨⟨a, b⟩, c⟩ => ⟨a, b, c⟩, fun ⟨a, b, c⟩ => ⟨⟨a, b⟩, c⟩⟩
theorem word_len {s : Str} (h : word s = true) : s.length ≤ 8 := by
  have := (word_iff.mp h).2.1
  rwa [tlx_len] at this
theorem all_take {p : Nat → Bool} {l : List Nat} (h : l.all p = true) (k : Nat) : (l.take k).all p = true :=
  List.all_eq_true.mpr fun x hx => List.all_eq_true.mp h x (List.mem_of_mem_take hx)
theorem all_drop {p : Nat → Bool} {l : List Nat} (h : l.all p = true) (k : Nat) : (l.drop k).all p = true :=
  List.all_eq_true.mpr fun x hx => List.all_eq_true.mp h x (List.mem_of_mem_drop hx)
theorem word_of {s : Str} {l : List Nat} (e : tlx s = l) (h1 : 1 ≤ l.length) (h8 : l.length ≤ 8) (ha : l.all az = true) : word s = true :=
  word_iff.mpr ⟨by rw [e]; exact h1, by rw [e]; exact h8, by rw [e]; exact ha⟩
theorem cutS_short (z : Str) (lo hi : Option Int) : (cutS z lo hi).length ≤ z.length := by
  rw [← tlx_len, ← tlx_len]
  show ((z.cps.toList.drop _).take _).length ≤ z.cps.toList.length
  rw [List.length_take, List.length_drop]
  omega
theorem le_line {n : Nat} (h : n ≤ 1000) : n ≤ sizeLine := Nat.le_of_lt (small1000 h)
theorem one_len (c : Nat) : Str.length ⟨#[c]⟩ = 1 := rfl
theorem seq_cut {t u : TS} {D : Ends} {σ : L2.St} {H : Hp} (M : L2.St → Hp → Prop) (h2 : ∀ σ' H', M σ' H' → u D σ' H') (h1 : (∀ σ' H', M σ' H' → u D σ' H') → t { D with nx := u D } σ H) : tSeq t u D σ H := h1 h2
def spNear : Sp := fun vs H Q _ => ∃ a b x, vs = [.ref a, .str x] ∧ Flw b H a ∧ word x = true ∧ ∀ (y : Str) H', word y = true → Flw b H' a → Kept a H H' → Q (.str y) H'
end Q
set_option Elab.async false
set_option linter.all false
set_option maxRecDepth 100000
set_option maxHeartbeats 4000000
/-! ### _law_pick of a list or a tuple; _law_words -/
namespace Q
open PySem L2 XD
theorem sqL_kept {K : PySem.W.Frag} {H H' : Hp} {a p : Addr} {xs : List V} (k : Kept a H H') (n : p ≠ a) (h : SqL K H p xs) : SqL K H' p xs := by
  rcases h with (h | ⟨o, h⟩) | h
  · exact .inl (.inl (k _ _ n h))
  · exact .inl (.inr ⟨o, k _ _ n h⟩)
  · exact .inr h
theorem sqT_kept {K : PySem.W.Frag} {H H' : Hp} {a p : Addr} {xs : List V} (k : Kept a H H') (n : p ≠ a) (h : SqT K H p xs) : SqT K H' p xs := by
  rcases h with (h | ⟨o, h⟩) | h
  · exact .inl (.inl (k _ _ n h))
  · exact .inl (.inr ⟨o, k _ _ n h⟩)
  · exact .inr h
theorem sq_kept {K : PySem.W.Frag} {H H' : Hp} {a p : Addr} {xs : List V} (k : Kept a H H') (n : p ≠ a) (h : SqL K H p xs ∨ SqT K H p xs) : SqL K H' p xs ∨ SqT K H' p xs :=
  h.elim (fun q => .inl (sqL_kept k n q)) (fun q => .inr (sqT_kept k n q))
theorem Flw.lst {H : Hp} {a b : Addr} (F : Flw b H a) : ∃ xs, H a = some (.lst xs) := by
  obtain ⟨ns, p, s, c, m, w, F⟩ := F
  exact ⟨_, F.at_⟩
theorem seqT_flw {K : PySem.W.Frag} {H H' : Hp} {a b q : Addr} {xs : List V} (F : Flw b H a) (k : Kept a H H') (h : SqT K H q xs) : SqT K H' q xs := by
  obtain ⟨ys, e⟩ := F.lst
  have n1 : ∀ {o : HO}, H q = some o → (∀ l, o ≠ .lst l) → q ≠ a := fun e1 e2 z => by
    subst z
    rw [e] at e1
    exact e2 _ (Option.some.inj e1).symm
  rcases h with (h | ⟨o, h⟩) | h
  · exact .inl (.inl (k _ _ (n1 h (by intro l z; cases z)) h))
  · exact .inl (.inr ⟨o, k _ _ (n1 h (by intro l z; cases z)) h⟩)
  · exact .inr h
def spPickB (K : PySem.W.Frag) : Sp := fun vs H Q _ => ∃ (a b t : Addr) (xs : List V), vs = [.ref a, .ref t] ∧ Flw b H a ∧ ((SqL K H t xs ∧ t ≠ a) ∨ SqT K H t xs) ∧ 0 < xs.length ∧ xs.length ≤ 1000 ∧
  ∀ (i : Nat) (x : V) (H' : Hp), xs[i]? = some x → Flw b H' a → Kept a H H' → Q x H'
/-! ### words not told yet -/
def lastOf (s : Str) : Option Nat := (tlx s).getLast?
def nine : List Nat := ("abcdefghi" : Str).cps.toList
theorem nine_nodup : nine.Nodup := by decide +kernel
theorem nine_len : nine.length = 9 := by decide +kernel
theorem nine_az : ∀ c ∈ nine, az c = true := by decide +kernel
theorem in_words {w : Str} : ∀ {ws : List Str}, inV (.str w) (ws.map V.str) = decide (w ∈ ws)
  | [] => rfl
  | x :: ws => by
    have ih := in_words (w := w) (ws := ws)
    unfold inV at ih ⊢
    rw [List.map_cons, List.any_cons, ih]
    show ((x == w) || _) = _
    by_cases e : x = w
    · subst e
      simp
    · have e2 : ¬ w = x := fun z => e z.symm
      have e1 : (x == w) = false := beq_eq_false_iff_ne.mpr e
      rw [e1, Bool.false_or]
      simp [e2]
theorem flat_words : ∀ ws : List Str, (ws.map V.str).all flatV = true
  | [] => rfl
  | x :: ws => by
    rw [List.map_cons, List.all_cons, flat_words ws]
    rfl
/-- the word after j letters: new, or each one tried stands among the words -/
def Tried (ws : List Str) (j : Nat) (x : Str) : Prop := x ∉ ws ∨ j = 0 ∨ ∃ l : List Str, (l ++ [x]).map lastOf = (nine.take j).map some ∧ ∀ y ∈ l, y ∈ ws
theorem tried_next {ws : List Str} {j : Nat} {x y : Str} {c : Nat} (h : Tried ws j x) (hin : x ∈ ws) (hc : nine[j]? = some c) (hy : lastOf y = some c) : Tried ws (j + 1) y := by
  rcases h with h | h | ⟨l, h1, h2⟩
  · exact absurd hin h
  · subst h
    refine .inr (.inr ⟨[], ?_, fun y h => absurd h List.not_mem_nil⟩)
    rw [take_one hc, List.map_append]
    show [lastOf y] = [some c]
    rw [hy]
  · refine .inr (.inr ⟨l ++ [x], ?_, fun z hz => ?_⟩)
    · have e2 : ((l ++ [x]) ++ [y]).map lastOf = (l ++ [x]).map lastOf ++ [lastOf y] := List.map_append
      rw [take_one hc, e2, h1, hy, List.map_append]
      rfl
    · rcases List.mem_append.mp hz with hz | hz
      · exact h2 z hz
      · rw [List.mem_singleton.mp hz]
        exact hin
theorem tried_done {ws : List Str} {x : Str} (h : Tried ws 9 x) (hl : ws.length < 8) : x ∉ ws := by
  rcases h with h | h | ⟨l, h1, h2⟩
  · exact h
  · cases h
  · exfalso
    have e9 : nine.take 9 = nine := List.take_of_length_le (by rw [nine_len]; exact Nat.le_refl _)
    rw [e9] at h1
    have hn : ((l ++ [x]).map lastOf).Nodup := by
      rw [h1]
      exact List.pairwise_map.mpr (List.Pairwise.imp (fun h z => h (Option.some.inj z)) nine_nodup)
    have hl8 : l.length = 8 := by
      have := congrArg List.length h1
      rw [List.length_map, List.length_map, nine_len, List.length_append, List.length_singleton] at this
      omega
    have hd : l.Nodup := by
      have h3 : (l ++ [x]).Nodup := List.Pairwise.imp (fun h z => h (by rw [z])) (List.pairwise_map.mp hn)
      exact (List.nodup_append.mp h3).1
    have := List.Nodup.length_le_of_subset hd (fun y hy => h2 y hy)
    omega
theorem tried_put {x : Str} {c : Nat} (hw : word x = true) (hc : az c = true) : word (cutS x none (some (7 : Int)) ++ ⟨#[c]⟩) = true ∧ lastOf (cutS x none (some (7 : Int)) ++ ⟨#[c]⟩) = some c := by
  obtain ⟨w1, w8, wa⟩ := word_iff.mp hw
  have e : tlx (cutS x none (some (7 : Int)) ++ ⟨#[c]⟩) = (tlx x).take 7 ++ [c] := by
    rw [tlx_app, tlx_one]
    exact congrArg (· ++ [c]) (tlx_to x 7)
  refine ⟨word_of e ?_ ?_ ?_, ?_⟩
  · simp only [List.length_append, List.length_singleton]
    omega
  · simp only [List.length_append, List.length_singleton, List.length_take]
    omega
  · rw [List.all_append, all_take wa]
    simp [hc]
  · unfold lastOf
    rw [e]
    simp
end Q
set_option Elab.async false
set_option linter.all false
set_option maxRecDepth 100000
set_option maxHeartbeats 4000000
/-! ### _law_words -/
namespace Q
open PySem L2 XD
def Wds (ws : List Str) : Prop := ws.Nodup ∧ ∀ x ∈ ws, word x = true
def spWords (K : PySem.W.Frag) : Sp := fun vs H Q _ => ∃ (a b p : Addr) (m : Nat) (ws : List Str), vs = [.ref a, .int m, .ref p] ∧ Flw b H a ∧ m ≤ 7 ∧ SqL K H p (ws.map V.str) ∧ p ≠ a ∧ ws.length ≤ 1000 ∧ (∀ x ∈ ws, word x = true) ∧
  ∀ (D : Addr) (us : List Str) (H' : Hp), H D = none → H' D = some (.lst (us.map V.str)) → us.length = m → Wds us → Flw b H' a → Kept a H H' → Q (.ref D) H'
theorem Kept.new {a D : Addr} {H H' : Hp} {o : HO} (k : Kept a H H') (hD : H D = none) : Kept a H (L2.upd H' D o) := fun x u n e => by
  rw [upd_ne (ne_of_none e hD)]
  exact k x u n e
end Q
set_option Elab.async false
set_option linter.all false
set_option maxRecDepth 100000
set_option maxHeartbeats 4000000
/-! ### _law_table, _law_ban -/
namespace Q
open PySem L2 XD
theorem sqZ_flw {H H' : Hp} {a b q : Addr} {xs : List V} (F : Flw b H a) (k : Kept a H H') (h : SqZ H q xs) : SqZ H' q xs := by
  obtain ⟨ys, e⟩ := F.lst
  obtain ⟨o, h, d⟩ := h
  refine ⟨o, k _ _ (fun z => ?_) h, d⟩
  rw [z, e] at h
  cases h
theorem TabR.flw {K : PySem.W.Frag} {H H' : Hp} {a b : Addr} (F : Flw b H a) (s : Kept a H H') : ∀ {ps : List Addr} {kvs : List (Key × V)} {t : List (Str × List Str)}, TabR K H ps kvs t → TabR K H' ps kvs t
  | _, _, _, .nil => .nil
  | _, _, _, .cons a b o c => .cons (seqT_flw F s a) (seqT_flw F s b) o (TabR.flw F s c)
theorem prd_flw {K : PySem.W.Frag} {H H' : Hp} {a b : Addr} (F : Flw b H a) (s : Kept a H H') : ∀ {qs : List Addr} {r : List (Str × Str)}, Paired (fun q (e : Str × Str) => SqT K H q [.str e.1, .str e.2]) qs r → Paired (fun q (e : Str × Str) => SqT K H' q [.str e.1, .str e.2]) qs r
  | _, _, .nil => .nil
  | _, _, .cons a b => .cons (seqT_flw F s a) (prd_flw F s b)
theorem RuleAt.flw {K : PySem.W.Frag} {H H' : Hp} {a b p : Addr} {r : List (Str × Str)} (F : Flw b H a) (s : Kept a H H') (h : RuleAt K H p r) : RuleAt K H' p r := by
  obtain ⟨qs, h1, h2⟩ := h
  exact ⟨qs, sqZ_flw F s h1, prd_flw F s h2⟩
/-- a good table whose fields have so many values -/
structure Tb (t : List (Str × List Str)) (ms : List Nat) : Prop where
  sz : t.map (fun e => e.2.length) = ms
  nm : Wds (t.map (·.1))
  vs : ∀ e ∈ t, Wds e.2
def spTable (K : PySem.W.Frag) : Sp := fun vs H Q _ => ∃ (a b p : Addr) (ms : List Nat), vs = [.ref a, .ref p] ∧ Flw b H a ∧ H p = some (.lst (ms.map fun (m : Nat) => V.int m)) ∧ p ≠ a ∧ ms.length ≤ 7 ∧ (∀ m ∈ ms, m ≤ 7) ∧
  ∀ (D : Addr) (ps : List Addr) (kvs : List (Key × V)) (t : List (Str × List Str)) (H' : Hp), H D = none → H' D = some (.lst (ps.map V.ref)) → TabR K H' ps kvs t → Tb t ms → Flw b H' a → Kept a H H' → Q (.ref D) H'
end Q
set_option Elab.async false
set_option linter.all false
set_option maxRecDepth 100000
set_option maxHeartbeats 4000000
/-! ### _law_ban -/
namespace Q
open PySem L2 XD
/-- a rule over the table -/
structure Ban (t : List (Str × List Str)) (m : Nat) (r : List (Str × Str)) : Prop where
  lo : 1 ≤ r.length
  hi : r.length ≤ m
  nd : (r.map (·.1)).Nodup
  of : ∀ e ∈ r, ∃ ws, (e.1, ws) ∈ t ∧ e.2 ∈ ws
theorem TabR.flen {K : PySem.W.Frag} {H : Hp} {ps : List Addr} {kvs : List (Key × V)} {t : List (Str × List Str)} (h : TabR K H ps kvs t) : ps.length = t.length := h.len.1
theorem TabR.get {K : PySem.W.Frag} {H : Hp} {ps : List Addr} {kvs : List (Key × V)} {t : List (Str × List Str)} {i : Nat} {e : Str × List Str} (h : TabR K H ps kvs t) (he : t[i]? = some e) :
    ∃ q v, (ps.map V.ref)[i]? = some (.ref q) ∧ SqT K H q [.str e.1, .ref v] ∧ SqT K H v (e.2.map V.str) := by
  have hi : i < t.length := (List.getElem?_eq_some_iff.mp he).1
  have hi2 : i < (ps.map V.ref).length := by rw [List.length_map, h.flen]; exact hi
  obtain ⟨q, v, n, ws, h1, h2, h3, h4⟩ := h.at (List.getElem?_eq_getElem hi2)
  rw [he] at h2
  cases h2
  exact ⟨q, v, by rw [← h1]; exact List.getElem?_eq_getElem hi2, h3, h4⟩
theorem nodup_take {U L : List Nat} {k y : Nat} (h : (U ++ L).Nodup) (hy : L[k]? = some y) : ((U ++ [y]) ++ L.eraseIdx k).Nodup := by
  obtain ⟨hk, e⟩ := List.getElem?_eq_some_iff.mp hy
  have e1 : L = L.take k ++ y :: L.drop (k + 1) := by
    rw [← e, ← List.drop_eq_getElem_cons hk, List.take_append_drop]
  rw [List.eraseIdx_eq_take_drop_succ]
  have p : (U ++ L).Perm ((U ++ [y]) ++ (L.take k ++ L.drop (k + 1))) := by
    conv => lhs; rw [e1]
    rw [List.append_assoc]
    exact (List.Perm.append_left U List.perm_middle)
  exact p.nodup_iff.mp h
theorem map_erase {α β : Type} (f : α → β) : ∀ (l : List α) (k : Nat), (l.map f).eraseIdx k = (l.eraseIdx k).map f
  | [], _ => rfl
  | _ :: _, 0 => rfl
  | x :: l, k + 1 => by
    show f x :: (l.map f).eraseIdx k = f x :: (l.eraseIdx k).map f
    rw [map_erase f l k]
def spBan (K : PySem.W.Frag) : Sp := fun vs H Q _ => ∃ (a b p : Addr) (ps : List Addr) (kvs : List (Key × V)) (t : List (Str × List Str)) (m : Nat), vs = [.ref a, .ref p, .int m] ∧ Flw b H a ∧ (SqL K H p (ps.map V.ref) ∨ SqT K H p (ps.map V.ref)) ∧ p ≠ a ∧ TabR K H ps kvs t ∧
  1 ≤ t.length ∧ t.length ≤ 7 ∧ (t.map (·.1)).Nodup ∧ (∀ e ∈ t, 1 ≤ e.2.length ∧ e.2.length ≤ 7) ∧ 1 ≤ m ∧ m ≤ 7 ∧
  ∀ (z : Addr) (r : List (Str × Str)) (H' : Hp), RuleAt K H' z r → Ban t m r → Flw b H' a → Kept a H H' → Q (.ref z) H'
end Q
set_option Elab.async false
set_option linter.all false
set_option maxRecDepth 100000
set_option maxHeartbeats 4000000
/-! A tuple turned by [::-1], kept as it is made. -/
namespace XR
open PySem PySem.Spec PyProof.Rows HT L2 XD
section
variable {prog : Program} {w : World} {A : Around} {E : Value → Shared → Prop} {s : Shared}
theorem back_places (n : Nat) : Builtin.Slice.slicePlaces ((n : Int) - 1) (-1) (-1) = n := by
  unfold Builtin.Slice.slicePlaces
  have h1 : ¬ ((-1 : Int) > 0) := by decide
  simp only [h1, if_false]
  by_cases h : (n : Int) - 1 > -1
  · have e : ((n : Int) - 1 - -1 - 1) / (- -1) = (n : Int) - 1 := by
      rw [show (- -1 : Int) = 1 by decide, Int.ediv_one]
      omega
    simp only [h, if_true, e]
    omega
  · have e : n = 0 := by omega
    subst e
    simp
theorem back_adjust (n : Nat) : Builtin.Slice.sliceAdjust none none (-1) (n : Int) = ((n : Int) - 1, -1) := by
  unfold Builtin.Slice.sliceAdjust
  have h1 : ((-1 : Int) < 0) := by decide
  simp only [h1, if_true]
theorem back_pick (xs : Array Value) : ((List.range xs.size).filterMap fun (k : Nat) => xs[((xs.size : Int) - 1 + (k : Int) * (-1)).toNat]?).toArray = xs.toList.reverse.toArray := by
  have e : (fun (k : Nat) => xs[((xs.size : Int) - 1 + (k : Int) * (-1)).toNat]?) = fun k => xs[xs.size - 1 - k]? := by
    funext k
    by_cases h : k < xs.size
    · have : ((xs.size : Int) - 1 + (k : Int) * (-1)).toNat = xs.size - 1 - k := by omega
      rw [this]
    · have : ((xs.size : Int) - 1 + (k : Int) * (-1)).toNat = xs.size - 1 - k := by omega
      rw [this]
  rw [e]
  have e2 : (fun (k : Nat) => xs[xs.size - 1 - k]?) = (fun x => xs[x]?) ∘ (fun k => xs.size - 1 - k) := rfl
  rw [e2, ← List.filterMap_map, PySem.W.krv_range, List.filterMap_reverse, PySem.W.krv_all]
theorem sliceApplied_back {sl : Addr} {vk : Value} {n : Nat} {Q : Int × Int × Nat → Shared → Prop} (hs : s.heap.IsSliceOf sl .none .none vk) (pk : IsPart vk (some (-1)))
    (h : Q ((n : Int) - 1, -1, n) s) : wpAny (model prog w) A (Builtin.Slice.sliceApplied (.ref sl) (pure (n : Int))) Q E s := by
  obtain ⟨os, hos, hcs, hds⟩ := id hs
  unfold Builtin.Slice.sliceApplied Builtin.Slice.sliceFields
  refine wpAny_bind (wpAny_bind (wpAny_field hos hds (x := .none) rfl (wpAny_bind (wpAny_field hos hds (x := .none) rfl (wpAny_bind (wpAny_field hos hds (x := vk) rfl (wpAny_pure ?_)))))))
  refine wpAny_bind (slicePart_ pk ?_)
  show wpAny _ _ (if ((-1 : Int) == 0) = true then _ else _) _ _ s
  rw [if_neg (by decide)]
  refine wpAny_bind (slicePart_ .none (wpAny_bind (slicePart_ .none (wpAny_bind (wpAny_pure ?_)))))
  show wpAny _ _ (match Builtin.Slice.sliceAdjust none none (-1) (n : Int) with | (lo, hi) => pure (lo, (-1 : Int), Builtin.Slice.slicePlaces lo hi (-1))) _ _ s
  rw [back_adjust n]
  show wpAny _ _ (pure ((n : Int) - 1, (-1 : Int), Builtin.Slice.slicePlaces ((n : Int) - 1) (-1) (-1))) _ _ s
  rw [back_places]
  exact wpAny_pure h
theorem getItem_tuple_back {t sl : Addr} {items : Array Value} {vk : Value} {Q : Value → Shared → Prop} (ht : IsTup s.heap t items) (hs : s.heap.IsSliceOf sl .none .none vk) (pk : IsPart vk (some (-1)))
    (h : Q (.ref s.heap.objs.size) { s with heap := s.heap.push { cls := .type "tuple", data := .seq items.toList.reverse.toArray } })
    (hsz : items.size ≤ sizeLine) : wpAny (model prog w) A (getItem (.ref t) (.ref sl)) Q E s := by
  have htake : sizeOk (.seq items.toList.reverse.toArray) := by
    show items.toList.reverse.toArray.size ≤ sizeLine
    rw [List.size_toArray, List.length_reverse, Array.length_toList]
    exact hsz
  obtain ⟨os, hos, hcs, hds⟩ := id hs
  have hTs : s.TypeIs (.ref sl) "slice" := ⟨os, hos, hcs⟩
  unfold getItem
  try with_reducible refine wpAny_holding ?_
  first | refine wpAny_bind (wpAny_pure ?_) | skip
  refine wpAny_bind (wpAny_sequenceKey ht.typeIs (by decide) ?_)
  refine wpAny_bind (wpAny_callSpecial?_slot (name := Str.ofString "__getitem__") ht.typeIs PyProof.Rows.slot_tuple_getitem
    (wpAny_call_entry PyProof.Rows.slot_tuple_getitem ht.typeIs entry_tuple_getitem ?_ (args_tuple_getitem _ _)))
  show wpAny _ _ (Builtin.Tuple.tupleItemsOf (.ref t) >>= _) _ _ s
  refine wpAny_bind (tupleItemsOf_ ht ?_)
  refine wpAny_bind (wpAny_typeOf hTs ?_)
  rw [if_pos (by decide)]
  refine wpAny_bind (sliceApplied_back hs pk ?_)
  have hno : ¬ ((((items.size : Int) - 1 : Int) == 0 && (-1 : Int) == 1 && items.size == items.size) = true) := by
    intro q
    rw [Bool.and_eq_true, Bool.and_eq_true] at q
    exact absurd q.1.2 (by decide)
  show wpAny _ _ (if (((items.size : Int) - 1 : Int) == 0 && (-1 : Int) == 1 && items.size == items.size) = true then _ else _) _ _ s
  rw [if_neg hno, back_pick]
  first
    | exact wpAny_bind (m := Builtin.Tuple.tupleExact _) (wpAny_newObj_type (wpAny_pure ⟨_, rfl, wpAny_pure h⟩) htake)
    | exact wpAny_bind (m := Builtin.Tuple.tupleExact _) (wpAny_newObj_type (wpAny_bind (wpAny_pure (wpAny_pure ⟨_, rfl, wpAny_pure h⟩))) htake)
    | exact wpAny_bind (wpAny_bind (m := Builtin.Tuple.tupleExact _) (wpAny_newObj_type (wpAny_pure (wpAny_pure ⟨_, rfl, wpAny_pure h⟩)) htake))
    | exact wpAny_bind (wpAny_bind (m := Builtin.Tuple.tupleExact _) (wpAny_newObj_type (wpAny_pure ⟨_, rfl, wpAny_pure h⟩) htake))
end
section
variable {X : Cx}
/-- t[::-1] -/
def tRevT (K : PySem.W.Frag) (te : TE) : TE := fun σ H Q => te σ H fun x H1 => ∃ a xs, x = .ref a ∧ SqT K H1 a xs ∧ ∀ p o, H1 p = none → o.dict = none → Q (.ref p) (upd H1 p (.frz o (.tup xs.reverse)))
theorem pe_revT {e : Expr} {te : TE} {k : Nat} {p1 p2 p3 pos : Pos} (he : PE X e te) : PE X (.Subscript e (.Slice none none (some (.UnaryOp .USub (.Constant (.int 1) k p1) p2)) p3) pos) (tRevT X.K te) := by
  refine ⟨fun pins s σ H Q I h => ?_⟩
  refine Subscript_ (thn (he.run pins s σ H _ I h) fun v s1 ⟨x, H1, I1, r1, q1⟩ => ?_)
  obtain ⟨a, xs, ex, hx, q⟩ := q1
  subst ex
  cases r1
  have hst : PO X (some (.UnaryOp .USub (.Constant (.int 1) k p1) p2)) (tPart (tUn (rU fun i => .int (-i)) (tC (.int 1)))) := po_some (pe_un un_neg pe_int)
  refine wpAny_Slice (thn (po_none.run pins s1 σ H1 (fun o H2 => o = none ∧ H2 = H1) I1 ⟨rfl, rfl⟩) fun vl s2 ⟨l, H2, I2, pl, el, e2⟩ => ?_)
  subst el e2
  refine thn (po_none.run pins s2 σ H2 (fun o H3 => o = none ∧ H3 = H2) I2 ⟨rfl, rfl⟩) fun vu s3 ⟨u, H3, I3, pu, eu, e3⟩ => ?_
  subst eu e3
  refine thn (hst.run pins s3 σ H3 (fun o H4 => o = some (-1) ∧ H4 = H3) I3 ⟨1, rfl, -1, rfl, rfl, rfl⟩) fun vs s4 ⟨o, H4, I4, ps, eo, e4⟩ => ?_
  subst eo e4
  cases pl
  cases pu
  have I5 : Inv X pins σ H4 { s4 with heap := s4.heap.push { cls := .type "slice", data := .fields #[.none, .none, vs] } } := I4.kept (t' := s4.toks) fun b ob q => Heap.get?_push_of_some _ q
  obtain ⟨its, r, ht, hz⟩ := I5.tuple hx
  have hlen := r.length
  show wpAny (model X.prog X.w) X.A (subscriptTail e (.Slice none none (some (.UnaryOp .USub (.Constant (.int 1) k p1) p2)) p3) (.ref a) (.ref s4.heap.objs.size)) (EP X pins σ Q) X.xe { s4 with heap := s4.heap.push { cls := .type "slice", data := .fields #[.none, .none, vs] } }
  refine tail_any (ops := [.ref a, .ref s4.heap.objs.size]) ht.typeIs (PyProof.Rows.slot_tuple_getitem.lookup) ?_ (by with_unfolding_all rfl)
  refine getItem_tuple_back ht (Heap.IsSliceOf.new _ .none .none vs) ps ?_ (by rw [List.size_toArray]; omega)
  refine ⟨.ref _, _, I5.laid (t' := s4.toks) (o := .frz { cls := .type "tuple", data := .seq its.reverse.toArray } (.tup xs.reverse)) (fun b ob q => Heap.get?_push_of_some _ q) (Nat.le_refl _) ?_, rfl, q _ _ (I5.hok.fresh (Nat.le_refl _)) rfl⟩
  exact ⟨Heap.get?_push_size _ rfl, by rw [List.length_reverse]; exact hz, _, r.reverse, IsTup.new _ _⟩
theorem pe_revTK {e : Expr} {te : TE} {k : Nat} {p1 p2 p3 pos : Pos} (K : PySem.W.Frag) (h : X.K = K) (he : PE X e te) : PE X (.Subscript e (.Slice none none (some (.UnaryOp .USub (.Constant (.int 1) k p1) p2)) p3) pos) (tRevT K te) := by
  subst h
  exact pe_revT he
end
end XR
set_option Elab.async false
set_option linter.all false
set_option maxRecDepth 100000
set_option maxHeartbeats 4000000
/-! ### what good data come to -/
namespace Q
open PySem L2 XD
theorem prd_mem {α β : Type} {R : α → β → Prop} : ∀ {xs : List α} {ys : List β}, Paired R xs ys → ∀ x ∈ xs, ∃ y ∈ ys, R x y
  | _, _, .nil, x, h => absurd h List.not_mem_nil
  | _, _, .cons a b, x, h => by
    rcases List.mem_cons.mp h with rfl | h
    · exact ⟨_, List.mem_cons_self, a⟩
    · obtain ⟨y, h1, h2⟩ := prd_mem b x h
      exact ⟨y, List.mem_cons_of_mem _ h1, h2⟩
theorem prd_map {α β γ : Type} {R : α → β → Prop} {f : α → γ} {g : β → γ} (h : ∀ x y, R x y → f x = g y) : ∀ {xs : List α} {ys : List β}, Paired R xs ys → xs.map f = ys.map g
  | _, _, .nil => rfl
  | _, _, .cons a b => by rw [List.map_cons, List.map_cons, h _ _ a, prd_map h b]
/-- data that tell the table -/
def FTab (t : List (Str × List Str)) (d : PyData) : Prop := ∃ fs, rowOf d = some fs ∧ Paired (fun f (e : Str × List Str) => ∃ b, pairOf f = some (.str e.1, b) ∧ rowOf b = some (e.2.map PyData.str)) fs t
def FRule (r : List (Str × Str)) (d : PyData) : Prop := ∃ gs, rowOf d = some gs ∧ Paired (fun g (e : Str × Str) => pairOf g = some (.str e.1, .str e.2)) gs r
def FRules (rs : List (List (Str × Str))) (d : PyData) : Prop := ∃ fs, rowOf d = some fs ∧ Paired (fun f r => FRule r f) fs rs
structure TabOk (t : List (Str × List Str)) : Prop where
  lo : 1 ≤ t.length
  hi : t.length ≤ 6
  nm : Wds (t.map (·.1))
  vs : ∀ e ∈ t, Wds e.2 ∧ 1 ≤ e.2.length ∧ e.2.length ≤ 5
theorem texts_str (ws : List Str) : textsOf (ws.map PyData.str) = ws := by
  unfold textsOf
  rw [List.map_map]
  exact List.map_id _
theorem all_strs {ws : List Str} (h : ∀ x ∈ ws, word x = true) : (ws.map PyData.str).all isWord = true :=
  List.all_eq_true.mpr fun d hd => by
    obtain ⟨x, hx, rfl⟩ := List.mem_map.mp hd
    exact h x hx
theorem unlike_strs {ws : List Str} (h : Wds ws) : unlike (ws.map PyData.str) = true := by
  unfold unlike
  rw [all_strs h.2, texts_str, decide_eq_true h.1]
  rfl
theorem values_strs {b : PyData} {ws : List Str} (e : rowOf b = some (ws.map PyData.str)) (h : Wds ws) (h1 : 1 ≤ ws.length) (h5 : ws.length ≤ 5) : areValues b = true := by
  unfold areValues
  rw [e]
  show (decide (1 ≤ (ws.map PyData.str).length) && (decide ((ws.map PyData.str).length ≤ 5) && unlike (ws.map PyData.str))) = true
  rw [List.length_map, decide_eq_true h1, decide_eq_true h5, unlike_strs h]
  rfl
theorem short_word {x : Str} (h : word x = true) : Short (.str x) := by
  show x.length ≤ 1000000
  have := word_len h
  omega
theorem tab_fields {t : List (Str × List Str)} {d : PyData} (h : FTab t d) (T : TabOk t) : areFields d = true ∧ tabOf d = t ∧ FShort d := by
  obtain ⟨fs, e, hp⟩ := h
  have hl : fs.length = t.length := prd_len hp
  have e1 : fs.map firstOf = (t.map (·.1)).map PyData.str := by
    rw [List.map_map]
    refine prd_map (fun f e h => ?_) hp
    obtain ⟨b, h1, _⟩ := h
    unfold firstOf
    rw [h1]
    rfl
  have e2 : fs.map entryOf = t := by
    conv => rhs; rw [← List.map_id t]
    refine prd_map (fun f e h => ?_) hp
    obtain ⟨b, h1, h2⟩ := h
    unfold entryOf
    rw [h1]
    show (strOf (.str e.1), match rowOf b with | some ws => textsOf ws | none => []) = e
    rw [h2]
    show (e.1, textsOf (e.2.map PyData.str)) = e
    rw [texts_str]
  have e3 : fs.all fieldOk = true := List.all_eq_true.mpr fun f hf => by
    obtain ⟨e, he, b, h1, h2⟩ := prd_mem hp f hf
    obtain ⟨h3, h4, h5⟩ := T.vs e he
    unfold fieldOk
    rw [h1]
    exact values_strs h2 h3 h4 h5
  refine ⟨?_, ?_, fun fs' ef f hf a b ep => ?_⟩
  · unfold areFields
    rw [e]
    show (decide (1 ≤ fs.length) && (decide (fs.length ≤ 6) && (fs.all fieldOk && unlike (fs.map firstOf)))) = true
    have l1 := T.lo
    have l6 := T.hi
    rw [e1, e3, unlike_strs T.nm, decide_eq_true (by omega : 1 ≤ fs.length), decide_eq_true (by omega : fs.length ≤ 6)]
    rfl
  · unfold tabOf
    rw [e]
    exact e2
  · rw [e] at ef
    cases ef
    obtain ⟨e, he, b', h1, h2⟩ := prd_mem hp f hf
    rw [ep] at h1
    cases h1
    refine ⟨short_word (T.nm.2 _ (List.mem_map.mpr ⟨e, he, rfl⟩)), fun ws ew w hw => ?_⟩
    rw [h2] at ew
    cases ew
    obtain ⟨x, hx, rfl⟩ := List.mem_map.mp hw
    exact short_word ((T.vs e he).1.2 x hx)
theorem look_of {n : Str} {ws : List Str} : ∀ {t : List (Str × List Str)}, (t.map (·.1)).Nodup → (n, ws) ∈ t → look n t = some ws
  | (m, us) :: t, hn, h => by
    rw [List.map_cons, List.nodup_cons] at hn
    unfold look
    by_cases e : m = n
    · rw [if_pos e]
      subst e
      rcases List.mem_cons.mp h with h | h
      · cases h
        rfl
      · exact absurd (List.mem_map.mpr ⟨_, h, rfl⟩) hn.1
    · rw [if_neg e]
      rcases List.mem_cons.mp h with h | h
      · cases h
        exact absurd rfl e
      · exact look_of hn.2 h
theorem stands_of {ws : List Str} {x : Str} (h : x ∈ ws) : stands ws (.str x) = true := by
  unfold stands
  refine List.any_eq_true.mpr ⟨.str x, List.mem_map.mpr ⟨x, h, rfl⟩, ?_⟩
  rw [PyData.eqv]
  simp
theorem go_of {t : List (Str × List Str)} (hn : (t.map (·.1)).Nodup) : ∀ {gs : List PyData} {r : List (Str × Str)} {seen : List Str}, Paired (fun g (e : Str × Str) => pairOf g = some (.str e.1, .str e.2)) gs r →
    (r.map (·.1)).Nodup → (∀ e ∈ r, e.1 ∉ seen) → (∀ e ∈ r, ∃ ws, (e.1, ws) ∈ t ∧ e.2 ∈ ws) → goFacts t seen gs = true
  | _, _, _, .nil, _, _, _ => rfl
  | _, e :: r, seen, .cons a b, h1, h2, h3 => by
    obtain ⟨ws, h4, h5⟩ := h3 e List.mem_cons_self
    rw [List.map_cons, List.nodup_cons] at h1
    have hc : seen.contains e.1 = false := by
      cases q : seen.contains e.1 with
      | false => rfl
      | true => exact absurd (by simpa using q) (h2 e List.mem_cons_self)
    rw [go_old a (look_of hn h4), hc, stands_of h5]
    refine go_of hn b h1.2 (fun f hf z => ?_) (fun f hf => h3 f (List.mem_cons_of_mem _ hf))
    rcases List.mem_cons.mp z with z | z
    · exact h1.1 (List.mem_map.mpr ⟨f, hf, z⟩)
    · exact h2 f (List.mem_cons_of_mem _ hf) z
theorem str_shaped {x : Str} (h : PyData.strOk x = true) : SeqAt.shaped (.str x) = true := by
  unfold SeqAt.shaped
  rw [Bool.and_eq_true]
  refine ⟨?_, ?_⟩
  · simpa [PyData.canLay0] using h
  · simp [PyData.depth]
theorem ban_facts {t : List (Str × List Str)} {r : List (Str × Str)} {m : Nat} {d : PyData} (hn : (t.map (·.1)).Nodup) (B : Ban t m r) (h : FRule r d) : areFacts t d = true ∧ ∃ gs, rowOf d = some gs ∧ gs.length = r.length ∧ factsOf d = r := by
  obtain ⟨gs, e, hp⟩ := h
  have hl : gs.length = r.length := prd_len hp
  have hle : r.length ≤ t.length := by
    have h1 : r.map (·.1) ⊆ t.map (·.1) := fun x hx => by
      obtain ⟨e, he, rfl⟩ := List.mem_map.mp hx
      obtain ⟨ws, h2, _⟩ := B.of e he
      exact List.mem_map.mpr ⟨_, h2, rfl⟩
    have := List.Nodup.length_le_of_subset B.nd h1
    rwa [List.length_map, List.length_map] at this
  refine ⟨?_, gs, e, hl, ?_⟩
  · unfold areFacts
    rw [e]
    show (decide (gs.length ≤ t.length) && goFacts t [] gs) = true
    rw [decide_eq_true (by omega : gs.length ≤ t.length), go_of hn hp B.nd (fun _ _ z => by cases z) B.of]
    rfl
  · unfold factsOf
    rw [e]
    show gs.map factOf = r
    conv => rhs; rw [← List.map_id r]
    refine prd_map (fun g e h => ?_) hp
    unfold factOf
    rw [h]
    rfl
theorem ban_ok {t : List (Str × List Str)} {r : List (Str × Str)} {d : PyData} (hn : (t.map (·.1)).Nodup) (B : Ban t 4 r) (h : FRule r d) : ruleOk t d = true := by
  obtain ⟨h1, gs, e, hl, _⟩ := ban_facts hn B h
  rw [ruleOk_yes e h1, decide_eq_true (by have := B.lo; omega : 1 ≤ gs.length), decide_eq_true (by have := B.hi; omega : gs.length ≤ 4)]
  rfl
theorem rule_fok {t : List (Str × List Str)} {m : Nat} {r : List (Str × Str)} {d : PyData} (T : TabOk t) (B : Ban t m r) (h : FRule r d) : FOk d := by
  obtain ⟨gs, e, hp⟩ := h
  intro fs ef f hf a b ep
  rw [e] at ef
  cases ef
  obtain ⟨e, he, h1⟩ := prd_mem hp f hf
  rw [ep] at h1
  cases h1
  obtain ⟨ws, h2, h3⟩ := B.of e he
  exact str_shaped (word_ok ((T.vs _ h2).1.2 _ h3))
theorem rules_rules {t : List (Str × List Str)} {rs : List (List (Str × Str))} {d : PyData} (h : FRules rs d) (T : TabOk t) (hb : ∀ r ∈ rs, Ban t 4 r) (hl : rs.length ≤ 20) : areRules t d = true ∧ rulesOf d = rs ∧ ROk d := by
  obtain ⟨fs, e, hp⟩ := h
  have hlen : fs.length = rs.length := prd_len hp
  refine ⟨?_, ?_, fun fs' ef f hf => ?_⟩
  · unfold areRules
    rw [e]
    show (decide (fs.length ≤ 20) && fs.all (ruleOk t)) = true
    rw [decide_eq_true (by omega : fs.length ≤ 20), Bool.true_and]
    refine List.all_eq_true.mpr fun f hf => ?_
    obtain ⟨r, hr, h1⟩ := prd_mem hp f hf
    exact ban_ok T.nm.1 (hb r hr) h1
  · unfold rulesOf
    rw [e]
    show fs.map factsOf = rs
    have : ∀ {fs : List PyData} {rs : List (List (Str × Str))}, Paired (fun f r => FRule r f) fs rs → (∀ r ∈ rs, Ban t 4 r) → fs.map factsOf = rs := by
      intro fs rs hp
      induction hp with
      | nil => intro _; rfl
      | cons a b ih =>
        intro hb
        rw [List.map_cons, ih (fun r hr => hb r (List.mem_cons_of_mem _ hr))]
        obtain ⟨_, _, _, _, h3⟩ := ban_facts T.nm.1 (hb _ List.mem_cons_self) a
        rw [h3]
    exact this hp hb
  · rw [e] at ef
    cases ef
    obtain ⟨r, hr, h1⟩ := prd_mem hp f hf
    exact rule_fok T (hb r hr) h1
theorem made_good {t : List (Str × List Str)} {rs : List (List (Str × Str))} {dF dR : PyData} (hF : FTab t dF) (hR : FRules rs dR) (T : TabOk t) (hb : ∀ r ∈ rs, Ban t 4 r) (hl : rs.length ≤ 20) :
    made dF dR = if 1000 < waysFrom 1 t then .many else .form t (once (rs.map (bySeq t))) := by
  obtain ⟨h1, h2, _⟩ := tab_fields hF T
  obtain ⟨h3, h4, _⟩ := rules_rules hR T hb hl
  unfold made
  rw [h2, if_pos h1, if_pos h3, h4]
  have : rs.map (sorted t) = rs.map (bySeq t) := List.map_congr_left fun r hr => sorted_bySeq (hb r hr).nd t
  rw [this]
/-- what a wrong table, a wrong rule comes to -/
theorem made_bad0 {dF dR : PyData} (h : areFields dF = false) : made dF dR = .bad 0 := by
  unfold made
  rw [if_neg (by rw [h]; exact fun z => by cases z)]
theorem made_bad1 {t : List (Str × List Str)} {dF dR : PyData} (hF : FTab t dF) (T : TabOk t) (h : areRules t dR = false) : made dF dR = .bad 1 := by
  obtain ⟨h1, h2, _⟩ := tab_fields hF T
  unfold made
  rw [if_pos h1, h2, if_neg (by rw [h]; exact fun z => by cases z)]
end Q
set_option Elab.async false
set_option linter.all false
set_option maxRecDepth 100000
set_option maxHeartbeats 4000000
/-! ### a form is made of good data -/
namespace Q
open PySem L2 XD
theorem passF {P : Program} {w : World} {X : Cx} : Passes (L2N.CX P w) X E0 := fun _ _ _ _ _ _ _ x => by
  obtain ⟨_, _, _, _, _, _, _, _, _, _, _, _, z⟩ := x
  exact z.elim
def kwG {α : Type} : List α → List α → List α
  | [x], [r, t] => [x, t, r]
  | _, _ => []
theorem kbn_init {K : PySem.W.Frag} {f : Addr} {fd : FuncData} (F : Fun K "__init__" "Form.__init__" sInit f fd) : KBn K fd ["self", "fields", "rules"] 1 ["rules", "fields"] kwG kwG := by
  obtain ⟨oc, od, kV, doc, pm, an, cdv, ct, osl, rfl, lk, hcd⟩ := F.ex
  refine ⟨fun s us ws X l1 l2 => ?_, fun {vs us zs ws} r1 r2 => ?_⟩
  · match us, ws, l1, l2 with
    | [x], [r, t], _, _ => exact BindsTo.of_eq rfl
  · cases r1 with
    | nil => exact .nil
    | cons a b =>
      cases b with
      | cons _ _ => exact .nil
      | nil =>
        cases r2 with
        | nil => exact .nil
        | cons c d =>
          cases d with
          | nil => exact .nil
          | cons e f =>
            cases f with
            | nil => exact .cons a (.cons e (.cons c .nil))
            | cons _ _ => exact .nil
/-- what a table and bans are handed in as -/
structure Hand (K : PySem.W.Frag) (H : Hp) (t : List (Str × List Str)) (rs : List (List (Str × Str))) (vF vR : V) (dF dR : PyData) : Prop where
  dpF : Dp K H vF dF
  dpR : Dp K H vR dR
  ft : FTab t dF
  fr : FRules rs dR
  rz : RZ K H vR dR
structure Good (t : List (Str × List Str)) (rs : List (List (Str × Str))) : Prop where
  tb : TabOk t
  bs : ∀ r ∈ rs, Ban t 4 r
  ln : rs.length ≤ 20
  ws : waysFrom 1 t ≤ 1000
theorem Hand.same {K : PySem.W.Frag} {H H' : Hp} {t : List (Str × List Str)} {rs : List (List (Str × Str))} {vF vR : V} {dF dR : PyData} (s : Same H H') (h : Hand K H t rs vF vR dF dR) : Hand K H' t rs vF vR dF dR :=
  ⟨dp_same s h.dpF, dp_same s h.dpR, h.ft, h.fr, h.rz.same s⟩
theorem init_good {K : PySem.W.Frag} {H : Hp} {C CV CM : Addr} {t : List (Str × List Str)} {rs : List (List (Str × Str))} {vF vR : V} {dF dR : PyData} {Q0 : VK} {E : XK} (G : Good t rs) (h : Hand K H t rs vF vR dF dR)
    {x dx : Addr} (hx : H x = none) (hdx : H dx = none) (hne : dx ≠ x) (k : ∀ pf pr H', Same H H' → FormAt C H' x pf pr → TabAt K H' pf t → RulesAt K H' pr (once (rs.map (bySeq t))) → Q0 .non H') :
    spInit K C CV CM [.ref x, vF, vR] (L2.upd (L2.upd H dx (.own x)) x (.ins C dx [])) Q0 E := by
  have s0 : Same H (L2.upd (L2.upd H dx (.own x)) x (.ins C dx [])) := fun b o e => by
    rw [upd_ne (ne_of_none e hx), upd_ne (ne_of_none e hdx)]
    exact e
  obtain ⟨h1, h2, h3⟩ := tab_fields h.ft G.tb
  obtain ⟨h4, h5, h6⟩ := rules_rules h.fr G.tb G.bs G.ln
  have em : made dF dR = .form t (once (rs.map (bySeq t))) := by
    rw [made_good h.ft h.fr G.tb G.bs G.ln, if_neg (by have := G.ws; omega)]
  refine ⟨x, dx, vF, vR, dF, dR, rfl, upd_same, dp_same s0 h.dpF, dp_same s0 h.dpR, h3, h6, fun _ _ _ => h.rz.same s0, ?_⟩
  rw [em]
  intro pf pr H' hk f1 f2 f3
  exact k pf pr H' (fun b o e => hk b o (ne_of_none e hx) (s0 _ _ e)) f1 f2 f3
/-- as tuples in a list or a tuple -/
structure TabIn (K : PySem.W.Frag) (H : Hp) (p : Addr) (ps : List Addr) (kvs : List (Key × V)) (t : List (Str × List Str)) : Prop where
  at_ : SqL K H p (ps.map V.ref) ∨ SqT K H p (ps.map V.ref)
  rw_ : TabR K H ps kvs t
structure BansIn (K : PySem.W.Frag) (H : Hp) (q : Addr) (qs : List Addr) (rs : List (List (Str × Str))) : Prop where
  at_ : SqL K H q (qs.map V.ref) ∨ SqT K H q (qs.map V.ref)
  rw_ : Paired (RuleAt K H) qs rs
theorem TabIn.same {K : PySem.W.Frag} {H H' : Hp} {p : Addr} {ps : List Addr} {kvs : List (Key × V)} {t : List (Str × List Str)} (s : Same H H') (h : TabIn K H p ps kvs t) : TabIn K H' p ps kvs t := ⟨sq_same s h.at_, h.rw_.same s⟩
theorem BansIn.same {K : PySem.W.Frag} {H H' : Hp} {q : Addr} {qs : List Addr} {rs : List (List (Str × Str))} (s : Same H H') (h : BansIn K H q qs rs) : BansIn K H' q qs rs := ⟨sq_same s h.at_, rules_same s h.rw_⟩
theorem tab_pair : ∀ t : List (Str × List Str), Paired (fun f (e : Str × List Str) => ∃ b, pairOf f = some (.str e.1, b) ∧ rowOf b = some (e.2.map PyData.str)) (t.map entryD) t
  | [] => .nil
  | e :: t => .cons ⟨_, rfl, rfl⟩ (tab_pair t)
theorem rule_pair : ∀ r : List (Str × Str), Paired (fun g (e : Str × Str) => pairOf g = some (.str e.1, .str e.2)) (r.map fun e => .tuple [.str e.1, .str e.2]) r
  | [] => .nil
  | e :: r => .cons rfl (rule_pair r)
theorem rules_pair : ∀ rs : List (List (Str × Str)), Paired (fun f r => FRule r f) (rs.map ruleD) rs
  | [] => .nil
  | r :: rs => .cons ⟨_, rfl, rule_pair r⟩ (rules_pair rs)
/-- what the table, the bans are as data -/
def isTab (t : List (Str × List Str)) (d : PyData) : Prop := d = .list (t.map entryD) ∨ d = .tuple (t.map entryD)
def isBans (rs : List (List (Str × Str))) (d : PyData) : Prop := d = .list (rs.map ruleD) ∨ d = .tuple (rs.map ruleD)
theorem TabIn.dp {K : PySem.W.Frag} {H : Hp} {p : Addr} {ps : List Addr} {kvs : List (Key × V)} {t : List (Str × List Str)} (h : TabIn K H p ps kvs t) : ∃ d, isTab t d ∧ Dp K H (.ref p) d := by
  rcases h.at_ with z | z
  · exact ⟨_, .inl rfl, .lst z (tabR_dps h.rw_)⟩
  · exact ⟨_, .inr rfl, .tup z (tabR_dps h.rw_)⟩
theorem BansIn.dp {K : PySem.W.Frag} {H : Hp} {q : Addr} {qs : List Addr} {rs : List (List (Str × Str))} (h : BansIn K H q qs rs) : ∃ d, isBans rs d ∧ Dp K H (.ref q) d := by
  rcases h.at_ with z | z
  · exact ⟨_, .inl rfl, .lst z (rules_dps h.rw_)⟩
  · exact ⟨_, .inr rfl, .tup z (rules_dps h.rw_)⟩
theorem isTab.ft {t : List (Str × List Str)} {d : PyData} (h : isTab t d) : FTab t d := by
  rcases h with rfl | rfl
  · exact ⟨_, rfl, tab_pair t⟩
  · exact ⟨_, rfl, tab_pair t⟩
theorem isBans.fr {rs : List (List (Str × Str))} {d : PyData} (h : isBans rs d) : FRules rs d := by
  rcases h with rfl | rfl
  · exact ⟨_, rfl, rules_pair rs⟩
  · exact ⟨_, rfl, rules_pair rs⟩
theorem isBans.row {rs : List (List (Str × Str))} {d : PyData} (h : isBans rs d) : rowOf d = some (rs.map ruleD) := by
  rcases h with rfl | rfl <;> rfl
theorem isTab.row {t : List (Str × List Str)} {d : PyData} (h : isTab t d) : rowOf d = some (t.map entryD) := by
  rcases h with rfl | rfl <;> rfl
theorem BansIn.rz {K : PySem.W.Frag} {H : Hp} {q : Addr} {qs : List Addr} {rs : List (List (Str × Str))} {d : PyData} (h : BansIn K H q qs rs) (hd : isBans rs d) : RZ K H (.ref q) d := by
  refine ⟨q, _, _, rfl, hd.row, h.at_, by rw [List.length_map, List.length_map, prd_len h.rw_], fun i y rd h1 h2 => ?_⟩
  rw [List.getElem?_map] at h1 h2
  obtain ⟨z, hz, rfl⟩ := Option.map_eq_some_iff.mp h1
  obtain ⟨r, hr, rfl⟩ := Option.map_eq_some_iff.mp h2
  obtain ⟨r', hr', ms, m1, m2⟩ := prd_at h.rw_ hz
  rw [hr] at hr'
  cases hr'
  exact ⟨z, _, _, rfl, .inr m1, rfl, prd_dps m2⟩
theorem hand_of {K : PySem.W.Frag} {H : Hp} {p q : Addr} {ps qs : List Addr} {kvs : List (Key × V)} {t : List (Str × List Str)} {rs : List (List (Str × Str))} (hp : TabIn K H p ps kvs t) (hq : BansIn K H q qs rs) : ∃ dF dR, isTab t dF ∧ isBans rs dR ∧ Hand K H t rs (.ref p) (.ref q) dF dR := by
  obtain ⟨dF, h1, h2⟩ := hp.dp
  obtain ⟨dR, h3, h4⟩ := hq.dp
  exact ⟨dF, dR, h1, h3, h2, h4, h1.ft, h3.fr, hq.rz h3⟩
end Q
set_option Elab.async false
set_option linter.all false
set_option maxRecDepth 100000
set_option maxHeartbeats 4000000
/-! ### data beside what changes -/
namespace Q
open PySem L2 XD
theorem cutV_to (xs : List V) (k : Nat) : cutV xs none (some (k : Int)) = xs.take k := by
  unfold cutV
  show ((xs.drop 0).take (HT.sIx xs.length xs.length (some (k : Int)) - 0)) = xs.take k
  rw [HT.sIx_nat, List.drop_zero, Nat.sub_zero, ← List.take_eq_take_min]
theorem cutV_from (xs : List V) (k : Nat) : cutV xs (some (k : Int)) none = xs.drop k := by
  unfold cutV
  show (xs.drop (HT.sIx xs.length 0 (some (k : Int)))).take (xs.length - HT.sIx xs.length 0 (some (k : Int))) = xs.drop k
  rw [HT.sIx_nat]
  by_cases h : k ≤ xs.length
  · rw [Nat.min_eq_left h, List.take_of_length_le (by rw [List.length_drop]; exact Nat.le_refl _)]
  · rw [Nat.min_eq_right (by omega), List.drop_length, List.drop_eq_nil_of_le (by omega), List.take_nil]
theorem cutV_last (xs : List V) : cutV xs none (some (-1)) = xs.dropLast := by
  unfold cutV
  show (xs.drop 0).take ((if (-1 : Int) < 0 then (-1 + (xs.length : Int)).toNat else min (-1 : Int).toNat xs.length) - 0) = xs.dropLast
  rw [if_pos (by decide), List.drop_zero, Nat.sub_zero, List.dropLast_eq_take]
  congr 1
  omega
/-- the heap without some addresses -/
def rmL (S : List Addr) (H : Hp) : Hp := fun b => if b ∈ S then none else H b
def Alive (S : List Addr) (H : Hp) : Prop := ∀ b ∈ S, H b ≠ none
theorem rm_at {S : List Addr} {H : Hp} {b : Addr} (h : b ∉ S) : rmL S H b = H b := if_neg h
theorem rm_of {S : List Addr} {H : Hp} {b : Addr} {o : HO} (h : rmL S H b = some o) : b ∉ S ∧ H b = some o := by
  unfold rmL at h
  by_cases e : b ∈ S
  · rw [if_pos e] at h
    cases h
  · rw [if_neg e] at h
    exact ⟨e, h⟩
theorem rm_le {S : List Addr} {H : Hp} : Same (rmL S H) H := fun b o e => (rm_of e).2
theorem rm_same {S : List Addr} {H H' : Hp} (s : Same H H') : Same (rmL S H) (rmL S H') := fun b o e => by
  rw [rm_at (rm_of e).1]
  exact s b o (rm_of e).2
theorem rm_kept {S : List Addr} {a : Addr} {H H' : Hp} (ha : a ∈ S) (s : Kept a H H') : Same (rmL S H) (rmL S H') := fun b o e => by
  rw [rm_at (rm_of e).1]
  exact s b o (fun z => (rm_of e).1 (z ▸ ha)) (rm_of e).2
theorem rm_sub {S S' : List Addr} {H : Hp} (h : ∀ b ∈ S, b ∈ S') : Same (rmL S' H) (rmL S H) := fun b o e => by
  rw [rm_at (fun z => (rm_of e).1 (h b z))]
  exact (rm_of e).2
theorem rm_put {S : List Addr} {D : Addr} {H : Hp} {o : HO} (hD : D ∈ S) : rmL S (upd H D o) = rmL S H := by
  funext b
  unfold rmL
  by_cases e : b ∈ S
  · rw [if_pos e, if_pos e]
  · have nb : b ≠ D := fun z => e (by rw [z]; exact hD)
    rw [if_neg e, if_neg e, upd_ne nb]
theorem rm_new {S : List Addr} {p : Addr} {H : Hp} {o : HO} (h : Alive S H) (hp : H p = none) : rmL S (upd H p o) p = some o := by
  rw [rm_at (fun z => h p z hp), upd_same]
theorem Alive.same {S : List Addr} {H H' : Hp} (h : Alive S H) (s : Same H H') : Alive S H' := fun b hb z => by
  cases e : H b with
  | none => exact h b hb e
  | some o =>
    rw [s b o e] at z
    cases z
theorem Alive.put {S : List Addr} {D : Addr} {H : Hp} {o : HO} (h : Alive S H) : Alive S (upd H D o) := fun b hb z => by
  by_cases e : b = D
  · rw [e, upd_same] at z
    cases z
  · rw [upd_ne e] at z
    exact h b hb z
/-- from a heap in which S stood not yet -/
theorem same_rm {S : List Addr} {H H' : Hp} (s : Same H H') (h : ∀ b ∈ S, H b = none) : Same H (rmL S H') := fun b o e => by
  rw [rm_at (fun z => by rw [h b z] at e; cases e)]
  exact s b o e
/-- v is a tuple of such data -/
def TD (K : PySem.W.Frag) (R : Hp) (v : V) (ds : List PyData) : Prop := ∃ (p : Addr) (xs : List V), v = .ref p ∧ SqT K R p xs ∧ DpAll K R xs ds
theorem TD.dp {K : PySem.W.Frag} {R : Hp} {v : V} {ds : List PyData} (h : TD K R v ds) : Dp K R v (.tuple ds) := by
  obtain ⟨p, xs, rfl, h1, h2⟩ := h
  exact .tup h1 h2
theorem TD.same {K : PySem.W.Frag} {R R' : Hp} {v : V} {ds : List PyData} (s : Same R R') (h : TD K R v ds) : TD K R' v ds := by
  obtain ⟨p, xs, e, h1, h2⟩ := h
  exact ⟨p, xs, e, seqT_same s h1, dps_same s h2⟩
theorem TD.of {K : PySem.W.Frag} {R : Hp} {v : V} {ds : List PyData} (h : Dp K R v (.tuple ds)) : TD K R v ds := by
  cases h with
  | tup a b => exact ⟨_, _, rfl, a, b⟩
theorem dps_app {K : PySem.W.Frag} {H : Hp} : ∀ {xs ys : List V} {ds es : List PyData}, DpAll K H xs ds → DpAll K H ys es → DpAll K H (xs ++ ys) (ds ++ es)
  | _, _, _, _, .nil, h => h
  | _, _, _, _, .cons a b, h => .cons a (dps_app b h)
theorem dps_take {K : PySem.W.Frag} {H : Hp} : ∀ {xs : List V} {ds : List PyData} (k : Nat), DpAll K H xs ds → DpAll K H (xs.take k) (ds.take k)
  | _, _, 0, _ => .nil
  | _, _, k + 1, .nil => .nil
  | _, _, k + 1, .cons a b => .cons a (dps_take k b)
theorem dps_drop {K : PySem.W.Frag} {H : Hp} : ∀ {xs : List V} {ds : List PyData} (k : Nat), DpAll K H xs ds → DpAll K H (xs.drop k) (ds.drop k)
  | _, _, 0, h => h
  | _, _, k + 1, .nil => .nil
  | _, _, k + 1, .cons a b => dps_drop k b
/-- t[:k], t[k:] -/
theorem to_td {K : PySem.W.Frag} {S : List Addr} {H : Hp} {v : V} {ds : List PyData} {k : Nat} {Q : VK} (A : Alive S H) (h : TD K (rmL S H) v ds) (kk : ∀ u H', Same H H' → TD K (rmL S H') u (ds.take k) → Q u H') : rSlA K v none (some (k : Int)) H Q := by
  obtain ⟨p, xs, rfl, h1, h2⟩ := h
  have hl := dps_len h2
  refine ⟨p, xs, rfl, seqT_same rm_le h1, fun hw => ?_, fun _ q hq => ?_⟩
  · refine kk _ H (Same.refl H) ⟨p, xs, rfl, h1, ?_⟩
    have : ds.take k = ds := List.take_of_length_le (by
      have h3 := hw.2
      rw [HT.sIx_nat] at h3
      omega)
    rw [this]
    exact h2
  · have s := new_same hq (.tup (cutV xs none (some (k : Int))))
    refine kk _ _ s ⟨q, xs.take k, rfl, .inl (.inl ?_), dps_same (rm_same s) (dps_take k h2)⟩
    rw [rm_new A hq, cutV_to]
theorem from_td {K : PySem.W.Frag} {S : List Addr} {H : Hp} {v : V} {ds : List PyData} {k : Nat} {Q : VK} (A : Alive S H) (h : TD K (rmL S H) v ds) (kk : ∀ u H', Same H H' → TD K (rmL S H') u (ds.drop k) → Q u H') : rSlA K v (some (k : Int)) none H Q := by
  obtain ⟨p, xs, rfl, h1, h2⟩ := h
  have hl := dps_len h2
  refine ⟨p, xs, rfl, seqT_same rm_le h1, fun hw => ?_, fun _ q hq => ?_⟩
  · refine kk _ H (Same.refl H) ⟨p, xs, rfl, h1, ?_⟩
    have h3 := hw.1
    rw [HT.sIx_nat] at h3
    by_cases z : k = 0
    · rw [z]
      exact h2
    · have : xs.length = 0 := by omega
      have e1 : xs = [] := List.eq_nil_of_length_eq_zero this
      have e2 : ds = [] := List.eq_nil_of_length_eq_zero (by omega)
      rw [e1, e2, List.drop_nil]
      exact .nil
  · have s := new_same hq (.tup (cutV xs (some (k : Int)) none))
    refine kk _ _ s ⟨q, xs.drop k, rfl, .inl (.inl ?_), dps_same (rm_same s) (dps_drop k h2)⟩
    rw [rm_new A hq, cutV_from]
/-- t + u -/
theorem cat_td {K : PySem.W.Frag} {S : List Addr} {H : Hp} {v u : V} {ds es : List PyData} {Q : VK} (A : Alive S H) (h : TD K (rmL S H) v ds) (h' : TD K (rmL S H) u es) (hl : ds.length + es.length ≤ 1000) (kk : ∀ u H', Same H H' → TD K (rmL S H') u (ds ++ es) → Q u H') : rCatA K v u H Q := by
  obtain ⟨p, xs, rfl, h1, h2⟩ := h
  obtain ⟨q, ys, rfl, h3, h4⟩ := h'
  have l1 := dps_len h2
  have l2 := dps_len h4
  refine ⟨p, q, xs, ys, rfl, rfl, seqT_same rm_le h1, seqT_same rm_le h3, le_line (by omega), fun e => ?_, fun e1 e2 => ?_, fun e1 e2 z hz => ?_⟩
  · refine kk _ H (Same.refl H) ⟨q, ys, rfl, h3, ?_⟩
    have : ds = [] := List.eq_nil_of_length_eq_zero (by rw [← l1, e] <;> rfl)
    rw [this]
    exact h4
  · refine kk _ H (Same.refl H) ⟨p, xs, rfl, h1, ?_⟩
    have : es = [] := List.eq_nil_of_length_eq_zero (by rw [← l2, e2] <;> rfl)
    rw [this, List.append_nil]
    exact h2
  · have s := new_same hz (.tup (xs ++ ys))
    exact kk _ _ s ⟨z, _, rfl, .inl (.inl (rm_new A hz)), dps_same (rm_same s) (dps_app h2 h4)⟩
/-- a written tuple -/
theorem tup_td {K : PySem.W.Frag} {S : List Addr} {H : Hp} {p : Addr} {o : Obj} {xs : List V} {ds : List PyData} (A : Alive S H) (hp : H p = none) (h : DpAll K (rmL S H) xs ds) : TD K (rmL S (upd H p (.frz o (.tup xs)))) (.ref p) ds :=
  ⟨p, xs, rfl, .inl (.inr ⟨o, rm_new A hp⟩), dps_same (rm_same (new_same hp _)) h⟩
theorem lst_dp {K : PySem.W.Frag} {S : List Addr} {H : Hp} {p : Addr} {xs : List V} {ds : List PyData} (A : Alive S H) (hp : H p = none) (h : DpAll K (rmL S H) xs ds) : Dp K (rmL S (upd H p (.lst xs))) (.ref p) (.list ds) :=
  .lst (SqL.of (rm_new A hp)) (dps_same (rm_same (new_same hp _)) h)
/-- a list of data with a property, beside S -/
structure PL (K : PySem.W.Frag) (S : List Addr) (P : PyData → Prop) (n : Nat) (D : Addr) (H : Hp) : Prop where
  ex : ∃ vs, H D = some (.lst vs) ∧ vs.length ≤ n ∧ ∀ v ∈ vs, ∃ d, Dp K (rmL S H) v d ∧ P d
theorem PL.same {K : PySem.W.Frag} {S : List Addr} {P : PyData → Prop} {n : Nat} {D : Addr} {H H' : Hp} (s : Same H H') (h : PL K S P n D H) : PL K S P n D H' := by
  obtain ⟨vs, h1, h2, h3⟩ := h.ex
  exact ⟨vs, s _ _ h1, h2, fun v hv => by obtain ⟨d, a, b⟩ := h3 v hv; exact ⟨d, dp_same (rm_same s) a, b⟩⟩
theorem PL.kept {K : PySem.W.Frag} {S : List Addr} {P : PyData → Prop} {n : Nat} {D a : Addr} {H H' : Hp} (ha : a ∈ S) (hD : D ≠ a) (s : Kept a H H') (h : PL K S P n D H) : PL K S P n D H' := by
  obtain ⟨vs, h1, h2, h3⟩ := h.ex
  exact ⟨vs, s _ _ hD h1, h2, fun v hv => by obtain ⟨d, x, b⟩ := h3 v hv; exact ⟨d, dp_same (rm_kept ha s) x, b⟩⟩
theorem PL.sub {K : PySem.W.Frag} {S S' : List Addr} {P : PyData → Prop} {n : Nat} {D : Addr} {H : Hp} (hs : ∀ b ∈ S, b ∈ S') (h : PL K S' P n D H) : PL K S P n D H := by
  obtain ⟨vs, h1, h2, h3⟩ := h.ex
  exact ⟨vs, h1, h2, fun v hv => by obtain ⟨d, a, b⟩ := h3 v hv; exact ⟨d, dp_same (rm_sub hs) a, b⟩⟩
theorem PL.imp {K : PySem.W.Frag} {S : List Addr} {P P' : PyData → Prop} {n m : Nat} {D : Addr} {H : Hp} (h : PL K S P n D H) (hp : ∀ d, P d → P' d) (hn : n ≤ m) : PL K S P' m D H := by
  obtain ⟨vs, h1, h2, h3⟩ := h.ex
  exact ⟨vs, h1, Nat.le_trans h2 hn, fun v hv => by obtain ⟨d, a, b⟩ := h3 v hv; exact ⟨d, a, hp d b⟩⟩
/-- a written list -/
theorem PL.new {K : PySem.W.Frag} {S : List Addr} {P : PyData → Prop} {D : Addr} {H : Hp} {vs : List V} {ds : List PyData} (hD : H D = none) (h : DpAll K (rmL S H) vs ds) (hp : ∀ d ∈ ds, P d) : PL K S P vs.length D (upd H D (.lst vs)) := by
  refine ⟨vs, upd_same, Nat.le_refl _, fun v hv => ?_⟩
  obtain ⟨i, hi, rfl⟩ := List.mem_iff_getElem.mp hv
  obtain ⟨d, h1, h2⟩ := dps_get h (List.getElem?_eq_getElem hi)
  exact ⟨d, dp_same (rm_same (new_same hD _)) h2, hp d (List.mem_of_getElem? h1)⟩
/-- the sum of two lists -/
theorem PL.cat {K : PySem.W.Frag} {S : List Addr} {P : PyData → Prop} {n m : Nat} {D E : Addr} {H : Hp} {Q : VK} (h : PL K S P n D H) (g : PL K S P m E H) (hl : n + m ≤ 1000) (k : ∀ z H', Same H H' → H z = none → PL K S P (n + m) z H' → Q (.ref z) H') : rCat (.ref D) (.ref E) H Q := by
  obtain ⟨vs, h1, h2, h3⟩ := h.ex
  obtain ⟨us, g1, g2, g3⟩ := g.ex
  refine ⟨D, E, vs, us, rfl, rfl, h1, g1, le_line (by omega), fun z hz => k z _ (new_same hz _) hz ⟨vs ++ us, upd_same, by rw [List.length_append]; omega, fun v hv => ?_⟩⟩
  have s := new_same hz (.lst (vs ++ us))
  rcases List.mem_append.mp hv with hv | hv
  · obtain ⟨d, a, b⟩ := h3 v hv
    exact ⟨d, dp_same (rm_same s) a, b⟩
  · obtain ⟨d, a, b⟩ := g3 v hv
    exact ⟨d, dp_same (rm_same s) a, b⟩
/-- .. which holds something -/
def NE (D : Addr) (H : Hp) : Prop := ∃ us : List V, H D = some (.lst us) ∧ 0 < us.length
theorem PL.catN {K : PySem.W.Frag} {S : List Addr} {P : PyData → Prop} {n m : Nat} {D E : Addr} {H : Hp} {us : List V} {Q : VK} (h : PL K S P n D H) (g : PL K S P m E H) (ge : H E = some (.lst us)) (gn : 0 < us.length) (hl : n + m ≤ 1000)
    (k : ∀ z H', Same H H' → H z = none → PL K S P (n + m) z H' → NE z H' → Q (.ref z) H') : rCat (.ref D) (.ref E) H Q := by
  obtain ⟨vs, h1, h2, h3⟩ := h.ex
  obtain ⟨us', g1, g2, g3⟩ := g.ex
  rw [ge] at g1
  cases g1
  refine ⟨D, E, vs, us, rfl, rfl, h1, ge, le_line (by omega), fun z hz => k z _ (new_same hz _) hz ⟨vs ++ us, upd_same, by rw [List.length_append]; omega, fun v hv => ?_⟩ ⟨_, upd_same, by rw [List.length_append]; omega⟩⟩
  have s := new_same hz (.lst (vs ++ us))
  rcases List.mem_append.mp hv with hv | hv
  · obtain ⟨d, a, b⟩ := h3 v hv
    exact ⟨d, dp_same (rm_same s) a, b⟩
  · obtain ⟨d, a, b⟩ := g3 v hv
    exact ⟨d, dp_same (rm_same s) a, b⟩
/-- one more, at the end of a list that is itself in S -/
theorem PL.put {K : PySem.W.Frag} {S : List Addr} {P : PyData → Prop} {n : Nat} {D : Addr} {H : Hp} {vs : List V} {v : V} {d : PyData} (hD : D ∈ S) (h : PL K S P n D H) (e : H D = some (.lst vs)) (hv : Dp K (rmL S H) v d) (hp : P d) : PL K S P (n + 1) D (upd H D (.lst (vs ++ [v]))) := by
  obtain ⟨us, h1, h2, h3⟩ := h.ex
  rw [e] at h1
  cases h1
  refine ⟨vs ++ [v], upd_same, by rw [List.length_append, List.length_singleton]; omega, fun u hu => ?_⟩
  rw [rm_put hD]
  rcases List.mem_append.mp hu with hu | hu
  · exact h3 u hu
  · rw [List.mem_singleton.mp hu]
    exact ⟨d, hv, hp⟩
/-! words turned to what is none -/
theorem az_iff {c : Nat} (h : az c = true) : 97 ≤ c ∧ c ≤ 122 := by
  unfold az at h
  rw [Bool.and_eq_true] at h
  have h1 : ¬ ([c] : List Nat) < ("a" : Str).cps.toList := by simpa using h.1
  have h2 : ¬ (("z" : Str).cps.toList < [c]) := by simpa using h.2
  refine ⟨Nat.le_of_not_lt fun z => h1 ?_, Nat.le_of_not_lt fun z => h2 ?_⟩
  · show ([c] : List Nat) < [97]
    exact List.cons_lt_cons_iff.mpr (.inl z)
  · show ([122] : List Nat) < [c]
    exact List.cons_lt_cons_iff.mpr (.inl z)
theorem not_word_of {s : Str} {c : Nat} (h : c ∈ tlx s) (hc : az c = false) : word s = false := by
  cases e : word s with
  | false => rfl
  | true =>
    have := List.all_eq_true.mp (word_iff.mp e).2.2 c h
    rw [hc] at this
    cases this
theorem not_word_long {s : Str} (h : 8 < s.length) : word s = false := by
  cases e : word s with
  | false => rfl
  | true =>
    have := word_len e
    omega
theorem upper_not {s : Str} (h : word s = true) : word (Txt.upper s) = false ∧ (Txt.upper s).length ≤ 24 := by
  obtain ⟨h1, h8, ha⟩ := word_iff.mp h
  refine ⟨?_, ?_⟩
  · obtain ⟨c, r, er⟩ : ∃ c r, tlx s = c :: r := by
      cases e : tlx s with
      | nil =>
        rw [e] at h1
        cases h1
      | cons c r => exact ⟨c, r, rfl⟩
    have hc : az c = true := List.all_eq_true.mp ha c (by rw [er]; exact List.mem_cons_self)
    obtain ⟨c1, c2⟩ := az_iff hc
    have es : s = (⟨#[c]⟩ : Str) ++ ⟨r.toArray⟩ := tlx_inj (by rw [tlx_app, er]; rfl)
    rw [es, PySem.W.KOpn.upper_app, PySem.W.KOpn.upper_one (by omega)]
    refine not_word_of (c := if 97 ≤ c ∧ c ≤ 122 then c - 32 else c) ?_ ?_
    · rw [tlx_app, tlx_one]
      exact List.mem_append_left _ (List.mem_singleton.mpr rfl)
    · rw [if_pos ⟨c1, c2⟩]
      cases e : az (c - 32) with
      | false => rfl
      | true =>
        have := az_iff e
        omega
  · have := PyProof.Rows.len_upper s
    have := word_len h
    omega
end Q
set_option Elab.async false
set_option linter.all false
set_option maxRecDepth 100000
set_option maxHeartbeats 4000000
/-! ### comprehensions that make lists of data; what wrong fields are -/
namespace Q
open PySem L2 XD
theorem same_in {S : List Addr} {D : Addr} {H H' : Hp} (hD : H D = none) (s : Same H H') : Same (rmL S H) (rmL (D :: S) H') := fun b o e => by
  obtain ⟨h1, h2⟩ := rm_of e
  rw [rm_at (fun z => by
    rcases List.mem_cons.mp z with z | z
    · rw [z, hD] at h2
      cases h2
    · exact h1 z)]
  exact s b o h2
theorem lc_pl {K : PySem.W.Frag} {S : List Addr} {P P' : PyData → Prop} {n i : Nat} {p : Addr} {t0 te : TE} {vs : List Nat} {σ : L2.St} {H : Hp} {Q : VK} (A : Alive S H) (ht : ∀ Q' : VK, Q' (.ref p) H → t0 σ H Q') (hp : PL K S P n p H) (hn : n ≤ 900)
    (hw : ∀ x, wipe ((wipe σ vs).set i (some x)) vs = wipe σ vs)
    (hs : ∀ (D : Addr) (x : V) (d : PyData) (H' : Hp) (Qc : VK), Alive (D :: S) H' → Same H H' → Same (rmL S H) (rmL (D :: S) H') → Dp K (rmL (D :: S) H') x d → P d → (∀ y H4 e, Same H' H4 → Dp K (rmL (D :: S) H4) y e → P' e → Qc y H4) → te ((wipe σ vs).set i (some x)) H' Qc)
    (hd : ∀ D H', H D = none → Same H H' → PL K (D :: S) P' n D H' → Q (.ref D) H') : tLc (iRow K t0) (gName i) tYes te vs σ H Q := by
  obtain ⟨us, e1, e2, e3⟩ := hp.ex
  refine lc_row (ys := us) (fun D j H' => ∃ zs, H' D = some (.lst zs) ∧ zs.length = j ∧ (∀ v ∈ zs, ∃ d, Dp K (rmL (D :: S) H') v d ∧ P' d) ∧ Same H H') ht (.inl (SqL.of e1)) (fun D hD => ⟨[], upd_same, rfl, fun v h => absurd h List.not_mem_nil, new_same hD _⟩) (fun D j H' hD hP => by obtain ⟨_, _, _, _, z⟩ := hP; exact z) (fun D j x H' hD hj hP hx => ?_) (fun D H' hD hP => ?_)
  · obtain ⟨zs, g1, g2, g3, g4⟩ := hP
    obtain ⟨d, hd1, hd2⟩ := e3 x (List.mem_of_getElem? hx)
    have AD : Alive (D :: S) H' := fun b hb => by
      rcases List.mem_cons.mp hb with rfl | hb
      · rw [g1]
        exact fun z => by cases z
      · exact A.same g4 b hb
    refine ⟨hw x, ?_⟩
    unfold tYes
    refine iteT ?_
    refine hs D x d H' _ AD g4 (same_in hD g4) (dp_same (same_in hD g4) hd1) hd2 fun y H4 e s4 h4 p4 => ⟨zs, s4 _ _ g1, small1000 (by omega), zs ++ [y], upd_same, by rw [List.length_append, g2] <;> rfl, fun v hv => ?_, fun b o z => ?_⟩
    · rw [rm_put List.mem_cons_self]
      rcases List.mem_append.mp hv with hv | hv
      · obtain ⟨d', a, b⟩ := g3 v hv
        exact ⟨d', dp_same (rm_same s4) a, b⟩
      · rw [List.mem_singleton.mp hv]
        exact ⟨e, h4, p4⟩
    · rw [upd_ne (ne_of_none z hD)]
      exact s4 _ _ (g4 _ _ z)
  · obtain ⟨zs, g1, g2, g3, g4⟩ := hP
    exact hd D H' hD g4 ⟨zs, g1, by omega, g3⟩
/-- the same over range(m), item by item -/
theorem lc_rng {K : PySem.W.Frag} {S : List Addr} {m i : Nat} {ta : TA} {te : TE} {vs : List Nat} {σ : L2.St} {H : Hp} {Q : VK} (es : List PyData) (A : Alive S H) (ht : ∀ Q' : List V → Hp → Prop, Q' [.int m] H → ta σ H Q') (hm : m ≤ 900) (he : es.length = m)
    (hw : ∀ x, wipe ((wipe σ vs).set i (some x)) vs = wipe σ vs)
    (hs : ∀ (D : Addr) (j : Nat) (e : PyData) (H' : Hp) (Qc : VK), es[j]? = some e → Alive (D :: S) H' → Same H H' → Same (rmL S H) (rmL (D :: S) H') → (∀ y H4, Same H' H4 → Dp K (rmL (D :: S) H4) y e → Qc y H4) → te ((wipe σ vs).set i (some (.int (j : Nat)))) H' Qc)
    (hd : ∀ D us H', H D = none → Same H H' → H' D = some (.lst us) → DpAll K (rmL (D :: S) H') us es → Q (.ref D) H') : tLc (iRng1 ta) (gName i) tYes te vs σ H Q := by
  refine ht _ ⟨_, rfl, ?_, ?_, fun D hD => ?_⟩
  · have : -(2 ^ 62 : Int) ≤ 0 := by decide
    omega
  · have : (1000 : Int) < 2 ^ 62 := by decide
    omega
  have em : ((m : Int)).toNat = m := by omega
  rw [em]
  refine lc_range (lo := 0) (n := m) (fun j H' => ∃ us, H' D = some (.lst us) ∧ DpAll K (rmL (D :: S) H') us (es.take j) ∧ Same H H') ⟨[], upd_same, .nil, new_same hD _⟩ (fun j H' hj hP => ?_) (fun H' hP => ?_)
  · obtain ⟨us, g1, g2, g4⟩ := hP
    have ee : es[j]? = some es[j] := List.getElem?_eq_getElem (by omega)
    have AD : Alive (D :: S) H' := fun b hb => by
      rcases List.mem_cons.mp hb with rfl | hb
      · rw [g1]
        exact fun z => by cases z
      · exact A.same g4 b hb
    have ex : (0 : Int) + (j : Int) = ((j : Nat) : Int) := by omega
    rw [ex]
    refine ⟨hw _, ?_⟩
    unfold tYes
    refine iteT ?_
    refine hs D j _ H' _ ee AD g4 (same_in hD g4) fun y H4 s4 h4 => ⟨us, s4 _ _ g1, small1000 ?_, us ++ [y], upd_same, ?_, fun b o z => ?_⟩
    · rw [dps_len g2, List.length_take]
      omega
    · rw [rm_put List.mem_cons_self, take_one ee]
      exact dps_snoc (dps_same (rm_same s4) g2) h4
    · rw [upd_ne (ne_of_none z hD)]
      exact s4 _ _ (g4 _ _ z)
  · obtain ⟨us, g1, g2, g4⟩ := hP
    rw [List.take_of_length_le (by omega)] at g2
    exact hd D us H' hD g4 g1 g2
theorem seqT_rm {K : PySem.W.Frag} {H : Hp} {a q : Addr} {xs ys : List V} (e : H a = some (.lst ys)) (h : SqT K H q xs) : SqT K (rmL [a] H) q xs := by
  have n1 : ∀ {o : HO}, H q = some o → (∀ l, o ≠ .lst l) → q ∉ [a] := fun e1 e2 z => by
    rw [List.mem_singleton.mp z, e] at e1
    exact e2 _ (Option.some.inj e1).symm
  rcases h with (h | ⟨o, h⟩) | h
  · exact .inl (.inl (by rw [rm_at (n1 h (by intro l z; cases z))]; exact h))
  · exact .inl (.inr ⟨o, by rw [rm_at (n1 h (by intro l z; cases z))]; exact h⟩)
  · exact .inr h
theorem tabR_rm {K : PySem.W.Frag} {H : Hp} {a : Addr} {ys : List V} (e : H a = some (.lst ys)) : ∀ {ps : List Addr} {kvs : List (Key × V)} {t : List (Str × List Str)}, TabR K H ps kvs t → TabR K (rmL [a] H) ps kvs t
  | _, _, _, .nil => .nil
  | _, _, _, .cons a b o c => .cons (seqT_rm e a) (seqT_rm e b) o (tabR_rm e c)
theorem Flw.alive {H : Hp} {a b : Addr} (F : Flw b H a) : Alive [a] H := fun x hx z => by
  rw [List.mem_singleton.mp hx] at z
  obtain ⟨xs, e⟩ := F.lst
  rw [e] at z
  cases z
theorem PL.enter {K : PySem.W.Frag} {S : List Addr} {P : PyData → Prop} {n : Nat} {D E : Addr} {H H' : Hp} (hD : H D = none) (s : Same H H') (h : PL K S P n E H) : PL K (D :: S) P n E H' := by
  obtain ⟨vs, h1, h2, h3⟩ := h.ex
  exact ⟨vs, s _ _ h1, h2, fun v hv => by obtain ⟨d, a, b⟩ := h3 v hv; exact ⟨d, dp_same (same_in hD s) a, b⟩⟩
theorem PL.leave {K : PySem.W.Frag} {S : List Addr} {P : PyData → Prop} {n : Nat} {D E : Addr} {H : Hp} (h : PL K (D :: S) P n E H) : PL K S P n E H := h.sub fun b hb => List.mem_cons_of_mem _ hb
theorem sl_listK {X : Cx} (K : PySem.W.Frag) (h : X.K = K) : SlR X (rSlL K) := by
  subst h
  exact sl_list
theorem sl_tupAK {X : Cx} (K : PySem.W.Frag) (h : X.K = K) : SlR X (rSlA K) := by
  subst h
  exact sl_tupA
theorem op_catAK {X : Cx} (K : PySem.W.Frag) (h : X.K = K) : OpR X (binaryOp .Add) (rCatA K) := by
  subst h
  exact op_catA
theorem op_notIn_seqK {X : Cx} (K : PySem.W.Frag) (h : X.K = K) : OpR X (compareOp .NotIn) (rIn K true) := by
  subst h
  exact op_notIn_seq
/-! what is wrong -/
def NW (d : PyData) : Prop := isWord d = false ∧ Short d
def FS (f : PyData) : Prop := ∀ a b, pairOf f = some (a, b) → Short a ∧ MShort b
def BF (f : PyData) : Prop := (fieldOk f = false ∨ isWord (firstOf f) = false) ∧ FS f
def BadT (d : PyData) : Prop := areFields d = false ∧ FShort d
theorem entry_fs {e : Str × List Str} (h1 : word e.1 = true) (h2 : ∀ x ∈ e.2, word x = true) : FS (entryD e) := fun a b h => by
  cases h
  refine ⟨short_word h1, fun ws ew x hx => ?_⟩
  cases ew
  obtain ⟨y, hy, rfl⟩ := List.mem_map.mp hx
  exact short_word (h2 y hy)
theorem bad_in {d f : PyData} {fs : List PyData} (e : rowOf d = some fs) (hf : f ∈ fs) (h : fieldOk f = false ∨ isWord (firstOf f) = false) : areFields d = false := by
  unfold areFields
  rw [e]
  show (decide (1 ≤ fs.length) && (decide (fs.length ≤ 6) && (fs.all fieldOk && unlike (fs.map firstOf)))) = false
  have : (fs.all fieldOk && unlike (fs.map firstOf)) = false := by
    rcases h with h | h
    · have : fs.all fieldOk = false := List.all_eq_false.mpr ⟨f, hf, by rw [h]; exact fun z => by cases z⟩
      rw [this, Bool.false_and]
    · have : unlike (fs.map firstOf) = false := by
        unfold unlike
        have : (fs.map firstOf).all isWord = false := List.all_eq_false.mpr ⟨firstOf f, List.mem_map.mpr ⟨f, hf, rfl⟩, by rw [h]; exact fun z => by cases z⟩
        rw [this, Bool.false_and]
      rw [this, Bool.and_false]
  rw [this, Bool.and_false, Bool.and_false]
theorem bad_norow {d : PyData} (e : rowOf d = none) : BadT d := by
  refine ⟨?_, fun fs h => by rw [e] at h; cases h⟩
  unfold areFields
  rw [e]
theorem bad_short {d : PyData} {fs : List PyData} (e : rowOf d = some fs) (h : ∀ f ∈ fs, FS f) : FShort d := fun gs eg f hf a b ep => by
  rw [e] at eg
  cases eg
  exact h f hf a b ep
/-- a field that is no pair -/
theorem bf_nopair {f : PyData} (h : pairOf f = none) : BF f := by
  refine ⟨.inl ?_, fun a b ep => by rw [h] at ep; cases ep⟩
  unfold fieldOk
  rw [h]
/-- a field whose name is none -/
theorem bf_name {x b : PyData} (h : NW x) (hb : MShort b) : BF (.tuple [x, b]) := by
  refine ⟨.inr ?_, fun a c ep => ?_⟩
  · exact h.1
  · cases ep
    exact ⟨h.2, hb⟩
/-- .. whose values are none -/
theorem bf_vals {n : Str} {b : PyData} (hn : word n = true) (h : areValues b = false) (hb : MShort b) : BF (.tuple [.str n, b]) := by
  refine ⟨.inl ?_, fun a c ep => ?_⟩
  · show areValues b = false
    exact h
  · cases ep
    exact ⟨short_word hn, hb⟩
theorem vals_in {b d : PyData} {ws : List PyData} (e : rowOf b = some ws) (hd : d ∈ ws) (h : isWord d = false) : areValues b = false := by
  unfold areValues
  rw [e]
  show (decide (1 ≤ ws.length) && (decide (ws.length ≤ 5) && unlike ws)) = false
  have : unlike ws = false := by
    unfold unlike
    have : ws.all isWord = false := List.all_eq_false.mpr ⟨d, hd, by rw [h]; exact fun z => by cases z⟩
    rw [this, Bool.false_and]
  rw [this, Bool.and_false, Bool.and_false]
theorem vals_norow {b : PyData} (e : rowOf b = none) : areValues b = false ∧ MShort b := by
  refine ⟨?_, fun ws h => by rw [e] at h; cases h⟩
  unfold areValues
  rw [e]
theorem mshort_of {b : PyData} {ws : List PyData} (e : rowOf b = some ws) (h : ∀ d ∈ ws, Short d) : MShort b := fun us eu d hd => by
  rw [e] at eu
  cases eu
  exact h d hd
end Q
set_option Elab.async false
set_option linter.all false
set_option maxRecDepth 100000
set_option maxHeartbeats 4000000
/-! ### what wrong rules are -/
namespace Q
open PySem L2 XD
def pairD (e : Str × Str) : PyData := .tuple [.str e.1, .str e.2]
theorem sqZ_rm {H : Hp} {a q : Addr} {xs ys : List V} (e : H a = some (.lst ys)) (h : SqZ H q xs) : SqZ (rmL [a] H) q xs := by
  obtain ⟨o, h, d⟩ := h
  refine ⟨o, ?_, d⟩
  rw [rm_at (fun z => by rw [List.mem_singleton.mp z, e] at h; cases h)]
  exact h
theorem prd_rm {K : PySem.W.Frag} {H : Hp} {a : Addr} {ys : List V} (e : H a = some (.lst ys)) : ∀ {qs : List Addr} {r : List (Str × Str)}, Paired (fun q (e : Str × Str) => SqT K H q [.str e.1, .str e.2]) qs r → Paired (fun q (e : Str × Str) => SqT K (rmL [a] H) q [.str e.1, .str e.2]) qs r
  | _, _, .nil => .nil
  | _, _, .cons x y => .cons (seqT_rm e x) (prd_rm e y)
theorem RuleAt.rm {K : PySem.W.Frag} {H : Hp} {a p : Addr} {ys : List V} {r : List (Str × Str)} (e : H a = some (.lst ys)) (h : RuleAt K H p r) : RuleAt K (rmL [a] H) p r := by
  obtain ⟨qs, h1, h2⟩ := h
  exact ⟨qs, sqZ_rm e h1, prd_rm e h2⟩
theorem rules_rm {K : PySem.W.Frag} {H : Hp} {a : Addr} {ys : List V} (e : H a = some (.lst ys)) : ∀ {qs : List Addr} {rs : List (List (Str × Str))}, Paired (RuleAt K H) qs rs → Paired (RuleAt K (rmL [a] H)) qs rs
  | _, _, .nil => .nil
  | _, _, .cons x y => .cons (x.rm e) (rules_rm e y)
theorem RuleAt.td {K : PySem.W.Frag} {H : Hp} {p : Addr} {r : List (Str × Str)} (h : RuleAt K H p r) : TD K H (.ref p) (r.map pairD) := TD.of h.dp
theorem PL.catIn {K : PySem.W.Frag} {S : List Addr} {P : PyData → Prop} {n m : Nat} {D E : Addr} {H : Hp} {Q : VK} (h : PL K S P n D H) (g : PL K S P m E H) (hl : n + m ≤ 1000) (k : ∀ z H', Same H H' → H z = none → PL K (z :: S) P (n + m) z H' → Q (.ref z) H') : rCat (.ref D) (.ref E) H Q := by
  obtain ⟨vs, h1, h2, h3⟩ := h.ex
  obtain ⟨us, g1, g2, g3⟩ := g.ex
  refine ⟨D, E, vs, us, rfl, rfl, h1, g1, le_line (by omega), fun z hz => k z _ (new_same hz _) hz ⟨vs ++ us, upd_same, by rw [List.length_append]; omega, fun v hv => ?_⟩⟩
  have s := same_in (S := S) hz (new_same hz (.lst (vs ++ us)))
  rcases List.mem_append.mp hv with hv | hv
  · obtain ⟨d, a, b⟩ := h3 v hv
    exact ⟨d, dp_same s a, b⟩
  · obtain ⟨d, a, b⟩ := g3 v hv
    exact ⟨d, dp_same s a, b⟩
/-! texts and shapes -/
theorem ok_of {s : Str} (h : ∀ c ∈ tlx s, c < 0x110000) : PyData.strOk s = true := by
  unfold PyData.strOk
  rw [← Array.all_toList]
  exact List.all_eq_true.mpr fun c hc => decide_eq_true (h c hc)
theorem word_small {n : Str} (h : word n = true) : ∀ c ∈ tlx n, c < 0x110000 := fun c hc => az_small (List.all_eq_true.mp (word_iff.mp h).2.2 c hc)
theorem ok_app {n m : Str} (h : ∀ c ∈ tlx n, c < 0x110000) (h' : ∀ c ∈ tlx m, c < 0x110000) : PyData.strOk (n ++ m) = true := ok_of fun c hc => by
  rw [tlx_app] at hc
  rcases List.mem_append.mp hc with hc | hc
  · exact h c hc
  · exact h' c hc
theorem upper_small : ∀ l : List Nat, l.all az = true → ∀ c ∈ tlx (Txt.upper ⟨l.toArray⟩), c < 0x110000
  | [], _ => fun c hc => by
    have : tlx (Txt.upper ⟨#[]⟩) = [] := by decide +kernel
    have h2 : c ∈ tlx (Txt.upper ⟨#[]⟩) := hc
    rw [this] at h2
    cases h2
  | x :: l, h => fun c hc => by
    rw [List.all_cons, Bool.and_eq_true] at h
    obtain ⟨c1, c2⟩ := az_iff h.1
    have es : (⟨(x :: l).toArray⟩ : Str) = (⟨#[x]⟩ : Str) ++ ⟨l.toArray⟩ := tlx_inj (by rw [tlx_app]; rfl)
    rw [es, PySem.W.KOpn.upper_app, PySem.W.KOpn.upper_one (by omega), tlx_app] at hc
    rcases List.mem_append.mp hc with hc | hc
    · rw [tlx_one] at hc
      rw [List.mem_singleton.mp hc]
      split <;> omega
    · exact upper_small l h.2 c hc
theorem upper_ok {n : Str} (h : word n = true) : PyData.strOk (Txt.upper n) = true := by
  have e : n = ⟨(tlx n).toArray⟩ := tlx_inj rfl
  refine ok_of ?_
  rw [e]
  exact upper_small _ (word_iff.mp h).2.2
theorem tup1_shaped {n : Str} (h : PyData.strOk n = true) : SeqAt.shaped (.tuple [.str n]) = true := by
  unfold SeqAt.shaped
  rw [Bool.and_eq_true]
  refine ⟨?_, decide_eq_true ?_⟩
  · simp only [PyData.canLay0, PyData.canLayAll0, Bool.and_true]
    exact h
  · simp [PyData.depth, PyData.depthAll]
def NO (d : PyData) : Prop := isWord d = false ∧ SeqAt.shaped d = true
/-! rules -/
def GS (f : PyData) : Prop := ∀ a b, pairOf f = some (a, b) → SeqAt.shaped b = true
theorem fok_of {d : PyData} {fs : List PyData} (e : rowOf d = some fs) (h : ∀ f ∈ fs, GS f) : FOk d := fun gs eg f hf a b ep => by
  rw [e] at eg
  cases eg
  exact h f hf a b ep
theorem gs_pair {e : Str × Str} (h : PyData.strOk e.2 = true) : GS (pairD e) := fun a b ep => by
  cases ep
  exact str_shaped h
theorem gs_two {x b : PyData} (h : SeqAt.shaped b = true) : GS (.tuple [x, b]) := fun a c ep => by
  cases ep
  exact h
theorem gs_none {f : PyData} (h : pairOf f = none) : GS f := fun a b ep => by
  rw [h] at ep
  cases ep
def BR (t : List (Str × List Str)) (d : PyData) : Prop := ruleOk t d = false ∧ FOk d
def BadB (t : List (Str × List Str)) (d : PyData) : Prop := areRules t d = false ∧ ROk d
section
variable {t : List (Str × List Str)}
theorem br_norow {d : PyData} (e : rowOf d = none) : BR t d := by
  refine ⟨?_, fun fs h => by rw [e] at h; cases h⟩
  unfold ruleOk
  rw [e]
theorem br_empty {d : PyData} (e : rowOf d = some []) : BR t d := by
  refine ⟨?_, fok_of e fun f h => absurd h List.not_mem_nil⟩
  unfold ruleOk
  rw [e]
  show (areFacts t d && (decide (1 ≤ ([] : List PyData).length) && _)) = false
  have : decide (1 ≤ ([] : List PyData).length) = false := rfl
  rw [this, Bool.false_and, Bool.and_false]
theorem br_go {d : PyData} {fs : List PyData} (e : rowOf d = some fs) (h : goFacts t [] fs = false) (g : ∀ f ∈ fs, GS f) : BR t d := by
  refine ⟨ruleOk_no ?_, fok_of e g⟩
  unfold areFacts
  rw [e]
  show (decide (fs.length ≤ t.length) && goFacts t [] fs) = false
  rw [h, Bool.and_false]
theorem go_name (T : TabOk t) {d b : PyData} {fs : List PyData} {seen : List Str} (h : isWord d = false) : goFacts t seen (.tuple [d, b] :: fs) = false := by
  cases es : isStr d with
  | false => exact go_nostr (a := d) (b := b) rfl es
  | true =>
    obtain ⟨n, rfl⟩ : ∃ n, d = .str n := by
      cases d <;> first | exact ⟨_, rfl⟩ | cases es
    refine go_new (n := n) (b := b) rfl ?_
    cases e : look n t with
    | none => rfl
    | some ws =>
      have := T.nm.2 n (List.mem_map.mpr ⟨_, look_mem e, rfl⟩)
      have h2 : word n = false := h
      rw [this] at h2
      cases h2
theorem go_strange {n : Str} {b : PyData} {fs : List PyData} {seen : List Str} (h : n ∉ t.map (·.1)) : goFacts t seen (.tuple [.str n, b] :: fs) = false := by
  refine go_new (n := n) (b := b) rfl ?_
  cases e : look n t with
  | none => rfl
  | some ws => exact absurd (List.mem_map.mpr ⟨_, look_mem e, rfl⟩) h
theorem go_value {n : Str} {d : PyData} {fs : List PyData} {seen : List Str} (h : ∀ ws, (n, ws) ∈ t → stands ws d = false) : goFacts t seen (.tuple [.str n, d] :: fs) = false := by
  cases e : look n t with
  | none => exact go_new (n := n) (b := d) rfl e
  | some ws =>
    rw [go_old (n := n) (b := d) rfl e, h ws (look_mem e), Bool.false_and, Bool.and_false]
theorem stands_no (T : TabOk t) {n : Str} {ws : List Str} {d : PyData} (h : (n, ws) ∈ t) (hd : isWord d = false) : stands ws d = false := by
  cases e : stands ws d with
  | false => rfl
  | true =>
    obtain ⟨w, rfl, hw⟩ := stands_str e
    have := (T.vs _ h).1.2 w hw
    have h2 : word w = false := hd
    rw [this] at h2
    cases h2
theorem go_nodup : ∀ {fs : List PyData} {seen : List Str}, goFacts t seen fs = true → ((fs.map factOf).map (·.1)).Nodup ∧ ∀ e ∈ fs.map factOf, e.1 ∉ seen
  | [], _, _ => ⟨List.nodup_nil, fun e h => absurd h List.not_mem_nil⟩
  | f :: fs, seen, h => by
    obtain ⟨n, w, ws, e1, e2, e3, e4, e5⟩ := go_cons h
    obtain ⟨i1, i2⟩ := go_nodup e5
    have ef : factOf f = (n, w) := by
      unfold factOf
      rw [e1]
    rw [List.map_cons, List.map_cons, ef, List.nodup_cons]
    refine ⟨⟨fun z => ?_, i1⟩, fun e he => ?_⟩
    · obtain ⟨e, he, z2⟩ := List.mem_map.mp z
      exact i2 e he (by rw [show e.1 = n from z2]; exact List.mem_cons_self)
    · rcases List.mem_cons.mp he with rfl | he
      · intro z
        have : seen.contains n = true := by simpa using z
        rw [this] at e4
        cases e4
      · exact fun z => i2 e he (List.mem_cons_of_mem _ z)
theorem facts_pairs (r : List (Str × Str)) : (r.map pairD).map factOf = r := by
  rw [List.map_map]
  exact List.map_id _
theorem go_twice {r : List (Str × Str)} {seen : List Str} (h : ¬ (r.map (·.1)).Nodup) : goFacts t seen (r.map pairD) = false := by
  cases e : goFacts t seen (r.map pairD) with
  | false => rfl
  | true =>
    have := (go_nodup e).1
    rw [facts_pairs] at this
    exact absurd this h
/-! lists of rules -/
theorem badB_norow {d : PyData} (e : rowOf d = none) : BadB t d := by
  refine ⟨?_, fun fs h => by rw [e] at h; cases h⟩
  unfold areRules
  rw [e]
theorem badB_in {d f : PyData} {fs : List PyData} (e : rowOf d = some fs) (hf : f ∈ fs) (h : ruleOk t f = false) (hs : ∀ f ∈ fs, FOk f) : BadB t d := by
  refine ⟨?_, fun gs eg f hf => by rw [e] at eg; cases eg; exact hs f hf⟩
  unfold areRules
  rw [e]
  show (decide (fs.length ≤ 20) && fs.all (ruleOk t)) = false
  have : fs.all (ruleOk t) = false := List.all_eq_false.mpr ⟨f, hf, by rw [h]; exact fun z => by cases z⟩
  rw [this, Bool.and_false]
theorem badB_many {d : PyData} {fs : List PyData} (e : rowOf d = some fs) (h : 20 < fs.length) (hs : ∀ f ∈ fs, FOk f) : BadB t d := by
  refine ⟨?_, fun gs eg f hf => by rw [e] at eg; cases eg; exact hs f hf⟩
  unfold areRules
  rw [e]
  show (decide (fs.length ≤ 20) && fs.all (ruleOk t)) = false
  rw [decide_eq_false (by omega : ¬ fs.length ≤ 20), Bool.false_and]
end
/-! seven words -/
def wds7 : List Str := (("abcdefg" : Str).cps.toList).map fun c => (⟨#[c]⟩ : Str) ++ "bcdefgi"
theorem wds7_nodup : wds7.Nodup := by decide +kernel
theorem wds7_len : wds7.length = 7 := by decide +kernel
theorem wds7_ok : ∀ x ∈ wds7, PyData.strOk x = true := by decide +kernel
theorem left_over {ns : List Str} (h : ns.length < 7) : ∃ x l, wds7.filter (fun w => !decide (w ∈ ns)) = x :: l ∧ x ∉ ns ∧ x ∈ wds7 := by
  cases e : wds7.filter (fun w => !decide (w ∈ ns)) with
  | nil =>
    exfalso
    have hs : wds7 ⊆ ns := fun x hx => by
      have := List.filter_eq_nil_iff.mp e x hx
      simpa using this
    have := List.Nodup.length_le_of_subset wds7_nodup hs
    rw [wds7_len] at this
    omega
  | cons x l =>
    have hx : x ∈ wds7.filter (fun w => !decide (w ∈ ns)) := by rw [e]; exact List.mem_cons_self
    rw [List.mem_filter] at hx
    exact ⟨x, l, rfl, by simpa using hx.2, hx.1⟩
theorem wds7_at {i c : Nat} (h : ("abcdefg" : Str).cps[i]? = some c) : wds7[i]? = some ((⟨#[c]⟩ : Str) ++ "bcdefgi") := by
  unfold wds7
  rw [List.getElem?_map, Array.getElem?_toList, h]
  rfl
theorem wds7_all : wds7.take ("abcdefg" : Str).cps.size = wds7 := List.take_of_length_le (by rw [wds7_len]; decide)
/-- the seven, with nothing to unfold -/
theorem w7_ex : ∃ w7 : List Str, (∀ (i c : Nat), ("abcdefg" : Str).cps[i]? = some c → w7[i]? = some ((⟨#[c]⟩ : Str) ++ "bcdefgi")) ∧ w7.take ("abcdefg" : Str).cps.size = w7 ∧ w7.length = 7 ∧ (∀ x ∈ w7, PyData.strOk x = true) ∧
    ∀ ns : List Str, ns.length < 7 → ∃ x l, w7.filter (fun w => !decide (w ∈ ns)) = x :: l ∧ x ∉ ns ∧ x ∈ w7 :=
  ⟨wds7, fun _ _ h => wds7_at h, wds7_all, wds7_len, wds7_ok, fun _ h => left_over h⟩
end Q
set_option Elab.async false
set_option linter.all false
set_option maxRecDepth 100000
set_option maxHeartbeats 4000000
/-! ### written data -/
namespace Q
open PySem L2 XD
/-- the expression makes such data, beside S -/
def MkD (K : PySem.W.Frag) (S : List Addr) (H0 : Hp) (σ : L2.St) (te : TE) (d : PyData) : Prop := ∀ H (Q : VK), Same H0 H → (∀ v H', Same H H' → Dp K (rmL S H') v d → Q v H') → te σ H Q
def MkL (K : PySem.W.Frag) (S : List Addr) (H0 : Hp) (σ : L2.St) (ta : TA) (ds : List PyData) : Prop := ∀ H (Q : List V → Hp → Prop), Same H0 H → (∀ vs H', Same H H' → DpAll K (rmL S H') vs ds → Q vs H') → ta σ H Q
section
variable {K : PySem.W.Frag} {S : List Addr} {H0 : Hp} {σ : L2.St}
theorem mk_var {i : Nat} {v : V} {d : PyData} (e : σ[i]? = some (some v)) (h : Dp K (rmL S H0) v d) : MkD K S H0 σ (tVar i) d := fun H Q s k => ⟨v, e, k v H (Same.refl H) (dp_same (rm_same s) h)⟩
theorem mk_str (x : Str) : MkD K S H0 σ (tC (.str x)) (.str x) := fun H Q s k => k _ H (Same.refl H) (.str x)
theorem mk_int (x : Int) : MkD K S H0 σ (tC (.int x)) (.int x) := fun H Q s k => k _ H (Same.refl H) (.int x)
theorem mk_bl (x : Bool) : MkD K S H0 σ (tC (.bl x)) (.bool x) := fun H Q s k => k _ H (Same.refl H) (.bl x)
theorem mk_non : MkD K S H0 σ (tC .non) .none := fun H Q s k => k _ H (Same.refl H) .non
theorem mkl_nil : MkL K S H0 σ tNil [] := fun H Q s k => k [] H (Same.refl H) .nil
theorem mkl_cons {te : TE} {ta : TA} {d : PyData} {ds : List PyData} (h : MkD K S H0 σ te d) (g : MkL K S H0 σ ta ds) : MkL K S H0 σ (tCons te ta) (d :: ds) := fun H Q s k =>
  h H _ s fun v H1 s1 hv => g H1 _ (s.trans s1) fun vs H2 s2 hvs => k (v :: vs) H2 (s1.trans s2) (.cons (dp_same (rm_same s2) hv) hvs)
theorem mk_tup {ta : TA} {ds : List PyData} (A : Alive S H0) (hl : Nat.ble ds.length 1000 = true) (h : MkL K S H0 σ ta ds) : MkD K S H0 σ (tTupZ ta) (.tuple ds) := fun H Q s k =>
  h H _ s fun vs H1 s1 hvs => ⟨le_line (by rw [dps_len hvs]; exact Nat.le_of_ble_eq_true hl), fun p o hp _ => k _ _ (s1.trans (new_same hp _)) (TD.dp (tup_td (A.same (s.trans s1)) hp hvs))⟩
theorem mk_lst {ta : TA} {ds : List PyData} (A : Alive S H0) (hl : Nat.ble ds.length 1000 = true) (h : MkL K S H0 σ ta ds) : MkD K S H0 σ (tLst ta) (.list ds) := fun H Q s k =>
  h H _ s fun vs H1 s1 hvs => ⟨le_line (by rw [dps_len hvs]; exact Nat.le_of_ble_eq_true hl), fun p hp => k _ _ (s1.trans (new_same hp _)) (lst_dp (A.same (s.trans s1)) hp hvs)⟩
theorem mk_up {te : TE} {x : Str} (h : ∀ H (Q : VK), Same H0 H → (∀ H', Same H H' → Q (.str x) H') → te σ H Q) (hl : x.length ≤ 1000) : MkD K S H0 σ (tM0 (fun x xs H Q => ∃ a, x = .str a ∧ xs = [] ∧ a.length ≤ 5592405 ∧ Q (.str (Txt.upper a)) H) te) (.str (Txt.upper x)) := fun H Q s k =>
  h H _ s fun H' s1 => ⟨⟨_, rfl⟩, _, rfl, rfl, Nat.le_trans hl (by decide), k _ H' s1 (.str _)⟩
theorem mk_ix {i : Nat} {v : Addr} {xs : List V} {x : V} {d : PyData} {z : Int} (e : σ[i]? = some (some (.ref v))) (h : SqT K H0 v xs) (hx : atI xs z = some x) (hd : Dp K (rmL S H0) x d) : MkD K S H0 σ (tOp (rBoth K) (tVar i) (tC (.int z))) d := fun H Q s k =>
  ⟨_, e, ix_row (.inr (seqT_same s h)) hx (k _ H (Same.refl H) (dp_same (rm_same s) hd))⟩
end
theorem asg_lst {ta : TA} {u : TS} {D : Ends} {σ : L2.St} {H : Hp} {i : Nat} (h : ta σ H fun xs H1 => xs.length ≤ sizeLine ∧ ∀ p, H1 p = none → u D (σ.set i (some (.ref p))) (L2.upd H1 p (.lst xs))) : tSeq (tAsg (tLst ta) (gName i)) u D σ H := h
theorem asg_cat {te : TE} {ta : TA} {u : TS} {D : Ends} {σ : L2.St} {H : Hp} {i : Nat} (h : te σ H fun x H1 => ta σ H1 fun xs H2 => xs.length ≤ sizeLine ∧ ∀ p, H2 p = none → rCat x (.ref p) (L2.upd H2 p (.lst xs)) fun v H3 => u D (σ.set i (some v)) H3) : tSeq (tAsg (tOp rCat te (tLst ta)) (gName i)) u D σ H := h
theorem ret_cat {te : TE} {ta : TA} {D : Ends} {σ : L2.St} {H : Hp} (h : te σ H fun x H1 => ta σ H1 fun xs H2 => xs.length ≤ sizeLine ∧ ∀ p, H2 p = none → rCat x (.ref p) (L2.upd H2 p (.lst xs)) D.rt) : tRet (tOp rCat te (tLst ta)) D σ H := h
theorem rm_nil {H : Hp} : rmL [] H = H := by
  funext b
  unfold rmL
  rw [if_neg List.not_mem_nil]
end Q
set_option Elab.async false
set_option linter.all false
set_option maxRecDepth 100000
set_option maxHeartbeats 4000000
/-! A dict comprehension whose keys are tuples of ints and texts. -/
namespace XK
open PySem PySem.Spec PyProof.Rows L2
/-- one entry more, its key a tuple -/
theorem put_tup {X : Cx} {pins : List (Addr × Obj)} {σ : L2.St} {H : Hp} {s : Shared} {E : Value → Shared → Prop} {D b : Addr} {es : List (List Key × V)} {k : List Key} {v : V} {u r : Value} {Q : Unit → Shared → Prop}
    (hu : X.A.units < cLine) (I : Inv X pins σ H s) (hD : H D = some (.dT es)) (hb : H b = some (.tup (k.map kV))) (hz : es.length < sizeLine) (ru : RelV (.ref b) u) (rv : RelV v r)
    (next : ∀ s1, Inv X pins σ (upd H D (.dT (putK es k v))) s1 → Q () s1) : wpAny (model X.prog X.w) X.A (dictSet D u r) Q E s := by
  cases (show u = Value.ref b from ru)
  obtain ⟨z, nsys, xs, rel, dd⟩ := dt_of I.hok hD
  have small : xs.length ≤ sizeLine := by
    rw [← Paired.length rel]
    exact z
  have grown : (putK es k v).length ≤ sizeLine := Nat.le_trans (length_putK es k v) hz
  refine wpAny_dictSet_heap (hsz := small) hu (key_of I.hok hb) dd fun h1 d1 but => next _ ?_
  obtain ⟨q, l1, l2, e1, e2, e3, e4, _, e5⟩ := d1
  refine d_write I (by rw [hD]; exact True.intro) but ⟨q, e1⟩ ⟨grown, nsys, _, (rel.put k hb rv).keeps fun c ys ec => ?_, q, l1, l2, e1, e2, e3, e4, e5⟩
  have other : c ≠ D := ne_of ec hD (fun z => nomatch z)
  rw [upd_ne other]
  exact ec
section
variable {X : Cx}
/-- how {k: v for target in iter if ..} reads -/
def tDcT (wi : TI) (g : TG) (tt : TT) (tk tv : TE) (own : List Nat) : TE := fun σ H Q =>
  wi σ H fun J H1 => ∀ D, H1 D = none →
    ∃ W : Nat → Nat → Hp → Prop, (∃ m, W 0 m (upd H1 D (.dT []))) ∧ ∀ i m H, W i m H →
      (J.stop i H ∧ Q (.ref D) H) ∨
      (J.go i H ∧ ∃ Nx : Hp → Prop, (∀ H', Nx H' → ∃ m', m' < m ∧ W (i + 1) m' H') ∧
        ∀ x H', J.yld i H x H' → g x (wipe σ own) H' fun σ2 H2 => wipe σ2 own = wipe σ own ∧
          tt σ2 H2 fun b H3 => if b = true then
              tk σ2 H3 fun y H4 => tv σ2 H4 fun z H5 => ∃ es k p, y = .ref p ∧ H5 p = some (.tup (k.map kV)) ∧ H5 D = some (.dT es) ∧ es.length < sizeLine ∧ Nx (upd H5 D (.dT (putK es k z)))
            else Nx H3)
theorem dcT_run {pins : List (Addr × Obj)} {s : Shared} {σ : L2.St} {H : Hp} {Q : VK} {ke ve tg iter : Expr} {ifs : List Expr} {scope : Scope} {own : List (Str × Nat)} {pos pos2 : Pos} {wi : TI} {g : TG} {tt : TT} {tk tv : TE}
    {use : Option (Value → Sem Unit)} {Qf : Value → Shared → Prop} (hu : X.A.units < cLine) (calm : X.calm = true) (hN : X.N.Nodup) (I : Inv X pins σ H s) (hi : PI X tg iter wi) (ok : BlkOk X.N X.env.scope scope own)
    (hg : ∀ (s : Shared) (H : Hp) (C : Addr) (cl : List (Str × Addr)) (fp : List Addr), PG (X.blk s H scope (compEnvC scope cl C X.env) fp) tg g)
    (ht : ∀ (s : Shared) (H : Hp) (C : Addr) (cl : List (Str × Addr)) (fp : List Addr), PTs (X.blk s H scope (compEnvC scope cl C X.env) fp) ifs tt)
    (hk : ∀ (s : Shared) (H : Hp) (C : Addr) (cl : List (Str × Addr)) (fp : List Addr), PE (X.blk s H scope (compEnvC scope cl C X.env) fp) ke tk)
    (hv : ∀ (s : Shared) (H : Hp) (C : Addr) (cl : List (Str × Addr)) (fp : List Addr), PE (X.blk s H scope (compEnvC scope cl C X.env) fp) ve tv)
    (hs : ∀ x, foldedSetIterable iter X.env x = pure x) (h : tDcT wi g tt tk tv (own.map (·.2)) σ H Q)
    (fin : ∀ D C s2 m H2, Inv X pins σ H2 s2 → Q (.ref D) H2 → s2.heap.Ns C m → FpOk X pins H2 C → compPost (model X.prog X.w) X.A X.xe use Qf (.ref D) C (.ok .next) s2) :
    wpAny (model X.prog X.w) X.A (comprehension (.DictComp ke ve [⟨tg, iter, ifs, 0⟩] scope pos) scope X.env pos2 newDict false (eval iter X.env) use) Qf X.xe s := by
  have frees : ∀ y ∈ scope.names, y.2 = .free → ∃ c, X.env.cells.lookup y.1 = some c := fun y hy e =>
    (ok.free y hy e).elim (fun k => I.ok.has _ (.inl k)) (fun k => I.ok.has _ (.inr k))
  refine wpAny_comprehension_free (use := use) rfl hs (closure_ok frees) ok.kind (fun y hy e => by rw [ok.uniq y hy, e])
    (thn (hi.run pins s σ H _ I h) fun xv s1 hx => thn hx fun itv s2 h2 => ?_)
  obtain ⟨it, fp, tn, J, H2, rfl, I2, T, st2, f2, q⟩ := h2
  refine wpAny_newObj_type (newEnv_comp ?_)
  generalize hD : s2.heap.objs.size = D
  have nD : H2 D = none := I2.hok.fresh (Nat.le_of_eq hD)
  obtain ⟨W, ⟨m0, w0⟩, turn⟩ := q D nD
  generalize hs3 : ({ s2 with heap := s2.heap.push { cls := .type "dict", data := .dict #[] } } : Shared) = s3
  have h3 : s3.heap = s2.heap.push { cls := .type "dict", data := .dict #[] } := by
    rw [← hs3]
  have I3 : Inv X pins σ (upd H2 D (.dT [])) s3 := by
    rw [← hs3]
    refine I2.laid (t' := s2.toks) (fun b o e => Heap.get?_push_of_some _ e) (Nat.le_of_eq hD) ?_
    rw [← hD]
    exact dt_empty s2.heap I2.big
  have lt2 : ∀ b ∈ fp, b < s2.heap.objs.size := fun b hb =>
    (T.obj _ _ st2 b hb).elim fun o e => Heap.lt_size e.1
  have f3 : ∀ b ∈ fp, FpOk X pins (upd H2 D (.dT [])) b ∧ b < s3.heap.objs.size := by
    intro b hb
    have lt := lt2 b hb
    refine ⟨⟨?_, (f2 b hb).2⟩, by rw [h3, Heap.size_push]; exact Nat.lt_succ_of_lt lt⟩
    rw [upd_ne (by rw [← hD]; exact Nat.ne_of_lt lt)]
    exact (f2 b hb).1
  have st3 : tn 0 s3.heap := T.keep _ _ _ st2 fun b _ o e => by
    rw [h3]
    exact Heap.get?_push_of_some _ e
  have I4 := block_start I3 ok hN f3
  have pg := hg s3 (upd H2 D (.dT [])) s3.heap.objs.size (cellsFrom (s3.heap.objs.size + 1) scope.names (cloFrom X.env.cells scope.names [])) fp
  have pt := ht s3 (upd H2 D (.dT [])) s3.heap.objs.size (cellsFrom (s3.heap.objs.size + 1) scope.names (cloFrom X.env.cells scope.names [])) fp
  have pk := hk s3 (upd H2 D (.dT [])) s3.heap.objs.size (cellsFrom (s3.heap.objs.size + 1) scope.names (cloFrom X.env.cells scope.names [])) fp
  have pv := hv s3 (upd H2 D (.dT [])) s3.heap.objs.size (cellsFrom (s3.heap.objs.size + 1) scope.names (cloFrom X.env.cells scope.names [])) fp
  show codeAny _ _ (.compStart (.DictComp ke ve [⟨tg, iter, ifs, 0⟩] scope pos) 0 (.ref it) (.ref D) (compEnvC scope (cellsFrom (s3.heap.objs.size + 1) scope.names (cloFrom X.env.cells scope.names [])) s3.heap.objs.size X.env))
    (compPost (model X.prog X.w) X.A X.xe use Qf (.ref D) s3.heap.objs.size) { s3 with heap := pushCells (s3.heap.push { cls := .type "dict", data := .dict #[] }) scope.names }
  have nfp : ∀ b ∈ fp, (upd H2 D (.dT [])) b = none := fun b hb => (f3 b hb).1.1
  generalize hce : compEnvC scope (cellsFrom (s3.heap.objs.size + 1) scope.names (cloFrom X.env.cells scope.names [])) s3.heap.objs.size X.env = ce at I4 pg pt pk pv ⊢
  have cL : ce.locals = s3.heap.objs.size := by
    subst hce
    rfl
  generalize hH3 : upd H2 D (.dT []) = H3 at I3 I4 pg pt pk pv w0 nfp f3
  generalize hs4 : ({ s3 with heap := pushCells (s3.heap.push { cls := .type "dict", data := .dict #[] }) scope.names } : Shared) = s4 at I4 ⊢
  have st4 : tn 0 s4.heap := T.keep _ _ _ st3 fun b _ o e => by
    rw [← hs4]
    exact pushCells_keeps _ _ _ _ (Heap.get?_push_of_some _ e)
  have stat : ∀ {σ' : L2.St} {H' : Hp} {s' : Shared}, Inv (X.blk s3 H3 scope ce fp) [] σ' H' s' → (∀ b ∈ fp, H' b = none) → ∀ b ∈ fp, FpOk (X.blk s3 H3 scope ce fp) [] H' b := by
    intro σ' H' s' Z hn b hb
    exact ⟨hn b hb, (Z.ok.exf b hb).1, Z.ok.exfs b hb, .inl hb, fun x c e => (Z.ok.exf b hb).2 x c e, fun p hp => absurd (show p ∈ ([] : List (Addr × Obj)) ++ [] from hp) (by simp)⟩
  have loop : codeAny (model X.prog X.w) X.A (.compLoop (.DictComp ke ve [⟨tg, iter, ifs, 0⟩] scope pos) 0 (.ref it) (.ref D) ce) (compPost (model X.prog X.w) X.A X.xe use Qf (.ref D) s3.heap.objs.size) s4 := by
    refine compLoop_anyD (fun n s' => ∃ i H', Inv (X.blk s3 H3 scope ce fp) [] (wipe σ (own.map (·.2))) H' s' ∧ tn i s'.heap ∧ (∀ b ∈ fp, H' b = none) ∧ W i n H') ?_ m0 ⟨0, H3, I4, st4, nfp, w0⟩
    rintro n s5 ⟨i, H5, J5, st5, n5, w5⟩
    rcases turn i n H5 w5 with ⟨stop, qq⟩ | ⟨go, Nx, hNx, step⟩
    · refine thnF (T.done (X.blk s3 H3 scope ce fp) rfl rfl rfl calm i [] s5 _ H5 (fun _ _ => False) J5 (stat J5 n5) st5 stop) fun r s6 ⟨hr, J6⟩ => ?_
      subst hr
      have J7 : Inv X pins σ H5 s6 := I3.call' (ch := fp) J6.os J6.base J6.hok J6.bare fun b hb =>
        ⟨(f3 b hb).1.2.2.2.1, (f3 b hb).1.2.1, (f3 b hb).1.2.2.2.2.1, (f3 b hb).1.2.2.2.2.2⟩
      have nC : H5 s3.heap.objs.size = none := by
        have z : H5 ce.locals = none := J6.free
        rwa [cL] at z
      obtain ⟨m, hn, _⟩ := J6.loc
      have hn2 : s6.heap.Ns ce.locals m := hn
      rw [cL] at hn2
      exact fin D s3.heap.objs.size s6 m H5 J7 qq hn2 (I3.fpOk (Nat.le_refl _) nC)
    · refine thnF (T.item (X.blk s3 H3 scope ce fp) rfl rfl rfl calm i [] s5 _ H5 (fun _ _ => False) J5 (stat J5 n5) st5 go) fun r s6 ⟨u, hr, h6⟩ => ?_
      subst hr
      refine thnF h6 fun _ s7 ⟨x, H7, J7, r7, y7, st7, n7⟩ => ?_
      have K7 := J7.pinned (stat J7 n7) (T.obj _ _ st7)
      refine thnF (pg.run _ s7 _ H7 x u _ K7 r7 (step x H7 y7)) fun _ s8 ⟨σ8, H8, J8, hw8, q8⟩ => ?_
      refine thnF (pt.run _ s8 σ8 H8 _ J8 q8) fun b s9 ⟨H9, J9, q9⟩ => ?_
      have back : ∀ {s' : Shared} {H' : Hp}, Inv (X.blk s3 H3 scope ce fp) ([] ++ pinsAt fp s7.heap) σ8 H' s' → Nx H' →
          ∃ m, m < n ∧ ∃ i H', Inv (X.blk s3 H3 scope ce fp) [] (wipe σ (own.map (·.2))) H' s' ∧ tn i s'.heap ∧ (∀ b ∈ fp, H' b = none) ∧ W i m H' := by
        intro s' H' Z nx
        obtain ⟨m', hm, w'⟩ := hNx H' nx
        have stands : ∀ b ∈ fp, ∀ o, s7.heap.get? b = some o → s'.heap.get? b = some o ∧ H' b = none := fun b hb o e =>
          let z := Z.pin (b, o) (List.mem_append_right _ (List.mem_append_right _ (mem_pinsAt hb e)))
          ⟨z.1, z.2.1⟩
        have hl : (wipe σ (own.map (·.2))).length = σ8.length := by
          rw [← hw8, wipe_length]
        refine ⟨m', hm, i + 1, H', (Z.unpinned (pins := [])).weak hl (fun j v e => ?_), T.keep _ _ _ st7 fun b hb o e => (stands b hb o e).1, fun b hb => ?_, w'⟩
        · rw [← hw8] at e
          exact (wipe_some e).1
        · obtain ⟨o, e, _⟩ := T.obj _ _ st7 b hb
          exact (stands b hb o e).2
      cases b with
      | false =>
        simp only [Bool.false_eq_true, if_false] at q9 ⊢
        exact back J9 q9
      | true =>
        simp only [if_true] at q9 ⊢
        refine thnF (pk.run _ s9 σ8 H9 _ J9 q9) fun z s10 ⟨yk, H10, J10, r10, q10⟩ => ?_
        refine thnF (pv.run _ s10 σ8 H10 _ J10 q10) fun z2 s11 ⟨yv, H11, J11, r11, es, k, p, ey, hp11, hD11, hz11, nx⟩ => ?_
        subst ey
        exact put_tup (X := X.blk s3 H3 scope ce fp) hu J11 hD11 hp11 hz11 r10 r11 fun s12 J12 => back J12 nx
  exact codeAny_compStart_dict loop (T.self X.A 0 _ _ _ st4 loop)
theorem pe_dcT {ke ve tg iter : Expr} {ifs : List Expr} {scope : Scope} {own : List (Str × Nat)} {pos : Pos} {wi : TI} {g : TG} {tt : TT} {tk tv : TE} (hu : X.A.units < cLine) (calm : X.calm = true) (hN : X.N.Nodup) (hi : PI X tg iter wi) (ok : BlkOk X.N X.env.scope scope own)
    (hg : ∀ (s : Shared) (H : Hp) (C : Addr) (cl : List (Str × Addr)) (fp : List Addr), PG (X.blk s H scope (compEnvC scope cl C X.env) fp) tg g)
    (ht : ∀ (s : Shared) (H : Hp) (C : Addr) (cl : List (Str × Addr)) (fp : List Addr), PTs (X.blk s H scope (compEnvC scope cl C X.env) fp) ifs tt)
    (hk : ∀ (s : Shared) (H : Hp) (C : Addr) (cl : List (Str × Addr)) (fp : List Addr), PE (X.blk s H scope (compEnvC scope cl C X.env) fp) ke tk)
    (hv : ∀ (s : Shared) (H : Hp) (C : Addr) (cl : List (Str × Addr)) (fp : List Addr), PE (X.blk s H scope (compEnvC scope cl C X.env) fp) ve tv)
    (hs : ∀ x, foldedSetIterable iter X.env x = pure x := by intro _; rfl) : PE X (.DictComp ke ve [⟨tg, iter, ifs, 0⟩] scope pos) (tDcT wi g tt tk tv (own.map (·.2))) := by
  constructor
  intro pins s σ H Q I h
  rw [arm_eval_DictComp]
  refine dcT_run hu calm hN I hi ok hg ht hk hv hs h fun D C s2 m H2 I2 q hn f => ⟨m, hn, fun h3 sb => ?_⟩
  obtain ⟨f0, f1, f2, f3, f4, f5⟩ := f
  exact ⟨.ref D, H2, I2.turned (t' := s2.toks) (fun b o hb e => (sb.2 b hb).trans e) f0 f1 f3 f4 f5, rfl, q⟩
end
end XK
set_option Elab.async false
set_option linter.all false
set_option maxRecDepth 100000
set_option maxHeartbeats 4000000
/-! ### comprehensions by what their items are -/
namespace Q
open PySem L2 XD
/-- x in a tuple of data -/
def rInT (K : PySem.W.Frag) (neg : Bool) : R2 := fun x y H Q => ∃ (p : Addr) (ys : List V) (ds : List PyData) (d : PyData), y = .ref p ∧ SqT K H p ys ∧ DpAll K H ys ds ∧ PyData.canLayAll0 ds = true ∧ Dp K H x d ∧ SeqAt.shaped d = true ∧
  Q (.bl (if neg = true then !ds.any (fun z => PyData.eqv z d) else ds.any fun z => PyData.eqv z d)) H
theorem op_inT {X : Cx} (hu : X.A.units + 65 < cLine) : OpR X (compareOp .In) (rInT X.K false) := by
  intro pins s σ H x y v u Q I rx ry h
  obtain ⟨p, ys, ds, d, rfl, hq, ha, lay, hd, sd, q⟩ := h
  cases ry
  obtain ⟨bs, r1⟩ := Dp.reads I d x v hd rx
  obtain ⟨its, rv, pl, hz⟩ := I.tuple hq
  obtain ⟨as, r2⟩ := Dp.readsAll I ds _ its ha rv
  have r3 : ReadsAll s.heap its.toArray.toList ds as := by simpa using r2
  refine SeqAt.in_tupleAt _ pl (SeqAt.items_eqAt r3 r1 lay (SeqAt.canLay_of_shaped sd) (PyProof.Rows.room_in_shaped sd hu)) ⟨.bl _, H, I, rfl, ?_⟩
  rw [SeqAt.any_by_data r3 lay]
  exact q
theorem op_notInT {X : Cx} (hu : X.A.units + 65 < cLine) : OpR X (compareOp .NotIn) (rInT X.K true) := by
  intro pins s σ H x y v u Q I rx ry h
  obtain ⟨p, ys, ds, d, rfl, hq, ha, lay, hd, sd, q⟩ := h
  cases ry
  obtain ⟨bs, r1⟩ := Dp.reads I d x v hd rx
  obtain ⟨its, rv, pl, hz⟩ := I.tuple hq
  obtain ⟨as, r2⟩ := Dp.readsAll I ds _ its ha rv
  have r3 : ReadsAll s.heap its.toArray.toList ds as := by simpa using r2
  refine SeqAt.notIn_tupleAt _ pl (SeqAt.items_eqAt r3 r1 lay (SeqAt.canLay_of_shaped sd) (PyProof.Rows.room_in_shaped sd hu)) ⟨.bl _, H, I, rfl, ?_⟩
  rw [SeqAt.any_by_data r3 lay]
  exact q
theorem op_eqDK {X : Cx} (K : PySem.W.Frag) (h : X.K = K) (hu : X.A.units + 64 < cLine) : OpR X (compareOp .Eq) (rEqD K) := by
  subst h
  exact op_eqD hu
theorem op_inTK {X : Cx} (K : PySem.W.Frag) (h : X.K = K) (hu : X.A.units + 65 < cLine) : OpR X (compareOp .In) (rInT K false) := by
  subst h
  exact op_inT hu
theorem op_notInTK {X : Cx} (K : PySem.W.Frag) (h : X.K = K) (hu : X.A.units + 65 < cLine) : OpR X (compareOp .NotIn) (rInT K true) := by
  subst h
  exact op_notInT hu
theorem alive_of {D : Addr} {H : Hp} {xs : List V} (e : H D = some (.lst xs)) : Alive [D] H := fun b hb => by
  rw [List.mem_singleton.mp hb, e]
  exact fun z => by cases z
theorem same_rm1 {D : Addr} {H H' : Hp} (hD : H D = none) (s : Same H H') : Same H (rmL [D] H') := same_rm s fun b hb => by rw [List.mem_singleton.mp hb]; exact hD
theorem range_filter {n : Nat} {sel : Nat → Bool} : (List.range (n + 1)).filter sel = (List.range n).filter sel ++ if sel n = true then [n] else [] := by
  rw [List.range_succ, List.filter_append]
  congr 1
  by_cases h : sel n = true
  · rw [if_pos h, List.filter_cons_of_pos h] <;> rfl
  · rw [if_neg h, List.filter_cons_of_neg h] <;> rfl
theorem prd_imp {α β : Type} {R R' : α → β → Prop} (h : ∀ x y, R x y → R' x y) : ∀ {xs : List α} {ys : List β}, Paired R xs ys → Paired R' xs ys
  | _, _, .nil => .nil
  | _, _, .cons a b => .cons (h _ _ a) (prd_imp h b)
/-- the comprehension over a list or a tuple: P tells an item by its turn, in the heap without the new list -/
theorem lc_g {K : PySem.W.Frag} {p : Addr} {ys : List V} {t0 : TE} {g : TG} {tt : TT} {te : TE} {vs : List Nat} {σ : L2.St} {H : Hp} {Q : VK} (P : Nat → V → Hp → Prop) (sel : Nat → Bool)
    (mono : ∀ i v R R', Same R R' → P i v R → P i v R') (ht : ∀ Q' : VK, Q' (.ref p) H → t0 σ H Q') (hq : SqL K H p ys ∨ SqT K H p ys) (hl : ys.length ≤ 1000)
    (turn : ∀ (D : Addr) (i : Nat) (x : V) (H' : Hp) (yes : VK) (no : Hp → Prop), Alive [D] H' → Same H H' → Same H (rmL [D] H') → ys[i]? = some x →
      (sel i = true → ∀ y H4, Same H' H4 → P i y (rmL [D] H4) → yes y H4) → (sel i = false → ∀ H4, Same H' H4 → no H4) →
      g x (wipe σ vs) H' fun σ2 H2 => wipe σ2 vs = wipe σ vs ∧ tt σ2 H2 fun b H3 => if b = true then te σ2 H3 yes else no H3)
    (hd : ∀ D H' zs, H D = none → Same H H' → H' D = some (.lst zs) → Paired (fun z i => P i z (rmL [D] H')) zs ((List.range ys.length).filter sel) → Q (.ref D) H') : tLc (iRow K t0) g tt te vs σ H Q := by
  refine lc_row (ys := ys) (fun D i H' => ∃ zs, H' D = some (.lst zs) ∧ Paired (fun z i => P i z (rmL [D] H')) zs ((List.range i).filter sel) ∧ Same H H') ht hq (fun D hD => ⟨[], upd_same, .nil, new_same hD _⟩) (fun D i H' _ hP => by obtain ⟨_, _, _, z⟩ := hP; exact z) (fun D i x H' hD hi hP hx => ?_) (fun D H' hD hP => ?_)
  · obtain ⟨zs, g1, g2, g3⟩ := hP
    refine turn D i x H' _ _ (alive_of g1) g3 (same_rm1 hD g3) hx (fun hs y H4 s4 hy => ⟨zs, s4 _ _ g1, small1000 ?_, zs ++ [y], upd_same, ?_, fun b o z => ?_⟩) (fun hs H4 s4 => ⟨zs, s4 _ _ g1, ?_, g3.trans s4⟩)
    · rw [prd_len g2]
      refine Nat.le_trans (List.length_filter_le _ _) ?_
      rw [List.length_range]
      omega
    · rw [rm_put (List.mem_singleton.mpr rfl), range_filter, if_pos hs]
      exact prd_snoc (prd_imp (fun z i h => mono i z _ _ (rm_same s4) h) g2) hy
    · rw [upd_ne (ne_of_none z hD)]
      exact s4 _ _ (g3 _ _ z)
    · rw [range_filter, if_neg (by rw [hs]; exact Bool.false_ne_true), List.append_nil]
      exact prd_imp (fun z i h => mono i z _ _ (rm_same s4) h) g2
  · obtain ⟨zs, g1, g2, g3⟩ := hP
    exact hd D H' zs hD g3 g1 g2
def pairsTo (n m : Nat) (sel : Nat → Nat → Bool) (i : Nat) : List (Nat × Nat) := ((List.range m).filter (sel i)).map fun j => (i, j)
def gridTo (n m : Nat) (sel : Nat → Nat → Bool) : List (Nat × Nat) := (List.range n).flatMap (pairsTo n m sel)
theorem grid_next {n m : Nat} {sel : Nat → Nat → Bool} : gridTo (n + 1) m sel = gridTo n m sel ++ pairsTo n m sel n := by
  unfold gridTo
  rw [List.range_succ, List.flatMap_append, List.flatMap_cons, List.flatMap_nil, List.append_nil]
  rfl
/-- one for in another one -/
theorem lc_g2 {K : PySem.W.Frag} {p q : Addr} {ys us : List V} {t0 t1 : TE} {g g1 : TG} {tt1 : TT} {te : TE} {vs vs1 : List Nat} {σ : L2.St} {H : Hp} {Q : VK} (P : Nat × Nat → V → Hp → Prop) (sel : Nat → Nat → Bool)
    (mono : ∀ i v R R', Same R R' → P i v R → P i v R') (ht : ∀ Q' : VK, Q' (.ref p) H → t0 σ H Q') (hq : SqL K H p ys ∨ SqT K H p ys) (hu : SqL K H q us ∨ SqT K H q us) (hl : (gridTo ys.length us.length sel).length ≤ 1000)
    (turn : ∀ (D : Addr) (i : Nat) (x : V) (H' : Hp), Alive [D] H' → Same H H' → Same H (rmL [D] H') → ys[i]? = some x → ∀ rest : L2.St → Hp → Prop,
      (∀ σ2, wipe σ2 vs = wipe σ vs → (∀ R : VK, R (.ref q) H' → t1 σ2 H' R) →
        (∀ (j : Nat) (u : V) (H3 : Hp) (yes : VK) (no : Hp → Prop), Alive [D] H3 → Same H H3 → Same H (rmL [D] H3) → us[j]? = some u →
          (sel i j = true → ∀ y H4, Same H3 H4 → P (i, j) y (rmL [D] H4) → yes y H4) → (sel i j = false → ∀ H4, Same H3 H4 → no H4) →
          g1 u (wipe σ2 vs1) H3 fun σ3 H5 => wipe σ3 vs1 = wipe σ2 vs1 ∧ tt1 σ3 H5 fun b H6 => if b = true then te σ3 H6 yes else no H6) → rest σ2 H') → g x (wipe σ vs) H' rest)
    (hd : ∀ D H' zs, H D = none → Same H H' → H' D = some (.lst zs) → Paired (fun z i => P i z (rmL [D] H')) zs (gridTo ys.length us.length sel) → Q (.ref D) H') : tLc2 (iRow K t0) g tYes (iRow K t1) g1 tt1 te vs vs1 σ H Q := by
  -- the state ahead of turn i, within it ahead of turn j
  let Pv : Addr → Nat → Hp → Prop := fun D i H' => ∃ zs, H' D = some (.lst zs) ∧ Paired (fun z i => P i z (rmL [D] H')) zs (gridTo i us.length sel) ∧ Same H H'
  let Pw : Addr → Nat → Nat → Hp → Prop := fun D i j H' => ∃ zs, H' D = some (.lst zs) ∧ Paired (fun z i => P i z (rmL [D] H')) zs (gridTo i us.length sel ++ ((List.range j).filter (sel i)).map fun j => (i, j)) ∧ Same H H'
  have all : ∀ {J : It} {G : Hp → Prop}, (walk : Walk J ys.length G (YAt ys)) → (∀ H', Same H H' → G H') → ∀ D, H D = none → ∃ W : Nat → Nat → Hp → Prop, (∃ m, W 0 m (upd H D (.lst []))) ∧ ∀ i m H, W i m H →
      (J.stop i H ∧ Q (.ref D) H) ∨ (J.go i H ∧ ∃ Nx : Hp → Prop, (∀ H', Nx H' → ∃ m', m' < m ∧ W (i + 1) m' H') ∧ ∀ x H', J.yld i H x H' → g x (wipe σ vs) H' fun σ2 H2 => wipe σ2 vs = wipe σ vs ∧ tYes σ2 H2 fun b H3 =>
        if b = true then (iRow K t1) σ2 H3 fun J1 H4 => ∃ W1 : Nat → Nat → Hp → Prop, (∃ m, W1 0 m H4) ∧ ∀ j k H, W1 j k H →
          (J1.stop j H ∧ Nx H) ∨ (J1.go j H ∧ ∃ Nx1 : Hp → Prop, (∀ H', Nx1 H' → ∃ k', k' < k ∧ W1 (j + 1) k' H') ∧ ∀ x H', J1.yld j H x H' → g1 x (wipe σ2 vs1) H' fun σ3 H5 => wipe σ3 vs1 = wipe σ2 vs1 ∧ tt1 σ3 H5 fun b H6 =>
            if b = true then te σ3 H6 fun y H7 => ∃ acc, H7 D = some (.lst acc) ∧ acc.length < sizeLine ∧ Nx1 (upd H7 D (.lst (acc ++ [y]))) else Nx1 H6)
        else Nx H3) := by
    intro J G walk hG D hD
    refine ⟨fun i m H' => m = ys.length - i ∧ i ≤ ys.length ∧ Pv D i H', ⟨ys.length, by simp, Nat.zero_le _, [], upd_same, .nil, new_same hD _⟩, ?_⟩
    rintro i m H' ⟨rfl, hi, zs, g2, g3, g4⟩
    by_cases hlt : i < ys.length
    · refine .inr ⟨walk.goes i H' hlt (hG H' g4), Pv D (i + 1), fun H5 p' => ⟨ys.length - (i + 1), by omega, rfl, hlt, p'⟩, fun x H5 y => ?_⟩
      obtain ⟨rfl, hx⟩ := walk.yields i H' x H5 hlt (hG H' g4) y
      refine turn D i x _ (alive_of g2) g4 (same_rm1 hD g4) hx _ fun σ2 hw ht1 step => ⟨hw, ?_⟩
      unfold tYes
      refine iteT ?_
      have inner : ∀ {J1 : It} {G1 : Hp → Prop}, (walk1 : Walk J1 us.length G1 (YAt us)) → (∀ H', Same H H' → G1 H') → ∃ W1 : Nat → Nat → Hp → Prop, (∃ m, W1 0 m H5) ∧ ∀ j k H, W1 j k H →
          (J1.stop j H ∧ Pv D (i + 1) H) ∨ (J1.go j H ∧ ∃ Nx1 : Hp → Prop, (∀ H', Nx1 H' → ∃ k', k' < k ∧ W1 (j + 1) k' H') ∧ ∀ x H', J1.yld j H x H' → g1 x (wipe σ2 vs1) H' fun σ3 H5 => wipe σ3 vs1 = wipe σ2 vs1 ∧ tt1 σ3 H5 fun b H6 =>
            if b = true then te σ3 H6 fun y H7 => ∃ acc, H7 D = some (.lst acc) ∧ acc.length < sizeLine ∧ Nx1 (upd H7 D (.lst (acc ++ [y]))) else Nx1 H6) := by
        intro J1 G1 walk1 hG1
        refine ⟨fun j k H' => k = us.length - j ∧ j ≤ us.length ∧ Pw D i j H', ⟨us.length, by simp, Nat.zero_le _, zs, g2, ?_, g4⟩, ?_⟩
        · show Paired _ zs (gridTo i us.length sel ++ [])
          rw [List.append_nil]
          exact g3
        rintro j k H6 ⟨rfl, hj, zs6, k2, k3, k4⟩
        by_cases hjt : j < us.length
        · refine .inr ⟨walk1.goes j H6 hjt (hG1 H6 k4), Pw D i (j + 1), fun H7 p' => ⟨us.length - (j + 1), by omega, rfl, hjt, p'⟩, fun u H7 y => ?_⟩
          obtain ⟨rfl, hu7⟩ := walk1.yields j H6 u H7 hjt (hG1 H6 k4) y
          have len : zs6.length < 1000 ∨ sel i j = false := by
            by_cases hs : sel i j = true
            · left
              have e : (gridTo i us.length sel ++ ((List.range j).filter (sel i)).map fun j => (i, j)).length < (gridTo ys.length us.length sel).length := by
                have big : ∀ n, i < n → (gridTo (i + 1) us.length sel).length ≤ (gridTo n us.length sel).length := by
                  intro n hn
                  induction n with
                  | zero => omega
                  | succ n ih =>
                    by_cases e : i = n
                    · rw [e]
                      exact Nat.le_refl _
                    · refine Nat.le_trans (ih (by omega)) ?_
                      rw [grid_next, List.length_append]
                      omega
                refine Nat.lt_of_lt_of_le ?_ (big _ hlt)
                rw [grid_next, List.length_append, List.length_append, List.length_map]
                unfold pairsTo
                rw [List.length_map]
                have more : ∀ n, j < n → ((List.range j).filter (sel i)).length < ((List.range n).filter (sel i)).length := by
                  intro n hn
                  induction n with
                  | zero => omega
                  | succ n ih =>
                    rw [range_filter, List.length_append]
                    by_cases e : j = n
                    · rw [← e, if_pos hs, List.length_singleton]
                      omega
                    · have := ih (by omega)
                      omega
                have := more _ hjt
                omega
              rw [prd_len k3]
              omega
            · right
              rw [← Bool.not_eq_true]
              exact hs
          refine step j u _ _ _ (alive_of k2) k4 (same_rm1 hD k4) hu7 (fun hs y H8 s8 hy => ⟨zs6, s8 _ _ k2, small1000 ?_, zs6 ++ [y], upd_same, ?_, fun b o z => ?_⟩) (fun hs H8 s8 => ⟨zs6, s8 _ _ k2, ?_, k4.trans s8⟩)
          · rcases len with h | h
            · omega
            · rw [hs] at h
              cases h
          · rw [rm_put (List.mem_singleton.mpr rfl), range_filter, if_pos hs, List.map_append, ← List.append_assoc]
            exact prd_snoc (prd_imp (fun z i h => mono i z _ _ (rm_same s8) h) k3) hy
          · rw [upd_ne (ne_of_none z hD)]
            exact s8 _ _ (k4 _ _ z)
          · rw [range_filter, if_neg (by rw [hs]; exact Bool.false_ne_true), List.append_nil]
            exact prd_imp (fun z i h => mono i z _ _ (rm_same s8) h) k3
        · have e : j = us.length := by omega
          subst e
          refine .inl ⟨walk1.stops H6 (hG1 H6 k4), zs6, k2, ?_, k4⟩
          rw [grid_next]
          exact k3
      rcases hu with hu | hu
      · exact .inl (ht1 _ ⟨q, rfl, ⟨us, g4.seq hu⟩, inner walk_list (fun H' s => s.seq hu)⟩)
      · exact .inr (ht1 _ ⟨q, rfl, ⟨us, seqT_same g4 hu⟩, inner walk_tup (fun H' s => seqT_same s hu)⟩)
    · have e : i = ys.length := by omega
      subst e
      exact .inl ⟨walk.stops H' (hG H' g4), hd D H' zs hD g4 g2 g3⟩
  rcases hq with hq | hq
  · exact .inl (ht _ ⟨p, rfl, ⟨ys, hq⟩, all walk_list (fun H' s => s.seq hq)⟩)
  · exact .inr (ht _ ⟨p, rfl, ⟨ys, hq⟩, all walk_tup (fun H' s => seqT_same s hq)⟩)
end Q
set_option Elab.async false
set_option linter.all false
set_option maxRecDepth 100000
set_option maxHeartbeats 4000000
/-! ### fillings, what they are -/
namespace Q
open PySem L2 XD
abbrev Pr := Str × Str
abbrev Tbl := List (Str × List Str)
def endsIn (p : Pr) (r : List Pr) : Bool := decide (r.getLast? = some p)
def barsOf (rs : List (List Pr)) (p : Pr) : List (List Pr) := (rs.filter (endsIn p)).map List.dropLast
def within (l row : List Pr) : Bool := l.all fun p => decide (p ∈ row)
def oneStands (ls : List (List Pr)) (row : List Pr) : Bool := ls.any fun l => within l row
def letV (f : List Pr) (n v : Str) : Bool := decide ((pick n f).getD v = v)
def prsOf (f : List Pr) (e : Str × List Str) : List Pr := (e.2.filter (letV f e.1)).map fun v => (e.1, v)
def longer (rs : List (List Pr)) (f : List Pr) (rows : List (List Pr)) (e : Str × List Str) : List (List Pr) := rows.flatMap fun row => ((prsOf f e).filter fun p => !oneStands (barsOf rs p) row).map fun p => row ++ [p]
def fills (rs : List (List Pr)) (f : List Pr) (t : Tbl) : List (List Pr) := t.foldl (longer rs f) [[]]
/-- all choices -/
def wider (rows : List (List Pr)) (e : Str × List Str) : List (List Pr) := rows.flatMap fun row => e.2.map fun v => row ++ [(e.1, v)]
def chs (t : Tbl) : List (List Pr) := t.foldl wider [[]]
def okRow (rs : List (List Pr)) (f row : List Pr) : Bool := (row.all fun p => letV f p.1 p.2) && rs.all fun r => !within r row
/-- a rule in the sequence of the fields -/
def RSeq (t : Tbl) (r : List Pr) : Prop := r ≠ [] ∧ (r.map (·.1)).Sublist (t.map (·.1))
theorem within_iff {l row : List Pr} : within l row = true ↔ ∀ p ∈ l, p ∈ row := by
  unfold within
  rw [List.all_eq_true]
  exact ⟨fun h p hp => of_decide_eq_true (h p hp), fun h p hp => decide_eq_true (h p hp)⟩
theorem ends_split {t1 : Tbl} {e : Str × List Str} {t2 : Tbl} (nd : ((t1 ++ e :: t2).map (·.1)).Nodup) {r row : List Pr} {p : Pr} (hr : RSeq (t1 ++ e :: t2) r) (hn : row.map (·.1) = t1.map (·.1)) (hp : p.1 = e.1) (hw : ∀ q ∈ r, q ∈ row ++ [p]) :
    (∀ q ∈ r, q ∈ row) ∨ (r.getLast? = some p ∧ ∀ q ∈ r.dropLast, q ∈ row) := by
  obtain ⟨h0, hs⟩ := hr
  rw [List.map_append, List.map_cons] at hs nd
  obtain ⟨a, b, eab, ha, hb⟩ := List.sublist_append_iff.mp hs
  have nd1 := List.nodup_append.mp nd
  have nd2 := List.nodup_cons.mp nd1.2.1
  have names : ∀ q ∈ r, q.1 ∈ t1.map (·.1) ∨ q.1 = e.1 := fun q hq => by
    rcases List.mem_append.mp (hw q hq) with h | h
    · left
      rw [← hn]
      exact List.mem_map.mpr ⟨q, h, rfl⟩
    · right
      rw [List.mem_singleton.mp h]
      exact hp
  have inrow : ∀ q ∈ r, q.1 ∈ t1.map (·.1) → q ∈ row := fun q hq h => by
    rcases List.mem_append.mp (hw q hq) with h2 | h2
    · exact h2
    · rw [List.mem_singleton.mp h2, hp] at h
      exact absurd rfl (nd1.2.2 _ h _ List.mem_cons_self)
  have hbn : ∀ x ∈ b, x = e.1 := fun x hx => by
    have : x ∈ r.map (·.1) := by rw [eab]; exact List.mem_append_right _ hx
    obtain ⟨q, hq, rfl⟩ := List.mem_map.mp this
    rcases names q hq with h | h
    · exact absurd rfl (nd1.2.2 _ h _ (hb.subset hx))
    · exact h
  have hb1 : b = [] ∨ b = [e.1] := by
    have ndb : b.Nodup := hb.nodup nd1.2.1
    match b, hbn, ndb with
    | [], _, _ => exact .inl rfl
    | [x], h, _ => exact .inr (by rw [h x List.mem_cons_self])
    | x :: y :: l, h, n =>
      have e1 := h x List.mem_cons_self
      have e2 := h y (List.mem_cons_of_mem _ List.mem_cons_self)
      rw [e1, e2] at n
      exact absurd List.mem_cons_self (List.nodup_cons.mp n).1
  rcases hb1 with rfl | rfl
  · left
    intro q hq
    refine inrow q hq (ha.subset ?_)
    rw [← List.append_nil a, ← eab]
    exact List.mem_map.mpr ⟨q, hq, rfl⟩
  · right
    obtain ⟨r1, r2, er, e1, e2⟩ := List.map_eq_append_iff.mp eab
    obtain ⟨q, rfl, e3⟩ : ∃ q, r2 = [q] ∧ q.1 = e.1 := by
      cases r2 with
      | nil => cases e2
      | cons q l =>
        rw [List.map_cons] at e2
        have e4 := List.cons.inj e2
        have e5 : l = [] := List.map_eq_nil_iff.mp e4.2
        rw [e5]
        exact ⟨q, rfl, e4.1⟩
    have hq : q ∈ row ++ [p] := hw q (by rw [er]; exact List.mem_append_right _ (List.mem_singleton.mpr rfl))
    have eq : q = p := by
      rcases List.mem_append.mp hq with h | h
      · have : q.1 ∈ t1.map (·.1) := by rw [← hn]; exact List.mem_map.mpr ⟨q, h, rfl⟩
        rw [e3] at this
        exact absurd rfl (nd1.2.2 _ this _ List.mem_cons_self)
      · exact List.mem_singleton.mp h
    subst eq
    refine ⟨by rw [er, List.getLast?_append]; rfl, fun x hx => ?_⟩
    rw [er, List.dropLast_concat] at hx
    refine inrow x (by rw [er]; exact List.mem_append_left _ hx) (ha.subset ?_)
    rw [← e1]
    exact List.mem_map.mpr ⟨x, hx, rfl⟩
theorem last_back {r : List Pr} {p : Pr} (h : r.getLast? = some p) : r = r.dropLast ++ [p] := by
  have hne : r ≠ [] := fun z => by rw [z] at h; cases h
  have := List.dropLast_concat_getLast hne
  rw [List.getLast?_eq_some_getLast hne] at h
  rw [← Option.some.inj h]
  exact this.symm
theorem okRow_snoc {t1 : Tbl} {e : Str × List Str} {t2 : Tbl} (nd : ((t1 ++ e :: t2).map (·.1)).Nodup) {rs : List (List Pr)} {f row : List Pr} {p : Pr} (hr : ∀ r ∈ rs, RSeq (t1 ++ e :: t2) r) (hn : row.map (·.1) = t1.map (·.1)) (hp : p.1 = e.1) :
    okRow rs f (row ++ [p]) = (okRow rs f row && (letV f p.1 p.2 && !oneStands (barsOf rs p) row)) := by
  rw [Bool.eq_iff_iff]
  unfold okRow
  simp only [Bool.and_eq_true, List.all_eq_true, List.all_append, List.all_cons, List.all_nil, Bool.and_true, Bool.not_eq_true']
  have no : ∀ {l m : List Pr}, within l m = false ↔ ¬ ∀ x ∈ l, x ∈ m := fun {l m} => by
    rw [← within_iff, Bool.not_eq_true]
  constructor
  · rintro ⟨⟨h1, h2⟩, h3⟩
    refine ⟨⟨h1, fun r hm => no.mpr fun z => (no.mp (h3 r hm)) fun x hx => List.mem_append_left _ (z x hx)⟩, h2, ?_⟩
    unfold oneStands barsOf
    rw [List.any_eq_false]
    intro l hl
    obtain ⟨r, hm, rfl⟩ := List.mem_map.mp hl
    obtain ⟨hm, he⟩ := List.mem_filter.mp hm
    have he := of_decide_eq_true he
    rw [Bool.not_eq_true, no]
    intro z
    refine (no.mp (h3 r hm)) fun x hx => ?_
    rw [last_back he] at hx
    rcases List.mem_append.mp hx with hx | hx
    · exact List.mem_append_left _ (z x hx)
    · exact List.mem_append_right _ hx
  · rintro ⟨⟨h1, h3⟩, h2, h4⟩
    refine ⟨⟨h1, h2⟩, fun r hm => no.mpr fun z => ?_⟩
    rcases ends_split nd (hr r hm) hn hp z with h | ⟨h, g⟩
    · exact no.mp (h3 r hm) h
    · unfold oneStands barsOf at h4
      rw [List.any_eq_false] at h4
      have := h4 r.dropLast (List.mem_map.mpr ⟨r, List.mem_filter.mpr ⟨hm, decide_eq_true h⟩, rfl⟩)
      rw [Bool.not_eq_true, no] at this
      exact this g
theorem chs_names : ∀ (t1 : Tbl) (rows : List (List Pr)) (ns : List Str), (∀ row ∈ rows, row.map (·.1) = ns) → ∀ row ∈ t1.foldl wider rows, row.map (·.1) = ns ++ t1.map (·.1)
  | [], rows, ns, h => fun row hr => by rw [List.map_nil, List.append_nil]; exact h row hr
  | e :: t1, rows, ns, h => fun row hr => by
    have := chs_names t1 (wider rows e) (ns ++ [e.1]) (fun x hx => by
      obtain ⟨y, hy, hx⟩ := List.mem_flatMap.mp hx
      obtain ⟨v, _, rfl⟩ := List.mem_map.mp hx
      rw [List.map_append, h y hy] <;> rfl) row hr
    rw [this, List.append_assoc] <;> rfl
theorem fm_filter {α β : Type} {p : α → Bool} {g : α → List β} : ∀ l : List α, (l.filter p).flatMap g = l.flatMap fun x => if p x = true then g x else []
  | [] => rfl
  | x :: l => by
    by_cases h : p x = true
    · rw [List.filter_cons_of_pos h, List.flatMap_cons, List.flatMap_cons, fm_filter l, if_pos h]
    · rw [List.filter_cons_of_neg h, List.flatMap_cons, fm_filter l, if_neg h, List.nil_append]
theorem fm_congr {α β : Type} {g g' : α → List β} : ∀ {l : List α}, (∀ x ∈ l, g x = g' x) → l.flatMap g = l.flatMap g'
  | [], _ => rfl
  | x :: l, h => by rw [List.flatMap_cons, List.flatMap_cons, h x List.mem_cons_self, fm_congr fun y hy => h y (List.mem_cons_of_mem _ hy)]
theorem fills_go {rs : List (List Pr)} {f : List Pr} : ∀ (t2 t1 : Tbl), ((t1 ++ t2).map (·.1)).Nodup → (∀ r ∈ rs, RSeq (t1 ++ t2) r) → t2.foldl (longer rs f) ((chs t1).filter (okRow rs f)) = (chs (t1 ++ t2)).filter (okRow rs f)
  | [], t1, _, _ => by rw [List.append_nil] <;> rfl
  | e :: t2, t1, nd, hr => by
    have e1 : t1 ++ e :: t2 = (t1 ++ [e]) ++ t2 := by rw [List.append_assoc] <;> rfl
    have e2 : chs (t1 ++ [e]) = wider (chs t1) e := by unfold chs; rw [List.foldl_append] <;> rfl
    have key : longer rs f ((chs t1).filter (okRow rs f)) e = (chs (t1 ++ [e])).filter (okRow rs f) := by
      rw [e2]
      unfold longer wider
      rw [fm_filter, List.filter_flatMap]
      refine fm_congr fun row hrow => ?_
      have hn : row.map (·.1) = t1.map (·.1) := by
        have := chs_names t1 [[]] [] (fun x hx => by rw [List.mem_singleton.mp hx] <;> rfl) row hrow
        rw [List.nil_append] at this
        exact this
      have sn : ∀ v, okRow rs f (row ++ [(e.1, v)]) = (okRow rs f row && (letV f e.1 v && !oneStands (barsOf rs (e.1, v)) row)) := fun v => okRow_snoc (p := (e.1, v)) nd hr hn rfl
      rw [List.filter_map]
      have c : (okRow rs f ∘ fun v => row ++ [(e.1, v)]) = fun v => okRow rs f row && (letV f e.1 v && !oneStands (barsOf rs (e.1, v)) row) := funext sn
      rw [c]
      by_cases h : okRow rs f row = true
      · rw [if_pos h, h]
        unfold prsOf
        rw [List.filter_map, List.map_map, List.filter_filter]
        congr 1
        refine List.filter_congr fun v _ => ?_
        rw [Bool.true_and, Bool.and_comm] <;> rfl
      · rw [if_neg h]
        have : okRow rs f row = false := by rw [← Bool.not_eq_true]; exact h
        rw [this]
        simp
    rw [List.foldl_cons, key, fills_go t2 (t1 ++ [e]) (by rw [← e1]; exact nd) (by rw [← e1]; exact hr), ← e1]
theorem fills_eq {rs : List (List Pr)} {f : List Pr} {t : Tbl} (nd : (t.map (·.1)).Nodup) (hr : ∀ r ∈ rs, RSeq t r) : fills rs f t = (chs t).filter (okRow rs f) := by
  have := fills_go (rs := rs) (f := f) t [] nd hr
  have z : (chs []).filter (okRow rs f) = [[]] := by
    have h0 : okRow rs f [] = true := by
      unfold okRow
      rw [List.all_nil, Bool.true_and, List.all_eq_true]
      intro r hm
      have hne := (hr r hm).1
      cases r with
      | nil => exact absurd rfl hne
      | cons q r =>
        have : within (q :: r) [] = false := by
          rw [← Bool.not_eq_true, within_iff]
          intro z
          exact absurd (z q List.mem_cons_self) List.not_mem_nil
        rw [this] <;> rfl
    show List.filter (okRow rs f) [[]] = [[]]
    rw [List.filter_cons_of_pos h0] <;> rfl
  rw [z] at this
  exact this
end Q
set_option Elab.async false
set_option linter.all false
set_option maxRecDepth 100000
set_option maxHeartbeats 4000000
/-! ### _bars, _one_stands -/
namespace Q
open PySem L2 XD
/-- a tuple of pairs -/
def LotAt (K : PySem.W.Frag) (H : Hp) (p : Addr) (l : List Pr) : Prop := ∃ qs : List Addr, SqT K H p (qs.map V.ref) ∧ Paired (fun q (e : Pr) => SqT K H q [.str e.1, .str e.2]) qs l
def LotsAt (K : PySem.W.Frag) (H : Hp) (z : Addr) (ls : List (List Pr)) : Prop := ∃ ps : List Addr, SqL K H z (ps.map V.ref) ∧ Paired (LotAt K H) ps ls
theorem LotAt.same {K : PySem.W.Frag} {H H' : Hp} {p : Addr} {l : List Pr} (s : Same H H') (h : LotAt K H p l) : LotAt K H' p l := by
  obtain ⟨qs, a, b⟩ := h
  exact ⟨qs, seqT_same s a, prd_same s b⟩
theorem LotsAt.same {K : PySem.W.Frag} {H H' : Hp} {p : Addr} {l : List (List Pr)} (s : Same H H') (h : LotsAt K H p l) : LotsAt K H' p l := by
  obtain ⟨qs, a, b⟩ := h
  exact ⟨qs, s.seq a, prd_imp (fun _ _ z => z.same s) b⟩
theorem pairs_dps {K : PySem.W.Frag} {H : Hp} : ∀ {qs : List Addr} {l : List Pr}, Paired (fun q (e : Pr) => SqT K H q [.str e.1, .str e.2]) qs l → DpAll K H (qs.map V.ref) (l.map fun e => .tuple [.str e.1, .str e.2])
  | _, _, .nil => .nil
  | _, _, .cons a b => .cons (.tup a (.cons (.str _) (.cons (.str _) .nil))) (pairs_dps b)
theorem LotAt.dp {K : PySem.W.Frag} {H : Hp} {p : Addr} {l : List Pr} (h : LotAt K H p l) : Dp K H (.ref p) (ruleD l) := by
  obtain ⟨qs, a, b⟩ := h
  exact .tup a (pairs_dps b)
theorem rule_lot {K : PySem.W.Frag} {H : Hp} {p : Addr} {l : List Pr} (h : RuleAt K H p l) : LotAt K H p l := by
  obtain ⟨qs, a, b⟩ := h
  exact ⟨qs, a.sqT, b⟩
abbrev pD (e : Pr) : PyData := .tuple [.str e.1, .str e.2]
theorem pD_dp {K : PySem.W.Frag} {H : Hp} {q : Addr} {e : Pr} (h : SqT K H q [.str e.1, .str e.2]) : Dp K H (.ref q) (pD e) := .tup h (.cons (.str _) (.cons (.str _) .nil))
theorem eqv_pD (a b : Pr) : PyData.eqv (pD a) (pD b) = decide (a = b) := by
  obtain ⟨n, w⟩ := a
  obtain ⟨m, v⟩ := b
  rw [PyData.eqv, PyData.eqvAll, PyData.eqvAll, PyData.eqvAll, PyData.eqv, PyData.eqv]
  by_cases h1 : n = m
  · by_cases h2 : w = v
    · rw [decide_eq_true (show ((n, w) : Pr) = (m, v) by rw [h1, h2])]
      simp [h1, h2]
    · rw [decide_eq_false (show ¬ ((n, w) : Pr) = (m, v) from fun z => h2 (Prod.mk.inj z).2)]
      simp [h2]
  · rw [decide_eq_false (show ¬ ((n, w) : Pr) = (m, v) from fun z => h1 (Prod.mk.inj z).1)]
    simp [h1]
theorem pD_shaped {e : Pr} (h : PyData.strOk e.1 = true ∧ PyData.strOk e.2 = true) : SeqAt.shaped (pD e) = true := by
  unfold SeqAt.shaped
  rw [Bool.and_eq_true]
  refine ⟨?_, decide_eq_true ?_⟩
  · simp [PyData.canLay0, PyData.canLayAll0, h.1, h.2]
  · simp [PyData.depth, PyData.depthAll]
theorem any_pD (l : List Pr) (p : Pr) : ((l.map pD).any fun z => PyData.eqv z (pD p)) = decide (p ∈ l) := by
  rw [List.any_map, Bool.eq_iff_iff, List.any_eq_true, decide_eq_true_iff]
  constructor
  · rintro ⟨x, hx, e⟩
    have e2 : PyData.eqv (pD x) (pD p) = true := e
    rw [eqv_pD] at e2
    rw [← of_decide_eq_true e2]
    exact hx
  · intro h
    refine ⟨p, h, ?_⟩
    show PyData.eqv (pD p) (pD p) = true
    rw [eqv_pD]
    exact decide_eq_true rfl
/-- what is known of the form's places -/
structure Fk (P : Program) (w : World) (K : PySem.W.Frag) (mg : Str → Option Value) (base : Heap) (C : Addr) : Prop where
  fc : Fc K mg C
  gf : ∃ f fd, FnOk P w K mg base CX0 1 f fd ["self"] (spGet K C false) ∧ Binds K fd ["self"] [] ∧ Meth K C "fields" f
  gr : ∃ f fd, FnOk P w K mg base CX0 1 f fd ["self"] (spGet K C true) ∧ Binds K fd ["self"] [] ∧ Meth K C "rules" f
theorem noF {l z : Addr} : List.lookup ("fields" : Str) [(("_fields" : Str), V.ref l), (("_rules" : Str), V.ref z)] = none := by
  have e : (("fields" : Str) == "_fields") = false := by decide +kernel
  have e2 : (("fields" : Str) == "_rules") = false := by decide +kernel
  rw [List.lookup, e]
  show List.lookup ("fields" : Str) [(("_rules" : Str), V.ref z)] = none
  rw [List.lookup, e2] <;> rfl
theorem noR {l z : Addr} : List.lookup ("rules" : Str) [(("_fields" : Str), V.ref l), (("_rules" : Str), V.ref z)] = none := by
  have e : (("rules" : Str) == "_fields") = false := by decide +kernel
  have e2 : (("rules" : Str) == "_rules") = false := by decide +kernel
  rw [List.lookup, e]
  show List.lookup ("rules" : Str) [(("_rules" : Str), V.ref z)] = none
  rw [List.lookup, e2] <;> rfl
def spBars (K : PySem.W.Frag) (C : Addr) : Sp := fun vs H Q _ => ∃ (x pf pr q : Addr) (rs : List (List Pr)) (e : Pr), vs = [.ref x, .ref q] ∧ FormAt C H x pf pr ∧ RulesAt K H pr rs ∧ (∀ r ∈ rs, RStr r ∧ r ≠ []) ∧ rs.length ≤ 1000 ∧
  SqT K H q [.str e.1, .str e.2] ∧ PyData.strOk e.1 = true ∧ PyData.strOk e.2 = true ∧ ∀ z H', Same H H' → LotsAt K H' z (barsOf rs e) → Q (.ref z) H'
def spStands (K : PySem.W.Frag) : Sp := fun vs H Q _ => ∃ (z r : Addr) (ls : List (List Pr)) (row : List Pr), vs = [.ref z, .ref r] ∧ LotsAt K H z ls ∧ LotAt K H r row ∧ (∀ l ∈ ls, RStr l ∧ l.length ≤ 1000) ∧ RStr row ∧ ∀ H', Same H H' → Q (.bl (oneStands ls row)) H'
theorem bars_paired {α : Type} {R : α → List Pr → Prop} {e : Pr} (f : Nat → List Pr) : ∀ (n : Nat) (rs : List (List Pr)), n = rs.length → (∀ i r, rs[i]? = some r → f i = r) → ((List.range n).filter fun i => endsIn e (f i)).map (fun i => (f i).dropLast) = barsOf rs e := by
  intro n rs hn h
  have : rs = (List.range n).map f := by
    refine List.ext_getElem? fun i => ?_
    rw [List.getElem?_map]
    by_cases hi : i < n
    · rw [List.getElem?_range hi, List.getElem?_eq_getElem (by omega)]
      have := h i rs[i] (List.getElem?_eq_getElem (by omega))
      rw [← this] <;> rfl
    · rw [List.getElem?_eq_none (by omega), List.getElem?_eq_none (by rw [List.length_range]; omega)] <;> rfl
  unfold barsOf
  rw [this, List.filter_map, List.map_map] <;> rfl
theorem prd_dropLast {α β : Type} {R : α → β → Prop} : ∀ {xs : List α} {ys : List β}, Paired R xs ys → Paired R xs.dropLast ys.dropLast
  | _, _, .nil => .nil
  | _, _, .cons a .nil => .nil
  | _, _, .cons a (.cons b c) => .cons a (prd_dropLast (.cons b c))
theorem lots_of {ι : Type} {g : ι → List Pr} {K : PySem.W.Frag} {R : Hp} : ∀ {zs : List V} {is : List ι}, Paired (fun z i => ∃ p, z = .ref p ∧ LotAt K R p (g i)) zs is → ∃ ps : List Addr, zs = ps.map V.ref ∧ Paired (LotAt K R) ps (is.map g)
  | _, _, .nil => ⟨[], rfl, .nil⟩
  | _, _, .cons a b => by
    obtain ⟨p, rfl, h⟩ := a
    obtain ⟨ps, rfl, h2⟩ := lots_of b
    exact ⟨p :: ps, rfl, .cons h h2⟩
section
variable {P : Program} {w : World} {K : PySem.W.Frag} {mg : Str → Option Value} {base : Heap}
theorem scBars : FnScope ["form", "pair", "rule"] ["form", "pair"] (defScope sBars) := ⟨rfl, rfl, rfl, by decide +kernel, rfl, by decide +kernel, by decide +kernel⟩
theorem scStands : FnScope ["lots", "row", "lot", "pair"] ["lots", "row"] (defScope sOneStands) := ⟨rfl, rfl, rfl, by decide +kernel, rfl, by decide +kernel, by decide +kernel⟩
theorem ok_bars {f C : Addr} {fd : FuncData} (F : Fun K "_bars" "_bars" sBars f fd) (Z : Fk P w K mg base C) : FnOk P w K mg base CX0 2 f fd ["form", "pair"] (spBars K C) := by
  obtain ⟨fR, fdR, GR, bR, mR⟩ := Z.gr
  refine F.ok scBars (fun vs H Q E h => ?_) (fun cdv A outer s H vs Q E hr h => ?_)
  · obtain ⟨x, pf, pr, q, rs, e, rfl, _⟩ := h
    rfl
  obtain ⟨x, pf, pr, q, rs, e, rfl, ⟨dx, hx⟩, hR, hs, hl, hq, o1, o2, k⟩ := h
  have hu := hr.units
  refine ⟨_, pss_one (ps_ret (pe_lc (own := [("rule", 2)]) (g := gName 2) (by rfl) scBars.nd (pi_row (pe_meth0 (pv 0) Z.fc.cl mR GR hr bR .nil pass0)) (blkOk_by (N := ["form", "pair", "rule"]) (sc := defScope sBars) (by decide +kernel))
    (fun _ _ _ _ _ => pg_name (i := 2) scBars.nd rfl (.inl rfl)) (fun _ _ _ _ _ => pts_one (pt_cmpR (op_eqDK K rfl hu) (pe_ix (ix_both K rfl) (pv 2) (pe_un un_neg pe_int) (fun _ _ => rfl)) (pv 1) (nomark _)))
    (fun _ _ _ _ _ => pe_slice (sl_tupAK K rfl) (pv 2) po_none (po_some (pe_un un_neg pe_int))))), ?_⟩
  obtain ⟨ps, hps, hP⟩ := hR
  have hpl : (ps.map V.ref).length = rs.length := by rw [List.length_map, prd_len hP]
  let f : Nat → List Pr := fun i => rs.getD i []
  have hf : ∀ i r, rs[i]? = some r → f i = r := fun i r h => by
    show rs.getD i [] = r
    rw [List.getD_eq_getElem?_getD, h] <;> rfl
  refine lc_g (ys := ps.map V.ref) (fun i v R => ∃ p, v = .ref p ∧ LotAt K R p (f i).dropLast) (fun i => endsIn e (f i)) (fun i v R R' s ⟨p, e1, h⟩ => ⟨p, e1, h.same s⟩)
    (fun Q' z => ⟨_, rfl, x, dx, _, rfl, hx, noR, x, pf, pr, rfl, ⟨dx, hx⟩, z⟩) (.inr hps.sqT) (by omega) (fun D i y H' yes no AD s1 s2 hy hyes hno => ?_) (fun D H' zs hD s1 hz hP' => ?_)
  · obtain ⟨p, e0, rfl⟩ : ∃ p, ps[i]? = some p ∧ y = .ref p := by
      rw [List.getElem?_map] at hy
      obtain ⟨p, a, b⟩ := Option.map_eq_some_iff.mp hy
      exact ⟨p, a, b.symm⟩
    obtain ⟨r, er, hrule⟩ := prd_at hP e0
    obtain ⟨qs, hqs, hprs⟩ := rule_lot hrule
    have efi := hf i r er
    obtain ⟨hst, hne⟩ := hs r (List.mem_of_getElem? er)
    have hql := prd_len hprs
    have hpos : 0 < r.length := List.length_pos_iff.mpr hne
    obtain ⟨ql, hql1⟩ : ∃ ql, qs[r.length - 1]? = some ql := ⟨_, List.getElem?_eq_getElem (by omega)⟩
    obtain ⟨el, hel, hqe⟩ := prd_at hprs hql1
    have hlast : r.getLast? = some el := by rw [List.getLast?_eq_getElem?, hel]
    have hix : atI (qs.map V.ref) (-1) = some (.ref ql) := by
      unfold atI ixN
      rw [if_neg (by decide), if_pos (by rw [List.length_map]; omega)]
      show (qs.map V.ref)[(-1 + ((qs.map V.ref).length : Int)).toNat]? = some (.ref ql)
      rw [List.length_map, show (-1 + ((qs.length : Nat) : Int)).toNat = r.length - 1 by omega, List.getElem?_map, hql1] <;> rfl
    refine ⟨rfl, ?_⟩
    refine ⟨_, rfl, _, rfl, ix_row (.inr (seqT_same s1 hqs)) hix ⟨_, rfl, pD el, pD e, pD_dp (seqT_same s1 hqe), pD_dp (seqT_same s1 hq), pD_shaped (hst el (List.mem_of_getElem? hel)), pD_shaped ⟨o1, o2⟩, _, rfl, ?_⟩⟩
    rw [eqv_pD]
    have hsel : endsIn e (f i) = decide (el = e) := by
      unfold endsIn
      rw [efi, hlast]
      exact decide_eq_decide.mpr ⟨fun z => Option.some.inj z, fun z => by rw [z]⟩
    by_cases he : el = e
    · refine iteDT he ⟨_, rfl, _, rfl, _, rfl, p, qs.map V.ref, rfl, seqT_same s1 hqs, fun hw => ?_, fun _ z hz => ?_⟩
      · exfalso
        have h2 : (if (-1 : Int) < 0 then (-1 + ((qs.map V.ref).length : Int)).toNat else min (-1 : Int).toNat (qs.map V.ref).length) = (qs.map V.ref).length := hw.2
        rw [if_pos (by decide), List.length_map] at h2
        omega
      · have sz := new_same hz (.tup (cutV (qs.map V.ref) none (some (-1))))
        refine hyes (by rw [hsel]; exact decide_eq_true he) _ _ sz ⟨z, rfl, qs.dropLast, .inl (.inl ?_), ?_⟩
        · rw [rm_new AD hz, cutV_last, List.map_dropLast]
        · rw [efi]
          exact prd_dropLast (prd_same (s2.trans (rm_same sz)) hprs)
    · exact iteDF he (hno (by rw [hsel]; exact decide_eq_false he) _ (Same.refl _))
  · obtain ⟨ps2, rfl, hp2⟩ := lots_of hP'
    refine k D H' s1 ⟨ps2, SqL.of hz, ?_⟩
    rw [bars_paired (R := fun (_ : Unit) _ => True) f _ rs hpl hf] at hp2
    exact prd_imp (fun _ _ z => z.same rm_le) hp2
theorem all_bools (l row : List Pr) : (((List.range l.length).map fun i => decide (l.getD i (Str.empty, Str.empty) ∈ row)).all id) = within l row := by
  unfold within
  rw [List.all_map, Bool.eq_iff_iff, List.all_eq_true, List.all_eq_true]
  constructor
  · intro h p hp
    obtain ⟨i, hi, rfl⟩ := List.mem_iff_getElem.mp hp
    have := h i (List.mem_range.mpr hi)
    have e : l.getD i (Str.empty, Str.empty) = l[i] := by rw [List.getD_eq_getElem?_getD, List.getElem?_eq_getElem hi] <;> rfl
    have h2 : decide (l.getD i (Str.empty, Str.empty) ∈ row) = true := this
    rw [e] at h2
    exact h2
  · intro h i hi
    have hi := List.mem_range.mp hi
    have e : l.getD i (Str.empty, Str.empty) = l[i] := by rw [List.getD_eq_getElem?_getD, List.getElem?_eq_getElem hi] <;> rfl
    show decide (l.getD i (Str.empty, Str.empty) ∈ row) = true
    rw [e]
    exact h _ (List.getElem_mem hi)
theorem bools_of {g : Nat → Bool} {R : Hp} : ∀ {zs : List V} {is : List Nat}, Paired (fun z i => z = V.bl (g i)) zs is → zs = (is.map g).map V.bl
  | _, _, .nil => rfl
  | _, _, .cons a b => by rw [a, bools_of (R := R) b] <;> rfl
theorem one_next {ls : List (List Pr)} {row l : List Pr} {i : Nat} (h : ls[i]? = some l) : oneStands (ls.take (i + 1)) row = (oneStands (ls.take i) row || within l row) := by
  unfold oneStands
  rw [take_one h, List.any_append]
  simp
theorem one_stop {ls : List (List Pr)} {row l : List Pr} {i : Nat} (h : ls[i]? = some l) (hw : within l row = true) : oneStands ls row = true := by
  unfold oneStands
  exact List.any_eq_true.mpr ⟨l, List.mem_of_getElem? h, hw⟩
theorem nm_allif {K : PySem.W.Frag} {tl : TE} {u v : TS} {D : Ends} {σ : L2.St} {H : Hp} {i : Nat} {x : V} (h : tl (σ.set i (some x)) H fun y H1 => rAll K [y] H1 fun z H2 => ∃ c, z = .bl c ∧ if c = true then u D (σ.set i (some x)) H2 else v D (σ.set i (some x)) H2) :
    gName i x σ H fun σ2 H2 => tIfS (tB (tCB (rAll K) (tCons tl tNil))) u v D σ2 H2 := h
theorem ok_stands {f : Addr} {fd : FuncData} (F : Fun K "_one_stands" "_one_stands" sOneStands f fd) (T : mg "all" = none) : FnOk P w K mg base CX0 1 f fd ["lots", "row"] (spStands K) := by
  refine F.ok scStands (fun vs H Q E h => ?_) (fun cdv A outer s H vs Q E hr h => ?_)
  · obtain ⟨z, r, ls, row, rfl, _⟩ := h
    rfl
  obtain ⟨z, r, ls, row, rfl, hz, hrow, hs, ho, k⟩ := h
  have hu : (A.deeper (PyProof.Rows.envOfC "_one_stands" (defScope sOneStands) s.heap.objs.size f cdv)).units + 65 < cLine := by
    have := hr.un
    omega
  refine ⟨_, pss_cons (ps_for PassesOwn.never rfl (pi_row (pv 0)) (pg_name (i := 2) scStands.nd rfl (.inl rfl))
      (pss_one (ps_if (pt_val (pe_callB (cr_all (by rfl)) rfl T (by decide +kernel) (pa_cons (pe_lc (own := [("pair", 3)]) (g := gName 3) (tt := tYes) (by rfl) scStands.nd (pi_row (pv 2)) (blkOk_by (N := ["lots", "row", "lot", "pair"]) (sc := defScope sOneStands) (by decide +kernel))
        (fun _ _ _ _ _ => pg_name (i := 3) scStands.nd rfl (.inl rfl)) (fun _ _ _ _ _ => pts_nil) (fun _ _ _ _ _ => pe_cmpR (op_inTK K rfl hu) (pv 3) (pv 1) (by with_unfolding_all rfl))) pa_nil))) (pss_one (ps_ret pe_bl)) pss_nil)))
    (pss_one (ps_ret pe_bl)), ?_⟩
  obtain ⟨ps, hps, hP⟩ := hz
  have hlen : (ps.map V.ref).length = ls.length := by rw [List.length_map, prd_len hP]
  refine for_row (ys := ps.map V.ref) (H0 := H) (fun i σ H' => ∃ (f2 f3 : Option V), σ = [some (.ref z), some (.ref r), f2, f3] ∧ oneStands (ls.take i) row = false ∧ Same H H') (fun Q' z => ⟨_, rfl, z⟩) (.inl hps) ⟨none, none, rfl, rfl, Same.refl H⟩ (fun i σ H' ⟨_, _, _, _, s⟩ => s) ?_ ?_
  · rintro i y σ H' hi ⟨f2, f3, rfl, hno, s1⟩ hy
    obtain ⟨p, e0, rfl⟩ : ∃ p, ps[i]? = some p ∧ y = .ref p := by
      rw [List.getElem?_map] at hy
      obtain ⟨p, a, b⟩ := Option.map_eq_some_iff.mp hy
      exact ⟨p, a, b.symm⟩
    obtain ⟨l, el, qs, hqs, hprs⟩ := prd_at hP e0
    obtain ⟨hst, hll⟩ := hs l (List.mem_of_getElem? el)
    have hql := prd_len hprs
    obtain ⟨rq, hrq, hrp⟩ := hrow
    let d : Pr := (Str.empty, Str.empty)
    have hrow2 : DpAll K H (rq.map V.ref) (row.map pD) := pairs_dps hrp
    refine nm_allif ?_
    refine lc_g (ys := qs.map V.ref) (fun i v R => v = .bl (decide (l.getD i d ∈ row))) (fun _ => true) (fun i v R R' s h => h) (fun Q' z => ⟨_, rfl, z⟩) (.inr (seqT_same s1 hqs)) (by rw [List.length_map]; omega) (fun D j x H2 yes no AD s2 s3 hx hyes hno2 => ?_) (fun D H2 zs hD s2 hz2 hP2 => ?_)
    · obtain ⟨q, e1, rfl⟩ : ∃ q, qs[j]? = some q ∧ x = .ref q := by
        rw [List.getElem?_map] at hx
        obtain ⟨p, a, b⟩ := Option.map_eq_some_iff.mp hx
        exact ⟨p, a, b.symm⟩
      obtain ⟨e, ee, hqe⟩ := prd_at hprs e1
      have eg : l.getD j d = e := by rw [List.getD_eq_getElem?_getD, ee] <;> rfl
      refine ⟨rfl, ?_⟩
      unfold tYes
      refine iteT ⟨_, rfl, _, rfl, r, rq.map V.ref, row.map pD, pD e, rfl, seqT_same (s1.trans s2) hrq, dps_same (s1.trans s2) hrow2, rule_lay row ho, pD_dp (seqT_same (s1.trans s2) hqe), pD_shaped (hst e (List.mem_of_getElem? ee)), ?_⟩
      refine hyes rfl _ _ (Same.refl _) ?_
      show V.bl _ = V.bl _
      rw [if_neg Bool.false_ne_true, any_pD, eg]
    · have ez := bools_of (R := H) hP2
      have ef : (List.range (qs.map V.ref).length).filter (fun _ => true) = List.range l.length := by
        rw [List.length_map, hql]
        exact List.filter_eq_self.mpr fun _ _ => rfl
      rw [ef] at ez
      refine ⟨D, _, rfl, SqL.of (by rw [hz2, ez]), ?_⟩
      rw [all_bools]
      refine ⟨_, rfl, ?_⟩
      cases hw : within l row with
      | true =>
        rw [one_stop el hw] at k
        exact iteT (k H2 (s1.trans s2))
      | false =>
        refine iteF ⟨_, _, rfl, ?_, s1.trans s2⟩
        rw [one_next el, hno, hw] <;> rfl
  · rintro σ H' ⟨f2, f3, rfl, hno, s1⟩
    have : oneStands ls row = false := by
      rw [hlen, List.take_of_length_le (Nat.le_refl _)] at hno
      exact hno
    rw [this] at k
    exact k H' s1
end
end Q
set_option Elab.async false
set_option linter.all false
set_option maxRecDepth 100000
set_option maxHeartbeats 4000000
/-! ### dicts whose keys are tuples of texts, made by a comprehension -/
namespace Q
open PySem L2 XD
theorem asg_dcT {w : TI} {g : TG} {tt : TT} {tk te : TE} {vs : List Nat} {u : TS} {D : Ends} {σ : L2.St} {H : Hp} {i : Nat} (h : XK.tDcT w g tt tk te vs σ H fun v H1 => u D (σ.set i (some v)) H1) : tSeq (tAsg (XK.tDcT w g tt tk te vs) (gName i)) u D σ H := h
abbrev keyOf (e : Str × Str) : List Key := [.inr e.1, .inr e.2]
theorem keyOf_inj {a b : Str × Str} (h : keyOf a = keyOf b) : a = b := by
  have h1 := (List.cons.inj h).1
  have h2 := (List.cons.inj (List.cons.inj h).2).1
  exact Prod.ext (Sum.inr.inj h1) (Sum.inr.inj h2)
/-! a dict whose keys may come again -/
def putAll (ks : List (List Key)) (v : V) : List (List Key × V) := ks.foldl (fun es k => putK es k v) []
theorem putAll_next {ks : List (List Key)} {i : Nat} {k : List Key} {v : V} (h : ks[i]? = some k) : putAll (ks.take (i + 1)) v = putK (putAll (ks.take i) v) k v := by
  unfold putAll
  rw [take_one h, List.foldl_append] <;> rfl
theorem putAll_val {ks : List (List Key)} {v : V} {k : List Key} : (k ∈ ks → valV (putAll ks v) k = some v) ∧ (k ∉ ks → valV (putAll ks v) k = none) := by
  have : ∀ (l : List (List Key)) (es : List (List Key × V)), (k ∈ l ∨ valV es k = some v → valV (l.foldl (fun es k => putK es k v) es) k = some v) ∧ (k ∉ l ∧ valV es k = none → valV (l.foldl (fun es k => putK es k v) es) k = none) := by
    intro l
    induction l with
    | nil =>
      intro es
      exact ⟨fun h => h.elim (fun z => absurd z List.not_mem_nil) id, fun h => h.2⟩
    | cons j l ih =>
      intro es
      rw [List.foldl_cons]
      obtain ⟨i1, i2⟩ := ih (putK es j v)
      constructor
      · intro h
        refine i1 ?_
        rw [valV_put]
        by_cases e : k = j
        · exact .inr (by rw [if_pos e])
        · rcases h with h | h
          · rcases List.mem_cons.mp h with h | h
            · exact absurd h e
            · exact .inl h
          · exact .inr (by rw [if_neg e]; exact h)
      · rintro ⟨h1, h2⟩
        refine i2 ⟨fun z => h1 (List.mem_cons_of_mem _ z), ?_⟩
        rw [valV_put, if_neg (fun z => h1 (by rw [z]; exact List.mem_cons_self))]
        exact h2
  exact ⟨fun h => (this ks []).1 (.inl h), fun h => (this ks []).2 ⟨h, rfl⟩⟩
theorem putAll_len {ks : List (List Key)} {v : V} : (putAll ks v).length ≤ ks.length := by
  have : ∀ (l : List (List Key)) (es : List (List Key × V)), (l.foldl (fun es k => putK es k v) es).length ≤ es.length + l.length := by
    intro l
    induction l with
    | nil => intro es; exact Nat.le_refl _
    | cons j l ih =>
      intro es
      rw [List.foldl_cons, List.length_cons]
      refine Nat.le_trans (ih _) ?_
      have := length_putK es j v
      omega
  have := this ks []
  rw [List.length_nil, Nat.zero_add] at this
  exact this
/-- a dict comprehension over a list or a tuple, its keys tuples, its values one constant -/
theorem dcT_c {K : PySem.W.Frag} {p : Addr} {ys : List V} {t0 : TE} {g : TG} {tk tv : TE} {vs : List Nat} {σ : L2.St} {H : Hp} {Q : VK} (ks : List (List Key)) (c : V) (ht : ∀ Q' : VK, Q' (.ref p) H → t0 σ H Q') (hq : SqL K H p ys ∨ SqT K H p ys) (hk : ks.length = ys.length) (hl : ys.length ≤ 1000)
    (turn : ∀ (D : Addr) (i : Nat) (x : V) (H' : Hp) (yes : V → V → Hp → Prop), Same H H' → ys[i]? = some x → (∀ k q H4, ks[i]? = some k → H4 q = some (.tup (k.map kV)) → Same H' H4 → yes (.ref q) c H4) →
      g x (wipe σ vs) H' fun σ2 H2 => wipe σ2 vs = wipe σ vs ∧ tk σ2 H2 fun y H3 => tv σ2 H3 fun z H4 => yes y z H4)
    (hd : ∀ D H', H D = none → Same H H' → H' D = some (.dT (putAll ks c)) → Q (.ref D) H') : XK.tDcT (iRow K t0) g tYes tk tv vs σ H Q := by
  let Pv : Addr → Nat → Hp → Prop := fun D i H' => H' D = some (.dT (putAll (ks.take i) c)) ∧ Same H H'
  have all : ∀ {J : It} {G : Hp → Prop}, (walk : Walk J ys.length G (YAt ys)) → (∀ H', Same H H' → G H') → ∀ D, H D = none → ∃ W : Nat → Nat → Hp → Prop, (∃ m, W 0 m (L2.upd H D (.dT []))) ∧ ∀ i m H, W i m H →
      (J.stop i H ∧ Q (.ref D) H) ∨ (J.go i H ∧ ∃ Nx : Hp → Prop, (∀ H', Nx H' → ∃ m', m' < m ∧ W (i + 1) m' H') ∧ ∀ x H', J.yld i H x H' → g x (wipe σ vs) H' fun σ2 H2 => wipe σ2 vs = wipe σ vs ∧
        tYes σ2 H2 fun b H3 => if b = true then tk σ2 H3 fun y H4 => tv σ2 H4 fun z H5 => ∃ es k p, y = .ref p ∧ H5 p = some (.tup (k.map kV)) ∧ H5 D = some (.dT es) ∧ es.length < sizeLine ∧ Nx (L2.upd H5 D (.dT (putK es k z))) else Nx H3) := by
    intro J G walk hG D hD
    refine ⟨fun i m H' => m = ys.length - i ∧ i ≤ ys.length ∧ Pv D i H', ⟨ys.length, by simp, Nat.zero_le _, upd_same, new_same hD _⟩, ?_⟩
    rintro i m H' ⟨rfl, hi, g2, g5⟩
    by_cases hlt : i < ys.length
    · refine .inr ⟨walk.goes i H' hlt (hG H' g5), Pv D (i + 1), fun H5 p' => ⟨ys.length - (i + 1), by omega, rfl, hlt, p'⟩, fun x H5 y => ?_⟩
      obtain ⟨rfl, hx⟩ := walk.yields i H' x H5 hlt (hG H' g5) y
      refine turn D i x _ (fun y z H5 => ∃ es k p, y = .ref p ∧ H5 p = some (.tup (k.map kV)) ∧ H5 D = some (.dT es) ∧ es.length < sizeLine ∧ Pv D (i + 1) (L2.upd H5 D (.dT (putK es k z)))) g5 hx (fun k q H4 ek eq s4 => ?_)
      have hlen := putAll_len (ks := ks.take i) (v := c)
      rw [List.length_take] at hlen
      refine ⟨_, k, q, rfl, eq, s4 _ _ g2, small1000 (by omega), ?_, fun b o z => ?_⟩
      · rw [upd_same, putAll_next ek]
      · rw [upd_ne (ne_of_none z hD)]
        exact s4 _ _ (g5 _ _ z)
    · have e : i = ys.length := by omega
      subst e
      rw [List.take_of_length_le (by omega)] at g2
      exact .inl ⟨walk.stops H' (hG H' g5), hd D H' hD g5 g2⟩
  rcases hq with hq | hq
  · exact .inl (ht _ ⟨p, rfl, ⟨ys, hq⟩, all walk_list (fun H' s => s.seq hq)⟩)
  · exact .inr (ht _ ⟨p, rfl, ⟨ys, hq⟩, all walk_tup (fun H' s => seqT_same s hq)⟩)
end Q
set_option Elab.async false
set_option linter.all false
set_option maxRecDepth 100000
set_option maxHeartbeats 4000000
/-! ### fillings -/
namespace Q
open PySem L2 XD
/-- a pair as it can be a dict's key -/
def PairAt (H : Hp) (q : Addr) (e : Pr) : Prop := H q = some (.tup [.str e.1, .str e.2])
def RowAt (K : PySem.W.Frag) (H : Hp) (v : V) (row : List Pr) : Prop := ∃ (p : Addr) (qs : List Addr), v = .ref p ∧ SqT K H p (qs.map V.ref) ∧ Paired (PairAt H) qs row
def RowsAt (K : PySem.W.Frag) (H : Hp) (z : Addr) (rows : List (List Pr)) : Prop := ∃ vs : List V, SqT K H z vs ∧ Paired (RowAt K H) vs rows
theorem PairAt.same {H H' : Hp} {q : Addr} {e : Pr} (s : Same H H') (h : PairAt H q e) : PairAt H' q e := s _ _ h
theorem RowAt.same {K : PySem.W.Frag} {H H' : Hp} {v : V} {row : List Pr} (s : Same H H') (h : RowAt K H v row) : RowAt K H' v row := by
  obtain ⟨p, qs, e, a, b⟩ := h
  exact ⟨p, qs, e, seqT_same s a, prd_imp (fun _ _ z => z.same s) b⟩
theorem RowsAt.same {K : PySem.W.Frag} {H H' : Hp} {z : Addr} {rows : List (List Pr)} (s : Same H H') (h : RowsAt K H z rows) : RowsAt K H' z rows := by
  obtain ⟨vs, a, b⟩ := h
  exact ⟨vs, seqT_same s a, prd_imp (fun _ _ z => z.same s) b⟩
theorem RowAt.lot {K : PySem.W.Frag} {H : Hp} {v : V} {row : List Pr} (h : RowAt K H v row) : ∃ p, v = .ref p ∧ LotAt K H p row := by
  obtain ⟨p, qs, e, a, b⟩ := h
  exact ⟨p, e, qs, a, prd_imp (fun _ _ z => .inl (.inl z)) b⟩
/-- a dict that is made by a comprehension, its keys tuples, all unlike -/
theorem valV_zip {κ : Type} [DecidableEq κ] : ∀ {ks : List κ} {vs : List V} {i : Nat} {k : κ} {v : V}, ks.Nodup → ks[i]? = some k → vs[i]? = some v → valV (ks.zip vs) k = some v
  | k0 :: ks, v0 :: vs, 0, k, v, _, h1, h2 => by
    cases h1
    cases h2
    exact valV_pos rfl
  | k0 :: ks, v0 :: vs, i + 1, k, v, n, h1, h2 => by
    have h1 : ks[i]? = some k := by simpa using h1
    have h2 : vs[i]? = some v := by simpa using h2
    have := List.nodup_cons.mp n
    rw [List.zip_cons_cons, valV_neg (fun z => this.1 (by have z : k0 = k := z; rw [z]; exact List.mem_of_getElem? h1))]
    exact valV_zip this.2 h1 h2
theorem valV_fresh {κ : Type} [DecidableEq κ] : ∀ {ks : List κ} {vs : List V} {k : κ}, k ∉ ks → valV (ks.zip vs) k = none
  | [], _, _, _ => rfl
  | _ :: _, [], _, _ => rfl
  | k0 :: ks, v0 :: vs, k, h => by
    rw [List.zip_cons_cons, valV_neg (fun z => h (by have z : k0 = k := z; rw [z]; exact List.mem_cons_self))]
    exact valV_fresh fun z => h (List.mem_cons_of_mem _ z)
theorem alive_dT {D : Addr} {H : Hp} {es : List (List Key × V)} (e : H D = some (.dT es)) : Alive [D] H := fun b hb => by
  rw [List.mem_singleton.mp hb, e]
  exact fun z => by cases z
theorem dcT_g {K : PySem.W.Frag} {p : Addr} {ys : List V} {t0 : TE} {g : TG} {tk tv : TE} {vs : List Nat} {σ : L2.St} {H : Hp} {Q : VK} (ks : List (List Key)) (P : Nat → V → Hp → Prop)
    (mono : ∀ i v R R', Same R R' → P i v R → P i v R') (ht : ∀ Q' : VK, Q' (.ref p) H → t0 σ H Q') (hq : SqL K H p ys ∨ SqT K H p ys) (hk : ks.length = ys.length) (hn : ks.Nodup) (hl : ys.length ≤ 1000)
    (turn : ∀ (D : Addr) (i : Nat) (x : V) (H' : Hp) (yes : V → V → Hp → Prop), (∃ es, H' D = some (.dT es)) → Same H H' → Same H (rmL [D] H') → ys[i]? = some x →
      (∀ k q y H4, ks[i]? = some k → H4 q = some (.tup (k.map kV)) → Same H' H4 → P i y (rmL [D] H4) → yes (.ref q) y H4) →
      g x (wipe σ vs) H' fun σ2 H2 => wipe σ2 vs = wipe σ vs ∧ tk σ2 H2 fun y H3 => tv σ2 H3 fun z H4 => yes y z H4)
    (hd : ∀ D H' zs, H D = none → Same H H' → H' D = some (.dT (ks.zip zs)) → zs.length = ks.length → (∀ i v, zs[i]? = some v → P i v (rmL [D] H')) → Q (.ref D) H') : XK.tDcT (iRow K t0) g tYes tk tv vs σ H Q := by
  let Pv : Addr → Nat → Hp → Prop := fun D i H' => ∃ zs, H' D = some (.dT ((ks.take i).zip zs)) ∧ zs.length = i ∧ (∀ j v, zs[j]? = some v → P j v (rmL [D] H')) ∧ Same H H'
  have all : ∀ {J : It} {G : Hp → Prop}, (walk : Walk J ys.length G (YAt ys)) → (∀ H', Same H H' → G H') → ∀ D, H D = none → ∃ W : Nat → Nat → Hp → Prop, (∃ m, W 0 m (L2.upd H D (.dT []))) ∧ ∀ i m H, W i m H →
      (J.stop i H ∧ Q (.ref D) H) ∨ (J.go i H ∧ ∃ Nx : Hp → Prop, (∀ H', Nx H' → ∃ m', m' < m ∧ W (i + 1) m' H') ∧ ∀ x H', J.yld i H x H' → g x (wipe σ vs) H' fun σ2 H2 => wipe σ2 vs = wipe σ vs ∧
        tYes σ2 H2 fun b H3 => if b = true then tk σ2 H3 fun y H4 => tv σ2 H4 fun z H5 => ∃ es k p, y = .ref p ∧ H5 p = some (.tup (k.map kV)) ∧ H5 D = some (.dT es) ∧ es.length < sizeLine ∧ Nx (L2.upd H5 D (.dT (putK es k z))) else Nx H3) := by
    intro J G walk hG D hD
    refine ⟨fun i m H' => m = ys.length - i ∧ i ≤ ys.length ∧ Pv D i H', ⟨ys.length, by simp, Nat.zero_le _, [], upd_same, rfl, (fun j v h => by simp at h), new_same hD _⟩, ?_⟩
    rintro i m H' ⟨rfl, hi, zs, g2, g3, g4, g5⟩
    by_cases hlt : i < ys.length
    · refine .inr ⟨walk.goes i H' hlt (hG H' g5), Pv D (i + 1), fun H5 p' => ⟨ys.length - (i + 1), by omega, rfl, hlt, p'⟩, fun x H5 y => ?_⟩
      obtain ⟨rfl, hx⟩ := walk.yields i H' x H5 hlt (hG H' g5) y
      refine turn D i x _ (fun y z H5 => ∃ es k p, y = .ref p ∧ H5 p = some (.tup (k.map kV)) ∧ H5 D = some (.dT es) ∧ es.length < sizeLine ∧ Pv D (i + 1) (L2.upd H5 D (.dT (putK es k z)))) ⟨_, g2⟩ g5 (same_rm1 hD g5) hx (fun k q y H4 ek eq s4 hy => ?_)
      refine ⟨(ks.take i).zip zs, k, q, rfl, eq, s4 _ _ g2, small1000 (by rw [List.length_zip]; omega), zs ++ [y], ?_, by rw [List.length_append, g3] <;> rfl, fun j v hj => ?_, fun b o z => ?_⟩
      · have fresh : k ∉ ks.take i := fun z => by
          obtain ⟨j, hj, ej⟩ := List.mem_iff_getElem.mp z
          rw [List.length_take] at hj
          rw [List.getElem_take] at ej
          have e1 : ks[i]'(by omega) = k := by
            have := ek
            rw [List.getElem?_eq_getElem (by omega)] at this
            exact Option.some.inj this
          have := (List.getElem_inj hn).mp (ej.trans e1.symm)
          omega
        have et : ks.take (i + 1) = ks.take i ++ [k] := take_one ek
        rw [upd_same, putK_new y (valV_fresh fresh), et, List.zip_append (by rw [List.length_take, g3]; omega)] <;> rfl
      · rw [rm_put (List.mem_singleton.mpr rfl)]
        by_cases e : j < i
        · rw [List.getElem?_append_left (by omega)] at hj
          exact mono _ _ _ _ (rm_same s4) (g4 j v hj)
        · rw [List.getElem?_append_right (by omega)] at hj
          have : j = i := by
            have := (List.getElem?_eq_some_iff.mp hj).1
            rw [List.length_singleton] at this
            omega
          subst this
          rw [g3, Nat.sub_self] at hj
          cases hj
          exact hy
      · rw [upd_ne (ne_of_none z hD)]
        exact s4 _ _ (g5 _ _ z)
    · have e : i = ys.length := by omega
      subst e
      rw [List.take_of_length_le (by omega)] at g2
      exact .inl ⟨walk.stops H' (hG H' g5), hd D H' zs hD g5 g2 (by omega) g4⟩
  rcases hq with hq | hq
  · exact .inl (ht _ ⟨p, rfl, ⟨ys, hq⟩, all walk_list (fun H' s => s.seq hq)⟩)
  · exact .inr (ht _ ⟨p, rfl, ⟨ys, hq⟩, all walk_tup (fun H' s => seqT_same s hq)⟩)
theorem refs_of {ι β : Type} {T : Addr → β → Prop} {g : ι → β} : ∀ {zs : List V} {is : List ι}, Paired (fun z i => ∃ p, z = .ref p ∧ T p (g i)) zs is → ∃ ps : List Addr, zs = ps.map V.ref ∧ Paired T ps (is.map g)
  | _, _, .nil => ⟨[], rfl, .nil⟩
  | _, _, .cons a b => by
    obtain ⟨p, rfl, h⟩ := a
    obtain ⟨ps, rfl, h2⟩ := refs_of b
    exact ⟨p :: ps, rfl, .cons h h2⟩
theorem vals_of {ι β : Type} {T : V → β → Prop} {g : ι → β} : ∀ {zs : List V} {is : List ι}, Paired (fun z i => T z (g i)) zs is → Paired T zs (is.map g)
  | _, _, .nil => .nil
  | _, _, .cons a b => .cons a (vals_of b)
theorem asg_lcX {w : TI} {g : TG} {tt : TT} {te : TE} {vs : List Nat} {u : TS} {D : Ends} {σ : L2.St} {H : Hp} {i : Nat} (h : tLc w g tt te vs σ H fun v H1 => u D (σ.set i (some v)) H1) : tSeq (tAsg (tLc w g tt te vs) (gName i)) u D σ H := h
theorem asg_lc2 {w w1 : TI} {g g1 : TG} {tt tt1 : TT} {te : TE} {vs vs1 : List Nat} {D : Ends} {σ : L2.St} {H : Hp} {i : Nat} (h : tLc2 w g tt w1 g1 tt1 te vs vs1 σ H fun v H1 => D.nx (σ.set i (some v)) H1) : tAsg (tLc2 w g tt w1 g1 tt1 te vs vs1) (gName i) D σ H := h
theorem off_dT {H : Hp} {D a : Addr} {es : List (List Key × V)} {o : HO} (hD : H D = some (.dT es)) (h : H a = some o) (n : ∀ es, o ≠ .dT es) : rmL [D] H a = some o := by
  rw [rm_at (fun z => by rw [List.mem_singleton.mp z, hD] at h; exact n _ (Option.some.inj h).symm)]
  exact h
theorem sqT_dT {K : PySem.W.Frag} {H : Hp} {D a : Addr} {es : List (List Key × V)} {xs : List V} (hD : H D = some (.dT es)) (h : SqT K H a xs) : SqT K (rmL [D] H) a xs := by
  rcases h with (h | ⟨o, h⟩) | h
  · exact .inl (.inl (off_dT hD h (by intro _ z; cases z)))
  · exact .inl (.inr ⟨o, off_dT hD h (by intro _ z; cases z)⟩)
  · exact .inr h
theorem sqL_dT {K : PySem.W.Frag} {H : Hp} {D a : Addr} {es : List (List Key × V)} {xs : List V} (hD : H D = some (.dT es)) (h : SqL K H a xs) : SqL K (rmL [D] H) a xs := by
  rcases h with (h | ⟨o, h⟩) | h
  · exact .inl (.inl (off_dT hD h (by intro _ z; cases z)))
  · exact .inl (.inr ⟨o, off_dT hD h (by intro _ z; cases z)⟩)
  · exact .inr h
theorem LotsAt.dT {K : PySem.W.Frag} {H : Hp} {D z : Addr} {es : List (List Key × V)} {ls : List (List Pr)} (hD : H D = some (.dT es)) (h : LotsAt K H z ls) : LotsAt K (rmL [D] H) z ls := by
  obtain ⟨ps, a, b⟩ := h
  refine ⟨ps, sqL_dT hD a, prd_imp (fun p l h => ?_) b⟩
  obtain ⟨qs, c, e⟩ := h
  exact ⟨qs, sqT_dT hD c, prd_imp (fun _ _ z => sqT_dT hD z) e⟩
/-! the rows, by their places -/
abbrev d0 : Pr := (Str.empty, Str.empty)
theorem getD_of {α : Type} {l : List α} {i : Nat} {x d : α} (h : l[i]? = some x) : l.getD i d = x := by rw [List.getD_eq_getElem?_getD, h] <;> rfl
theorem map_range {α : Type} (l : List α) (d : α) : (List.range l.length).map (fun i => l.getD i d) = l := by
  refine List.ext_getElem? fun i => ?_
  rw [List.getElem?_map]
  by_cases hi : i < l.length
  · rw [List.getElem?_range hi, List.getElem?_eq_getElem hi]
    show some (l.getD i d) = some l[i]
    rw [getD_of (List.getElem?_eq_getElem hi)]
  · rw [List.getElem?_eq_none (l := List.range l.length) (by rw [List.length_range]; omega), List.getElem?_eq_none (l := l) (by omega)] <;> rfl
theorem grid_longer {rs : List (List Pr)} {f : List Pr} {rows : List (List Pr)} {e : Str × List Str} :
    (gridTo rows.length (prsOf f e).length (fun i j => !oneStands (barsOf rs ((prsOf f e).getD j d0)) (rows.getD i []))).map (fun ij => rows.getD ij.1 [] ++ [(prsOf f e).getD ij.2 d0]) = longer rs f rows e := by
  unfold gridTo longer pairsTo
  rw [List.map_flatMap]
  conv => rhs; rw [← map_range rows []]
  rw [List.flatMap_map]
  refine fm_congr fun i _ => ?_
  rw [List.map_map]
  conv => rhs; rw [← map_range (prsOf f e) d0]
  rw [List.filter_map, List.map_map] <;> rfl
theorem longer_len {rs : List (List Pr)} {f : List Pr} {e : Str × List Str} : ∀ rows : List (List Pr), (longer rs f rows e).length ≤ rows.length * e.2.length
  | [] => by unfold longer; simp
  | row :: rows => by
    have ih := longer_len (rs := rs) (f := f) (e := e) rows
    unfold longer at ih ⊢
    rw [List.flatMap_cons, List.length_append, List.length_cons, Nat.succ_mul, List.length_map]
    have h1 : ((prsOf f e).filter fun p => !oneStands (barsOf rs p) row).length ≤ e.2.length := by
      refine Nat.le_trans (List.length_filter_le _ _) ?_
      unfold prsOf
      rw [List.length_map]
      exact List.length_filter_le _ _
    omega
theorem fills_len {rs : List (List Pr)} {f : List Pr} : ∀ (t : Tbl) (rows : List (List Pr)) (a : Nat), rows.length ≤ a → (t.foldl (longer rs f) rows).length ≤ waysFrom a t
  | [], rows, a, h => h
  | e :: t, rows, a, h => by
    rw [List.foldl_cons]
    show _ ≤ waysFrom (a * e.2.length) t
    exact fills_len t _ _ (Nat.le_trans (longer_len rows) (Nat.mul_le_mul_right _ h))
theorem ways_up : ∀ (t : Tbl) (a b : Nat), a ≤ b → waysFrom a t ≤ waysFrom b t
  | [], _, _, h => h
  | e :: t, a, b, h => ways_up t _ _ (Nat.mul_le_mul_right _ h)
theorem ways_take : ∀ (t : Tbl) (a i : Nat), (∀ e ∈ t, 1 ≤ e.2.length) → waysFrom a (t.take i) ≤ waysFrom a t
  | [], a, i, _ => by rw [List.take_nil]; exact Nat.le_refl _
  | e :: t, a, 0, h => by
    show a ≤ waysFrom (a * e.2.length) t
    have h1 : waysFrom a (t.take 0) ≤ waysFrom a t := ways_take t a 0 fun x hx => h x (List.mem_cons_of_mem _ hx)
    refine Nat.le_trans h1 (ways_up t _ _ ?_)
    exact Nat.le_mul_of_pos_right _ (h e List.mem_cons_self)
  | e :: t, a, i + 1, h => ways_take t (a * e.2.length) i fun x hx => h x (List.mem_cons_of_mem _ hx)
theorem fold_names {rs : List (List Pr)} {f : List Pr} : ∀ (t1 : Tbl) (rows : List (List Pr)) (ns : List Str), (∀ row ∈ rows, row.map (·.1) = ns) → ∀ row ∈ t1.foldl (longer rs f) rows, row.map (·.1) = ns ++ t1.map (·.1)
  | [], rows, ns, h => fun row hr => by rw [List.map_nil, List.append_nil]; exact h row hr
  | e :: t1, rows, ns, h => fun row hr => by
    have := fold_names t1 (longer rs f rows e) (ns ++ [e.1]) (fun x hx => by
      obtain ⟨y, hy, hx⟩ := List.mem_flatMap.mp hx
      obtain ⟨p, hp, rfl⟩ := List.mem_map.mp hx
      have hp := (List.mem_filter.mp hp).1
      unfold prsOf at hp
      obtain ⟨v, _, rfl⟩ := List.mem_map.mp hp
      rw [List.map_append, h y hy] <;> rfl) row hr
    rw [this, List.append_assoc] <;> rfl
theorem fold_all {rs : List (List Pr)} {f : List Pr} {ok : Pr → Prop} : ∀ (t1 : Tbl) (rows : List (List Pr)), (∀ row ∈ rows, ∀ e ∈ row, ok e) → (∀ x ∈ t1, ∀ v ∈ x.2, ok (x.1, v)) → ∀ row ∈ t1.foldl (longer rs f) rows, ∀ e ∈ row, ok e
  | [], rows, h, _ => h
  | x :: t1, rows, h, g => fold_all t1 (longer rs f rows x) (fun row hr => by
      obtain ⟨y, hy, hx⟩ := List.mem_flatMap.mp hr
      obtain ⟨p, hp, rfl⟩ := List.mem_map.mp hx
      have hp := (List.mem_filter.mp hp).1
      unfold prsOf at hp
      obtain ⟨v, hv, rfl⟩ := List.mem_map.mp hp
      intro e he
      rcases List.mem_append.mp he with he | he
      · exact h y hy e he
      · rw [List.mem_singleton.mp he]
        exact g x List.mem_cons_self v (List.mem_filter.mp hv).1) (fun y hy => g y (List.mem_cons_of_mem _ hy))
theorem nodup_inj {α β : Type} {f : α → β} (inj : ∀ a b, f a = f b → a = b) : ∀ {l : List α}, l.Nodup → (l.map f).Nodup
  | [], _ => List.nodup_nil
  | x :: l, h => by
    have h := List.nodup_cons.mp h
    rw [List.map_cons, List.nodup_cons]
    refine ⟨fun z => ?_, nodup_inj inj h.2⟩
    obtain ⟨y, hy, e⟩ := List.mem_map.mp z
    rw [inj _ _ e] at hy
    exact h.1 hy
theorem rulesAtS {K : PySem.W.Frag} {H H' : Hp} {p : Addr} {rs : List (List Pr)} (s : Same H H') (h : RulesAt K H p rs) : RulesAt K H' p rs := by
  obtain ⟨ps, a, b⟩ := h
  exact ⟨ps, a.same s, rules_same s b⟩
theorem prs_nodup {f : List Pr} {e : Str × List Str} (h : e.2.Nodup) : (prsOf f e).Nodup := by
  unfold prsOf
  exact nodup_inj (fun a b z => (Prod.mk.inj z).2) (h.filter _)
theorem keys_nodup {l : List Pr} (h : l.Nodup) : (l.map keyOf).Nodup := nodup_inj (fun a b z => keyOf_inj z) h
/-- a form whose parts are as they are made -/
structure FormOk (t : Tbl) (rs : List (List Pr)) : Prop where
  nd : (t.map (·.1)).Nodup
  ts : TStr t
  lo : ∀ e ∈ t, 1 ≤ e.2.length
  vn : ∀ e ∈ t, e.2.Nodup ∧ e.2.length ≤ 1000
  ws : waysFrom 1 t ≤ 1000
  rq : ∀ r ∈ rs, RSeq t r
  ro : ∀ r ∈ rs, RStr r
  rl : rs.length ≤ 1000
  rr : ∀ r ∈ rs, r.length ≤ 1000
/-- facts as dict(..) takes them -/
def FaZ (K : PySem.W.Frag) (H : Hp) (v : V) (d : PyData) : Prop := ∃ (q : Addr) (zs : List V) (gs : List PyData), v = .ref q ∧ (SqL K H q zs ∨ SqZ H q zs) ∧ rowOf d = some gs ∧ DpAll K H zs gs
def spFillings (K : PySem.W.Frag) (C CV : Addr) : Sp := fun vs H Q E => ∃ (x pf pr : Addr) (v : V) (t : Tbl) (rs : List (List Pr)) (d : PyData), vs = [.ref x, v] ∧ FormAt C H x pf pr ∧ TabAt K H pf t ∧ RulesAt K H pr rs ∧ FormOk t rs ∧ Dp K H v d ∧ FOk d ∧ (areFacts t d = true → FaZ K H v d) ∧
  (areFacts t d = false → ∀ dd H', Same H H' → H' dd = none → E (.ref CV) (some dd) (L2.upd H' dd (.xd [("at", .int 1)]))) ∧ (areFacts t d = true → ∀ z H', Same H H' → RowsAt K H' z (fills rs (factsOf d) t) → Q (.ref z) H')
def spRowsFit (K : PySem.W.Frag) (C : Addr) : Sp := fun vs H Q _ => ∃ (x pf pr : Addr) (v : V) (t : Tbl) (rs : List (List Pr)) (d : PyData), vs = [.ref x, v] ∧ FormAt C H x pf pr ∧ TabAt K H pf t ∧ RulesAt K H pr rs ∧ FormOk t rs ∧ areFacts t d = true ∧ FaZ K H v d ∧
  ∀ z H', Same H H' → RowsAt K H' z (fills rs (factsOf d) t) → Q (.ref z) H'
/-- what is known of BadValue -/
structure Bv (K : PySem.W.Frag) (mg : Str → Option Value) (CV : Addr) : Prop where
  v : ∃ fI qual, XM.XcT K CV fI "at" qual
  gv : mg "BadValue" = some (.ref CV)
theorem pi_rowK {X : Cx} {tg e : Expr} {te : TE} (K : PySem.W.Frag) (h : X.K = K) (he : PE X e te) : PI X tg e (iRow K te) := by
  subst h
  exact pi_row he
abbrev nFill : List Str := ["form", "facts", "value_of", "rows", "name", "values", "value", "pairs", "pair", "bars", "row"]
section
variable {P : Program} {w : World} {K : PySem.W.Frag} {mg : Str → Option Value} {base : Heap}
theorem scFill : FnScope nFill ["form", "facts"] (defScope sRowsThatFit) := ⟨rfl, rfl, rfl, by decide +kernel, rfl, by decide +kernel, by decide +kernel⟩
theorem ok_rowsfit {f C : Addr} {fd : FuncData} (F : Fun K "rows_that_fit" "rows_that_fit" sRowsThatFit f fd) (Z : Fk P w K mg base C) (Td : mg "dict" = none) (Tt : mg "tuple" = none)
    (KB : Kn P w K mg base 2 "_bars" ["form", "pair"] (spBars K C)) (KS : Kn P w K mg base 1 "_one_stands" ["lots", "row"] (spStands K)) : FnOk P w K mg base CX0 3 f fd ["form", "facts"] (spRowsFit K C) := by
  obtain ⟨fB, fdB, GB, kB, bB, mB⟩ := KB.ex
  obtain ⟨fS, fdS, GS, kS, bS, mS⟩ := KS.ex
  obtain ⟨fG, fdG, GG, bG, mG⟩ := Z.gf
  refine F.ok scFill (fun vs H Q E h => ?_) (fun cdv A outer s H vs Q E hr h => ?_)
  · obtain ⟨x, pf, pr, v, t, rs, d, rfl, _⟩ := h
    rfl
  have vd_ : PySem.bootBuiltins "dict" = some (.type "dict") := by decide +kernel
  have vt_ : PySem.bootBuiltins "tuple" = some (.type "tuple") := by decide +kernel
  have hr1 : Room 1 _ := hr.mono (by decide)
  have hu1 : (A.deeper (PyProof.Rows.envOfC "rows_that_fit" (defScope sRowsThatFit) s.heap.objs.size f cdv)).units + 1 < cLine := hu_of hr
  have hu0 : (A.deeper (PyProof.Rows.envOfC "rows_that_fit" (defScope sRowsThatFit) s.heap.objs.size f cdv)).units < cLine := by omega
  refine ⟨_, pss_cons (ps_set (i := 2) scFill.nd rfl (.inr rfl) (pe_callTy (call_dictZ (by rfl)) rfl Td vd_ (pa_cons (pv 1) pa_nil)))
    (pss_cons (ps_set (i := 3) scFill.nd rfl (.inl rfl) (pe_lst (pa_cons (pe_tupZ pa_nil) pa_nil)))
    (pss_cons (ps_for PassesOwn.never rfl (pi_row (pe_meth0 (pv 0) Z.fc.cl mG GG hr1 bG .nil pass0)) (pg_row rfl (pgs_cons (pg_name (i := 4) scFill.nd rfl (.inr rfl)) (pgs_cons (pg_name (i := 5) scFill.nd rfl (.inl rfl)) pgs_nil)))
      (pss_cons (ps_set (i := 7) scFill.nd rfl (.inr rfl) (pe_lc (own := [("value", 6)]) (g := gName 6) (by rfl) scFill.nd (pi_row (pv 5)) (blkOk_by (N := nFill) (sc := defScope sRowsThatFit) (by decide +kernel))
        (fun _ _ _ _ _ => pg_name (i := 6) scFill.nd rfl (.inl rfl)) (fun _ _ _ _ _ => pts_one (pt_cmpR op_eq (pe_dget2 hu1 (pv 2) (pv 4) (pv 6) ⟨rfl, rfl, rfl, rfl⟩) (pv 6) (nomark _)))
        (fun _ _ _ _ _ => pe_tup (pa_cons (pv 4) (pa_cons (pv 6) pa_nil)))))
      (pss_cons (ps_set (i := 9) scFill.nd rfl (.inr rfl) (XK.pe_dcT (own := [("pair", 8)]) (g := gName 8) (tt := tYes) hu0 (by rfl) scFill.nd (pi_row (pv 7)) (blkOk_by (N := nFill) (sc := defScope sRowsThatFit) (by decide +kernel))
        (fun _ _ _ _ _ => pg_name (i := 8) scFill.nd rfl (.inl rfl)) (fun _ _ _ _ _ => pts_nil) (fun _ _ _ _ _ => pv 8) (fun _ _ _ _ _ => pe_call GB (hr.mono (by decide)) rfl mB kB bB .nil pass0 (pa_cons (pv 0) (pa_cons (pv 8) pa_nil)))))
      (pss_one (ps_setLc2 (i := 3) (own := [("row", 10), ("pair", 8)]) (vs1 := [8]) (g := gName 10) (g1 := gName 8) (tt := tYes) (by rfl) scFill.nd rfl rfl (sw_true rfl rfl rfl (by decide +kernel)) (pi_row (pv 3)) (blkOk_by (N := nFill) (sc := defScope sRowsThatFit) (by decide +kernel)) (by decide)
        (fun _ _ _ _ _ => pg_name (i := 10) scFill.nd rfl (.inl rfl)) (fun _ _ _ _ _ => pts_nil) (fun _ _ _ _ _ => pi_rowK K rfl (pv 7)) (fun _ _ _ _ _ => pg_name (i := 8) scFill.nd rfl (.inl rfl))
        (fun _ _ _ _ _ => pts_one (pt_not (pt_val (pe_call GS hr1 rfl mS kS bS .nil pass0 (pa_cons (pe_dget hu1 (pv 9) (pv 8) (fun _ _ => rfl)) (pa_cons (pv 10) pa_nil))))))
        (fun _ _ _ _ _ => pe_op (op_catAK K rfl) (pv 10) (pe_tupZ (pa_cons (pv 8) pa_nil))))))))
    (pss_one (ps_ret (pe_callTy (call_tupK K rfl) rfl Tt vt_ (pa_cons (pv 3) pa_nil)))))), ?_⟩
  obtain ⟨x, pf, pr, v, t, rs, d, rfl, ⟨dx, hx⟩, hT, hR, O, eA, hz, kyes⟩ := h
  obtain ⟨q, zs, gs, rfl, hq, er, hzs⟩ := hz
  have s1 := Same.refl H
  obtain ⟨ps, kvs, rfl, hF, hnd, _, hin⟩ := facts_good hzs (facts_go er eA).2
  have ef : factsOf d = gs.map factOf := by
    unfold factsOf
    rw [er]
  rw [← ef] at hF hnd hin
  refine ⟨_, rfl, q, ps, kvs, rfl, hq.elim (fun z => .inl (s1.seq z)) (fun z => .inr (z.same s1)), (hF.same s1).prs, fun C1 hC1 => ?_⟩
  have hmk : mergeK [] kvs = kvs := (merge_nodup kvs [] (fun _ _ => rfl) (by rw [hF.keys]; exact nodup_inr hnd)).trans (List.nil_append kvs)
  rw [hmk]
  have s2 : Same H (L2.upd H C1 (.dK kvs)) := new_same hC1 _
  have s02 := s1.trans s2
  have hC2 := upd_same (H := H) (a := C1) (o := .dK kvs)
  generalize L2.upd H C1 (.dK kvs) = H2 at s2 s02 hC2
  try dsimp only
  refine ⟨by show 0 ≤ sizeLine; decide, fun u1 o1 hu1' _ => ⟨by show 1 ≤ sizeLine; decide, fun R1 hR1 => ?_⟩⟩
  have s3 := new_same hu1' (.frz o1 (.tup []))
  have s4 := new_same hR1 (.lst [V.ref u1])
  have s04 := s02.trans (s3.trans s4)
  have hC4 := s4 _ _ (s3 _ _ hC2)
  have rows0 : RowAt K (L2.upd (L2.upd H2 u1 (.frz o1 (.tup []))) R1 (.lst [V.ref u1])) (.ref u1) [] := ⟨u1, [], rfl, .inl (.inr ⟨o1, s4 _ _ upd_same⟩), .nil⟩
  have hR4 := upd_same (H := L2.upd H2 u1 (.frz o1 (.tup []))) (a := R1) (o := .lst [V.ref u1])
  generalize L2.upd (L2.upd H2 u1 (.frz o1 (.tup []))) R1 (.lst [V.ref u1]) = H4 at s04 hC4 rows0 hR4 s4
  try dsimp only
  obtain ⟨ps0, tk, hpz, hTR, _, _⟩ := hT
  have htl : (ps0.map V.ref).length = t.length := by rw [List.length_map, hTR.len.1]
  have hx4 := s04 _ _ hx
  refine for_row (ys := ps0.map V.ref) (H0 := H4) (fun i σ H' => ∃ (Rw : Addr) (f4 f5 f7 f9 : Option V) (ws : List V), σ = [some (.ref x), some (.ref q), some (.ref C1), some (.ref Rw), f4, f5, none, f7, none, f9, none] ∧ SqL K H' Rw ws ∧ Paired (RowAt K H') ws ((t.take i).foldl (longer rs (factsOf d)) [[]]) ∧ Same H4 H') (fun Q' z => ⟨_, rfl, x, dx, _, rfl, hx4, noF, x, pf, pr, rfl, ⟨dx, hx4⟩, z⟩)
    (.inr (hpz.same s04).sqT) ⟨R1, none, none, none, none, [.ref u1], rfl, SqL.of hR4, .cons rows0 .nil, Same.refl H4⟩ (fun i σ H' hP => by obtain ⟨_, _, _, _, _, _, _, _, _, z⟩ := hP; exact z) ?_ ?_
  · rintro i y σ H5 hi ⟨Rw, f4, f5, f7, f9, ws, rfl, hRw, hrows, s5⟩ hy
    obtain ⟨q1, v1, n, vals, rfl, e1, e2, e3⟩ := hTR.at hy
    have hmem := List.mem_of_getElem? e1
    have hvs : (vals.map V.str).length ≤ 1000 := by rw [List.length_map]; exact (O.vn _ hmem).2
    have s05 := s04.trans s5
    let fs := factsOf d
    have hC5 := s5 _ _ hC4
    refine .inl ⟨q1, _, rfl, seqT_same s05 e2, rfl, .str n, _, rfl, .ref v1, [], rfl, rfl, ?_⟩
    refine asg_lcX ?_
    refine lc_g (ys := vals.map V.str) (fun i v R => ∃ p, v = .ref p ∧ PairAt R p (n, vals.getD i Str.empty)) (fun i => letV fs n (vals.getD i Str.empty)) (fun i v R R' s ⟨p, e, h⟩ => ⟨p, e, h.same s⟩) (fun Q' z => ⟨_, rfl, z⟩) (.inr (seqT_same s05 e3)) hvs (fun D j y H' yes no AD s6 s7 hy hyes hno => ?_) (fun D7 H7 zs7 hD7 s7 hz7 hP7 => ?_)
    · obtain ⟨val, ev, rfl⟩ : ∃ val, vals[j]? = some val ∧ y = .str val := by
        rw [List.getElem?_map] at hy
        obtain ⟨p, a, b⟩ := Option.map_eq_some_iff.mp hy
        exact ⟨p, a, b.symm⟩
      have eg := getD_of (d := Str.empty) ev
      refine ⟨rfl, ?_⟩
      refine ⟨_, rfl, C1, rfl, .inl ⟨_, .inl (s6 _ _ hC5)⟩, _, rfl, _, rfl, _, DGet.k (k := .inr n) (s6 _ _ hC5), ?_⟩
      rw [hF.val]
      have eo : ((pick n (factsOf d)).map V.str).getD (.str val) = .str ((pick n (factsOf d)).getD val) := by
        cases pick n (factsOf d) <;> rfl
      rw [eo]
      refine ⟨_, rfl, rfl, _, rfl, ?_⟩
      have ed : decide (V.str ((pick n (factsOf d)).getD val) = V.str val) = letV fs n (vals.getD j Str.empty) := by
        rw [eg]
        exact decide_eq_decide.mpr ⟨fun z => V.str.inj z, fun z => by rw [z]⟩
      rw [ed]
      cases hs : letV fs n (vals.getD j Str.empty) with
      | false => exact iteF (hno hs _ (Same.refl _))
      | true =>
        refine iteT ⟨_, rfl, _, rfl, by show 2 ≤ sizeLine; decide, fun p hp => ?_⟩
        refine hyes hs _ _ (new_same hp _) ⟨p, rfl, ?_⟩
        show rmL [D] _ p = _
        rw [rm_new AD hp, eg]
    have hsel : ((List.range (vals.map V.str).length).filter fun i => letV fs n (vals.getD i Str.empty)).map (fun i => ((n, vals.getD i Str.empty) : Pr)) = prsOf fs (n, vals) := by
      unfold prsOf
      conv => rhs; rw [← map_range vals Str.empty]
      rw [List.length_map, List.filter_map, List.map_map] <;> rfl
    obtain ⟨ps7, rfl, hp7⟩ := refs_of hP7
    rw [hsel] at hp7
    have hp7 : Paired (PairAt H7) ps7 (prsOf fs (n, vals)) := prd_imp (fun _ _ z => z.same rm_le) hp7
    have hl7 := prd_len hp7
    have hpl : (prsOf fs (n, vals)).length ≤ 1000 := by
      unfold prsOf
      rw [List.length_map]
      exact Nat.le_trans (List.length_filter_le _ _) (by rw [List.length_map] at hvs; exact hvs)
    have pok : ∀ e ∈ prsOf fs (n, vals), PyData.strOk e.1 = true ∧ PyData.strOk e.2 = true := fun e he => by
      unfold prsOf at he
      obtain ⟨v, hv, rfl⟩ := List.mem_map.mp he
      exact ⟨(O.ts _ hmem).1, (O.ts _ hmem).2 _ (List.mem_filter.mp hv).1⟩
    have s07 := s05.trans s7
    try dsimp only
    refine asg_dcT ?_
    refine dcT_g (ys := ps7.map V.ref) ((prsOf fs (n, vals)).map keyOf) (fun i v R => ∃ z, v = .ref z ∧ LotsAt K R z (barsOf rs ((prsOf fs (n, vals)).getD i d0))) (fun i v R R' s ⟨p, e, h⟩ => ⟨p, e, h.same s⟩) (fun Q' z => ⟨_, rfl, z⟩) (.inl (SqL.of hz7)) (by rw [List.length_map, List.length_map, hl7]) (keys_nodup (prs_nodup (O.vn _ hmem).1)) (by rw [List.length_map]; omega) (fun D j y H' yes hDT s8 s9 hy hyes => ?_) (fun D9 H9 zs9 hD9 s9 hz9 hl9 hP9 => ?_)
    · obtain ⟨p, ep, rfl⟩ : ∃ p, ps7[j]? = some p ∧ y = .ref p := by
        rw [List.getElem?_map] at hy
        obtain ⟨p, a, b⟩ := Option.map_eq_some_iff.mp hy
        exact ⟨p, a, b.symm⟩
      obtain ⟨e, ee, hpe⟩ := prd_at hp7 ep
      have eg := getD_of (d := d0) ee
      obtain ⟨es, hes⟩ := hDT
      obtain ⟨pe1, pe2⟩ := pok e (List.mem_of_getElem? ee)
      have s08 := s07.trans s8
      have hpe8 := hpe.same s8
      refine ⟨rfl, _, rfl, _, rfl, _, rfl, x, pf, pr, p, rs, e, rfl, ⟨dx, s08 _ _ hx⟩, rulesAtS s08 hR, fun r hr => ⟨O.ro r hr, (O.rq r hr).1⟩, O.rl, .inl (.inl hpe8), pe1, pe2, fun z H'' sz hl => ?_⟩
      refine hyes (keyOf e) p (.ref z) H'' (by rw [List.getElem?_map, ee] <;> rfl) (hpe8.same sz) sz ⟨z, rfl, ?_⟩
      rw [eg]
      exact hl.dT (sz _ _ hes)
    try dsimp only
    have hp9 : Paired (PairAt H9) ps7 (prsOf fs (n, vals)) := prd_imp (fun _ _ z => z.same s9) hp7
    have s59 := s7.trans s9
    have hrows9 : Paired (RowAt K H9) ws ((t.take i).foldl (longer rs fs) [[]]) := prd_imp (fun _ _ z => z.same s59) hrows
    have hwl := prd_len hrows9
    have next : (t.take (i + 1)).foldl (longer rs fs) [[]] = longer rs fs ((t.take i).foldl (longer rs fs) [[]]) (n, vals) := by
      rw [take_one e1, List.foldl_append] <;> rfl
    have fewer : (longer rs fs ((t.take i).foldl (longer rs fs) [[]]) (n, vals)).length ≤ 1000 := by
      rw [← next]
      exact Nat.le_trans (fills_len _ _ 1 (Nat.le_refl 1)) (Nat.le_trans (ways_take _ _ _ O.lo) O.ws)
    have hp7l : (ps7.map V.ref).length = (prsOf fs (n, vals)).length := by rw [List.length_map, hl7]
    have hti : (t.take i).length ≤ 1000 := by
      rw [List.length_map] at htl
      rw [List.length_take]
      omega
    have hrowlen : ∀ row ∈ (t.take i).foldl (longer rs fs) [[]], row.length ≤ i := fun row hr => by
      have := fold_names (t.take i) [[]] [] (fun x hx => by rw [List.mem_singleton.mp hx] <;> rfl) row hr
      have := congrArg List.length this
      rw [List.length_map, List.nil_append, List.length_map, List.length_take] at this
      omega
    have hrowstr : ∀ row ∈ (t.take i).foldl (longer rs fs) [[]], RStr row := fun row hr => fold_all (ok := fun e => PyData.strOk e.1 = true ∧ PyData.strOk e.2 = true) (t.take i) [[]] (fun x hx => by rw [List.mem_singleton.mp hx]; exact fun e he => absurd he List.not_mem_nil)
      (fun y hy v hv => ⟨(O.ts y (List.mem_of_mem_take hy)).1, (O.ts y (List.mem_of_mem_take hy)).2 v hv⟩) row hr
    generalize hrw : (t.take i).foldl (longer rs fs) [[]] = rows at hrows hrows9 hwl next fewer hrowlen hrowstr
    refine asg_lc2 ?_
    refine lc_g2 (ys := ws) (us := ps7.map V.ref) (fun ij v R => RowAt K R v (rows.getD ij.1 [] ++ [(prsOf fs (n, vals)).getD ij.2 d0])) (fun i j => !oneStands (barsOf rs ((prsOf fs (n, vals)).getD j d0)) (rows.getD i [])) (fun i v R R' s h => h.same s) (fun Q' z => ⟨_, rfl, z⟩) (.inl (s59.seq hRw)) (.inl (SqL.of (s9 _ _ hz7))) ?_ (fun D k y H' AD s10 s11 hy rest step => ?_) (fun D H' zs hD s10 hz10 hP10 => ?_)
    · rw [hwl, hp7l, ← List.length_map, grid_longer]
      exact fewer
    · -- one row
      obtain ⟨row, erow, hrowk⟩ := prd_at hrows9 hy
      have erg := getD_of (d := ([] : List Pr)) erow
      obtain ⟨pr0, qs0, rfl, hr0, hqs0⟩ := hrowk
      have rmem := List.mem_of_getElem? erow
      refine step _ rfl (fun R' z => ⟨_, rfl, z⟩) fun j u H3 yes no AD3 s12 s13 hu hyes hno => ?_
      obtain ⟨p, ep, rfl⟩ : ∃ p, ps7[j]? = some p ∧ u = .ref p := by
        rw [List.getElem?_map] at hu
        obtain ⟨p, a, b⟩ := Option.map_eq_some_iff.mp hu
        exact ⟨p, a, b.symm⟩
      obtain ⟨e, ee, hpe⟩ := prd_at hp9 ep
      have eg := getD_of (d := d0) ee
      have hkl : j < (prsOf fs (n, vals)).length := (List.getElem?_eq_some_iff.mp ee).1
      obtain ⟨zb, hzb⟩ : ∃ zb, zs9[j]? = some zb := ⟨_, List.getElem?_eq_getElem (by rw [hl9, List.length_map]; exact hkl)⟩
      obtain ⟨zl, rfl, hzl⟩ := hP9 j zb hzb
      rw [eg] at hzl
      have hg := DGet.t (a := D9) (k := keyOf e) (s12 _ _ hz9) (s12 _ _ hpe)
      rw [valV_zip (keys_nodup (prs_nodup (O.vn _ hmem).1)) (by rw [List.getElem?_map, ee] <;> rfl) hzb] at hg
      refine ⟨rfl, ?_⟩
      refine ⟨_, rfl, _, rfl, D9, _, rfl, hg, _, rfl, zl, pr0, barsOf rs e, row, rfl, (hzl.same rm_le).same s12, ⟨qs0, seqT_same s12 hr0, prd_imp (fun _ _ z => .inl (.inl (s12 _ _ z))) hqs0⟩, fun l hl => ?_, hrowstr row rmem, fun H6 s14 => ⟨_, rfl, ?_⟩⟩
      · unfold barsOf at hl
        obtain ⟨r, hr', rfl⟩ := List.mem_map.mp hl
        have hr' := (List.mem_filter.mp hr').1
        refine ⟨fun y hy => O.ro r hr' y (List.dropLast_subset _ hy), ?_⟩
        rw [List.length_dropLast]
        have := O.rr r hr'
        omega
      · have hsel : (!oneStands (barsOf rs ((prsOf fs (n, vals)).getD j d0)) (rows.getD k [])) = !oneStands (barsOf rs e) row := by rw [eg, erg]
        cases ho : oneStands (barsOf rs e) row with
        | true => exact iteF (hno (by rw [hsel, ho] <;> rfl) _ s14)
        | false =>
          refine iteT ?_
          have done : ∀ (z : Addr) (H7 : Hp), Same H6 H7 → RowAt K (rmL [D] H7) (.ref z) (row ++ [e]) → yes (.ref z) H7 := fun z H7 s hz => hyes (by rw [hsel, ho] <;> rfl) _ _ (s14.trans s) (by
            show RowAt K (rmL [D] H7) (.ref z) (rows.getD k [] ++ [(prsOf fs (n, vals)).getD j d0])
            rw [eg, erg]
            exact hz)
          have AD6 : Alive [D] H6 := AD3.same s14
          refine ⟨_, rfl, _, rfl, by show 1 ≤ sizeLine; decide, fun y o hy' ho' => ?_⟩
          have sy := new_same hy' (.frz o (.tup [V.ref p]))
          have same6 : Same H9 (rmL [D] (L2.upd H6 y (.frz o (.tup [V.ref p])))) := s13.trans (rm_same (s14.trans sy))
          have hp6 : PairAt (rmL [D] (L2.upd H6 y (.frz o (.tup [V.ref p])))) p e := hpe.same same6
          have hq6 : Paired (PairAt (rmL [D] (L2.upd H6 y (.frz o (.tup [V.ref p]))))) qs0 row := prd_imp (fun _ _ z => z.same same6) hqs0
          refine ⟨pr0, y, qs0.map V.ref, [V.ref p], rfl, rfl, seqT_same ((s12.trans s14).trans sy) hr0, .inl (.inr ⟨o, upd_same⟩), ?_, fun e0 => ?_, fun _ z => (by cases z), fun _ _ z hz => ?_⟩
          · have := prd_len hqs0
            have := hrowlen row rmem
            refine le_line ?_
            rw [List.length_map, List.length_singleton]
            omega
          · have q0 : qs0 = [] := List.map_eq_nil_iff.mp e0
            subst q0
            cases hqs0
            exact done y _ sy ⟨y, [p], rfl, .inl (.inr ⟨o, rm_new AD6 hy'⟩), .cons hp6 .nil⟩
          · have sz := new_same hz (.tup (qs0.map V.ref ++ [V.ref p]))
            refine done z _ (sy.trans sz) ⟨z, qs0 ++ [p], rfl, .inl (.inl ?_), ?_⟩
            · rw [rm_new (AD6.same sy) hz, List.map_append] <;> rfl
            · exact prd_imp (fun _ _ z => z.same (rm_same sz)) (prd_snoc hq6 hp6)
    · have hP10 := vals_of hP10
      rw [hwl, hp7l, grid_longer, ← next] at hP10
      exact ⟨D, _, _, _, _, zs, rfl, SqL.of hz10, prd_imp (fun _ _ z => z.same rm_le) hP10, (s5.trans s59).trans s10⟩
  · rintro σ H5 ⟨Rw, f4, f5, f7, f9, ws, rfl, hRw, hrows, s5⟩
    rw [htl, List.take_of_length_le (Nat.le_refl _)] at hrows
    refine ⟨_, rfl, Rw, ws, rfl, .inl ⟨hRw, fun l o hl hod => ?_⟩⟩
    have sl := new_same hl (.frz o (.tup ws))
    exact kyes l _ ((s04.trans s5).trans sl) ⟨ws, .inl (.inr ⟨o, upd_same⟩), prd_imp (fun _ _ z => z.same sl) hrows⟩
end
end Q
set_option Elab.async false
set_option linter.all false
set_option maxRecDepth 100000
set_option maxHeartbeats 4000000
/-! ### what SAgree, SDue, SKnown have that speaks of no law's own defs -/
namespace Q
open PySem L2 XD
structure Known (t : List (Str × List Str)) (r : List (Str × Str)) : Prop where
  hi : r.length ≤ t.length
  nd : (r.map (·.1)).Nodup
  of : ∀ e ∈ r, ∃ ws, (e.1, ws) ∈ t ∧ e.2 ∈ ws
theorem mem_bySeq {t : Tbl} {b : List Pr} (h : ∀ e ∈ b, ∃ ws, (e.1, ws) ∈ t) (p : Pr) : p ∈ bySeq t b ↔ p ∈ b := by
  unfold bySeq
  rw [List.mem_flatMap]
  constructor
  · rintro ⟨e, _, he⟩
    exact (List.mem_filter.mp he).1
  · intro hp
    obtain ⟨ws, hw⟩ := h p hp
    exact ⟨(p.1, ws), hw, List.mem_filter.mpr ⟨hp, decide_eq_true rfl⟩⟩
theorem within_bySeq {t : Tbl} {b row : List Pr} (h : ∀ e ∈ b, ∃ ws, (e.1, ws) ∈ t) : within (bySeq t b) row = within b row := by
  rw [Bool.eq_iff_iff, within_iff, within_iff]
  exact ⟨fun g p hp => g p ((mem_bySeq h p).mpr hp), fun g p hp => g p ((mem_bySeq h p).mp hp)⟩
theorem filter_one {n : Str} : ∀ {b : List Pr}, (b.map (·.1)).Nodup → ((b.filter fun f => decide (f.1 = n)).map (·.1)).Sublist [n]
  | [], _ => List.nil_sublist _
  | x :: b, h => by
    rw [List.map_cons, List.nodup_cons] at h
    by_cases e : x.1 = n
    · rw [List.filter_cons_of_pos (by exact decide_eq_true e), List.map_cons, e]
      have : b.filter (fun f => decide (f.1 = n)) = [] := List.filter_eq_nil_iff.mpr fun y hy z => h.1 (by
        rw [e, ← of_decide_eq_true z]
        exact List.mem_map.mpr ⟨y, hy, rfl⟩)
      rw [this]
      exact List.Sublist.refl _
    · have e2 : ¬ (decide (x.1 = n)) = true := fun z => e (of_decide_eq_true z)
      rw [List.filter_cons_of_neg (p := fun f : Pr => decide (f.1 = n)) e2]
      exact filter_one h.2
theorem bySeq_sub {b : List Pr} (h : (b.map (·.1)).Nodup) : ∀ t : Tbl, ((bySeq t b).map (·.1)).Sublist (t.map (·.1))
  | [] => List.nil_sublist _
  | e :: t => by
    have ih := bySeq_sub h t
    unfold bySeq at ih ⊢
    rw [List.flatMap_cons, List.map_append, List.map_cons]
    exact (filter_one h).append ih
theorem once_mem {rs : List (List Pr)} {r : List Pr} : r ∈ once rs ↔ r ∈ rs := by
  have : ∀ (l acc : List (List Pr)), r ∈ l.foldl (fun acc r => if r ∈ acc then acc else acc ++ [r]) acc ↔ r ∈ acc ∨ r ∈ l := by
    intro l
    induction l with
    | nil => intro acc; simp
    | cons x l ih =>
      intro acc
      rw [List.foldl_cons, ih]
      by_cases h : x ∈ acc
      · rw [if_pos h, List.mem_cons]
        constructor
        · rintro (a | a)
          · exact .inl a
          · exact .inr (.inr a)
        · rintro (a | a | a)
          · exact .inl a
          · rw [a]; exact .inl h
          · exact .inr a
      · rw [if_neg h, List.mem_append, List.mem_singleton, List.mem_cons]
        constructor
        · rintro ((a | a) | a)
          · exact .inl a
          · exact .inr (.inl a)
          · exact .inr (.inr a)
        · rintro (a | a | a)
          · exact .inl (.inl a)
          · exact .inl (.inr a)
          · exact .inr a
  unfold once
  rw [this]
  simp
theorem once_le (rs : List (List Pr)) : (once rs).length ≤ rs.length := by
  have : ∀ (l acc : List (List Pr)), (l.foldl (fun acc r => if r ∈ acc then acc else acc ++ [r]) acc).length ≤ acc.length + l.length := by
    intro l
    induction l with
    | nil => intro acc; simp
    | cons x l ih =>
      intro acc
      rw [List.foldl_cons]
      refine Nat.le_trans (ih _) ?_
      by_cases h : x ∈ acc
      · rw [if_pos h, List.length_cons]
        omega
      · rw [if_neg h, List.length_append, List.length_singleton, List.length_cons]
        omega
  have := this rs []
  unfold once
  rw [List.length_nil, Nat.zero_add] at this
  exact this
theorem pick_of {n w : Str} : ∀ {r : List Pr}, (r.map (·.1)).Nodup → (n, w) ∈ r → pick n r = some w
  | (m, u) :: r, h, hm => by
    rw [List.map_cons, List.nodup_cons] at h
    unfold pick
    rcases List.mem_cons.mp hm with e | e
    · cases e
      rw [if_pos rfl]
    · rw [if_neg (fun z => h.1 (by have z : m = n := z; show m ∈ _; rw [z]; exact List.mem_map.mpr ⟨_, e, rfl⟩))]
      exact pick_of h.2 e
theorem pick_memS {n w : Str} : ∀ {r : List Pr}, pick n r = some w → (n, w) ∈ r
  | (m, u) :: r, h => by
    unfold pick at h
    by_cases e : m = n
    · rw [if_pos e] at h
      cases h
      rw [e]
      exact List.mem_cons_self
    · rw [if_neg e] at h
      exact List.mem_cons_of_mem _ (pick_memS h)
theorem all_let {t : Tbl} {kn row : List Pr} (nd : (t.map (·.1)).Nodup) (kd : (kn.map (·.1)).Nodup) (kt : ∀ e ∈ kn, ∃ ws, (e.1, ws) ∈ t) (hn : row.map (·.1) = t.map (·.1)) : (row.all fun p => letV kn p.1 p.2) = within kn row := by
  rw [Bool.eq_iff_iff, List.all_eq_true, within_iff]
  have one : ∀ p ∈ row, ∀ q ∈ row, p.1 = q.1 → p = q := fun p hp q hq e => by
    obtain ⟨i, hi, rfl⟩ := List.mem_iff_getElem.mp hp
    obtain ⟨j, hj, rfl⟩ := List.mem_iff_getElem.mp hq
    rw [← hn] at nd
    have h1 : (row.map (·.1))[i]'(by rw [List.length_map]; exact hi) = (row.map (·.1))[j]'(by rw [List.length_map]; exact hj) := by rw [List.getElem_map, List.getElem_map, e]
    have := (List.getElem_inj nd).mp h1
    subst this
    rfl
  constructor
  · intro h e he
    obtain ⟨ws, hw⟩ := kt e he
    have : e.1 ∈ row.map (·.1) := by
      rw [hn]
      exact List.mem_map.mpr ⟨_, hw, rfl⟩
    obtain ⟨p, hp, hpe⟩ := List.mem_map.mp this
    have h1 := of_decide_eq_true (h p hp)
    rw [show p.1 = e.1 from hpe, pick_of kd (show (e.1, e.2) ∈ kn from he)] at h1
    have : p = e := Prod.ext hpe (Eq.symm h1)
    rw [← this]
    exact hp
  · intro h p hp
    refine decide_eq_true ?_
    cases e : pick p.1 kn with
    | none => rfl
    | some w =>
      have := h _ (pick_memS e)
      have := one _ this p hp rfl
      rw [← this] <;> rfl
theorem Ban.ne {t : Tbl} {m : Nat} {r : List Pr} (B : Ban t m r) : bySeq t r ≠ [] := by
  have h1 := B.lo
  cases hr : r with
  | nil =>
    rw [hr] at h1
    cases h1
  | cons x l =>
    have hx : x ∈ r := by rw [hr]; exact List.mem_cons_self
    have : x ∈ bySeq t r := (mem_bySeq (fun e he => by obtain ⟨ws, a, _⟩ := B.of e he; exact ⟨ws, a⟩) x).mpr hx
    rw [← hr]
    exact fun z => by rw [z] at this; cases this
theorem form_ok {t : Tbl} {rs : List (List Pr)} (G : Good t rs) : FormOk t (once (rs.map (bySeq t))) := by
  have T := G.tb
  have ts : TStr t := fun e he => ⟨word_ok (T.nm.2 _ (List.mem_map.mpr ⟨e, he, rfl⟩)), fun w hw => word_ok ((T.vs e he).1.2 w hw)⟩
  have key : ∀ r ∈ once (rs.map (bySeq t)), ∃ b ∈ rs, r = bySeq t b ∧ Ban t 4 b := fun r hr => by
    obtain ⟨b, hb, rfl⟩ := List.mem_map.mp (once_mem.mp hr)
    exact ⟨b, hb, rfl, G.bs b hb⟩
  refine ⟨T.nm.1, ts, fun e he => (T.vs e he).2.1, fun e he => ⟨(T.vs e he).1.1, by have := (T.vs e he).2.2; omega⟩, G.ws, fun r hr => ?_, fun r hr e he => ?_, ?_, fun r hr => ?_⟩
  · obtain ⟨b, hb, rfl, B⟩ := key r hr
    exact ⟨B.ne, bySeq_sub B.nd t⟩
  · obtain ⟨b, hb, rfl, B⟩ := key r hr
    have he := (mem_bySeq (fun e he => by obtain ⟨ws, a, _⟩ := B.of e he; exact ⟨ws, a⟩) e).mp he
    obtain ⟨ws, h1, h2⟩ := B.of e he
    exact ⟨(ts _ h1).1, (ts _ h1).2 _ h2⟩
  · have := once_le (rs.map (bySeq t))
    rw [List.length_map] at this
    have := G.ln
    omega
  · obtain ⟨b, hb, rfl, B⟩ := key r hr
    have := (bySeq_sub B.nd t).length_le
    rw [List.length_map, List.length_map] at this
    have := T.hi
    omega
theorem chs_all {ok : Pr → Prop} : ∀ (t1 : Tbl) (rows : List (List Pr)), (∀ row ∈ rows, ∀ e ∈ row, ok e) → (∀ x ∈ t1, ∀ v ∈ x.2, ok (x.1, v)) → ∀ row ∈ t1.foldl wider rows, ∀ e ∈ row, ok e
  | [], rows, h, _ => h
  | x :: t1, rows, h, g => chs_all t1 (wider rows x) (fun row hr => by
      obtain ⟨y, hy, hx⟩ := List.mem_flatMap.mp hr
      obtain ⟨v, hv, rfl⟩ := List.mem_map.mp hx
      intro e he
      rcases List.mem_append.mp he with he | he
      · exact h y hy e he
      · rw [List.mem_singleton.mp he]
        exact g x List.mem_cons_self v hv) (fun y hy => g y (List.mem_cons_of_mem _ hy))
theorem chs_str {t : Tbl} (h : TStr t) : ∀ row ∈ chs t, RStr row := fun row hr => chs_all (ok := fun e => PyData.strOk e.1 = true ∧ PyData.strOk e.2 = true) t [[]] (fun x hx => by rw [List.mem_singleton.mp hx]; exact fun e he => absurd he List.not_mem_nil)
  (fun y hy v hv => ⟨(h y hy).1, (h y hy).2 v hv⟩) row hr
theorem chs_len : ∀ (t : Tbl) (rows : List (List Pr)), (t.foldl wider rows).length = waysFrom rows.length t
  | [], rows => rfl
  | e :: t, rows => by
    rw [List.foldl_cons, chs_len t]
    show waysFrom (wider rows e).length t = waysFrom (rows.length * e.2.length) t
    have : (wider rows e).length = rows.length * e.2.length := by
      unfold wider
      induction rows with
      | nil => simp
      | cons r rows ih => rw [List.flatMap_cons, List.length_append, List.length_map, ih, List.length_cons, Nat.succ_mul, Nat.add_comm]
    rw [this]
theorem known_facts {t : Tbl} {r : List Pr} {d : PyData} (T : TabOk t) (N : Known t r) (h : FRule r d) : areFacts t d = true ∧ factsOf d = r ∧ FOk d := by
  obtain ⟨gs, e, hp⟩ := h
  have hl : gs.length = r.length := prd_len hp
  refine ⟨?_, ?_, fun fs ef f hf a b ep => ?_⟩
  · unfold areFacts
    rw [e]
    show (decide (gs.length ≤ t.length) && goFacts t [] gs) = true
    rw [decide_eq_true (by have := N.hi; omega : gs.length ≤ t.length), go_of T.nm.1 hp N.nd (fun _ _ z => by cases z) N.of] <;> rfl
  · unfold factsOf
    rw [e]
    show gs.map factOf = r
    conv => rhs; rw [← List.map_id r]
    refine prd_map (fun g e h => ?_) hp
    unfold factOf
    rw [h] <;> rfl
  · rw [e] at ef
    cases ef
    obtain ⟨e, he, h1⟩ := prd_mem hp f hf
    rw [ep] at h1
    cases h1
    obtain ⟨ws, h2, h3⟩ := N.of e he
    exact str_shaped (word_ok ((T.vs _ h2).1.2 _ h3))
/-- rows as data -/
def rowsD (rows : List (List Pr)) : PyData := .tuple (rows.map ruleD)
theorem rows_dps {K : PySem.W.Frag} {H : Hp} : ∀ {vs : List V} {rows : List (List Pr)}, Paired (RowAt K H) vs rows → DpAll K H vs (rows.map ruleD)
  | _, _, .nil => .nil
  | _, _, .cons a b => by
    obtain ⟨p, rfl, h⟩ := a.lot
    exact .cons h.dp (rows_dps b)
theorem RowsAt.dp {K : PySem.W.Frag} {H : Hp} {z : Addr} {rows : List (List Pr)} (h : RowsAt K H z rows) : Dp K H (.ref z) (rowsD rows) := by
  obtain ⟨vs, a, b⟩ := h
  exact .tup a (rows_dps b)
theorem lots_dps {K : PySem.W.Frag} {H : Hp} : ∀ {us : List Addr} {rows : List (List Pr)}, Paired (LotAt K H) us rows → DpAll K H (us.map V.ref) (rows.map ruleD)
  | _, _, .nil => .nil
  | _, _, .cons a b => .cons a.dp (lots_dps b)
theorem ds_rowsD {rows : List (List Pr)} (h : rows.length ≤ 1000) (g : ∀ r ∈ rows, r.length ≤ 1000) : Ds 5 (rowsD rows) := fun xs e => by
  cases e
  refine ⟨by rw [List.length_map]; exact h, fun x hx => ?_⟩
  obtain ⟨r, hr, rfl⟩ := List.mem_map.mp hx
  intro xs e
  cases e
  refine ⟨by rw [List.length_map]; exact g r hr, fun x hx => ?_⟩
  obtain ⟨e, he, rfl⟩ := List.mem_map.mp hx
  intro xs e
  cases e
  refine ⟨Nat.le_of_ble_eq_true rfl, fun x hx => ?_⟩
  simp only [List.mem_cons, List.not_mem_nil, or_false] at hx
  rcases hx with rfl | rfl <;> exact fun xs e => by cases e
theorem asg_last {wi : TI} {g : TG} {tt : TT} {te : TE} {vs : List Nat} {D : Ends} {σ : L2.St} {H : Hp} {i : Nat} (h : tLc wi g tt te vs σ H fun v H1 => D.nx (σ.set i (some v)) H1) : tAsg (tLc wi g tt te vs) (gName i) D σ H := h
theorem call_listK {X : Cx} (K : PySem.W.Frag) (h : X.K = K) : CallR X (.type "list") (fun xs H Q => ∃ p ys, xs = [.ref p] ∧ (SqL K H p ys ∨ SqT K H p ys) ∧ ∀ l, H l = none → Q (.ref l) (L2.upd H l (.lst ys))) := by
  subst h
  exact call_list_of
def lstD (l : List Pr) : PyData := .list (l.map fun e => .list [.str e.1, .str e.2])
theorem lst_pairs : ∀ r : List Pr, Paired (fun g (e : Pr) => pairOf g = some (.str e.1, .str e.2)) (r.map fun e => .list [.str e.1, .str e.2]) r
  | [] => .nil
  | e :: r => .cons rfl (lst_pairs r)
theorem lst_dps {K : PySem.W.Frag} {H : Hp} : ∀ {qs : List Addr} {l : List Pr}, Paired (fun q (e : Pr) => H q = some (.lst [.str e.1, .str e.2])) qs l → DpAll K H (qs.map V.ref) (l.map fun e => .list [.str e.1, .str e.2])
  | _, _, .nil => .nil
  | _, _, .cons a b => .cons (.lst (SqL.of a) (.cons (.str _) (.cons (.str _) .nil))) (lst_dps b)
end Q
set_option Elab.async false
set_option linter.all false
set_option maxRecDepth 100000
set_option maxHeartbeats 4000000
/-! ### _place, _values_there, _all_possible; possible, open_fields, forced -/
namespace Q
open PySem L2 XD
/-- the values that stand at the place -/
def possAt (rows : List (List Pr)) (t : Tbl) (i : Nat) : List Str := match t[i]? with
  | some e => e.2.filter fun v => decide ((e.1, v) ∈ rows.map fun row => row.getD i d0)
  | none => []
def spPlace (K : PySem.W.Frag) (C CB : Addr) : Sp := fun vs H Q E => ∃ (x pf pr : Addr) (v : V) (t : Tbl) (d : PyData), vs = [.ref x, v] ∧ FormAt C H x pf pr ∧ TabAt K H pf t ∧ TStr t ∧ Dp K H v d ∧ SeqAt.shaped d = true ∧
  ((∀ n, d = .str n → n ∉ t.map (·.1)) → ∀ dd H', Same H H' → H' dd = none → E (.ref CB) (some dd) (L2.upd H' dd (.xd [("name", v)]))) ∧
  ∀ i n ws, d = .str n → t[i]? = some (n, ws) → ∀ H', Same H H' → Q (.int (i : Nat)) H'
def spVals (K : PySem.W.Frag) (C : Addr) : Sp := fun vs H Q _ => ∃ (x pf pr z : Addr) (i : Nat) (t : Tbl) (rows : List (List Pr)), vs = [.ref x, .ref z, .int (i : Nat)] ∧ FormAt C H x pf pr ∧ TabAt K H pf t ∧ RowsAt K H z rows ∧ i < t.length ∧ rows.length ≤ 1000 ∧ (∀ row ∈ rows, row.length = t.length) ∧
  (∀ e ∈ t, e.2.length ≤ 1000) ∧ ∀ z' H', Same H H' → SqT K H' z' ((possAt rows t i).map V.str) → Q (.ref z') H'
theorem names_any (t : Tbl) (d : PyData) : (((t.map (·.1)).map PyData.str).any fun z => PyData.eqv z d) = match d with | .str n => decide (n ∈ t.map (·.1)) | _ => false := by
  cases d with
  | str n =>
    rw [Bool.eq_iff_iff, List.any_eq_true]
    show _ ↔ decide (n ∈ t.map (·.1)) = true
    rw [decide_eq_true_iff]
    constructor
    · rintro ⟨x, hx, e⟩
      obtain ⟨m, hm, rfl⟩ := List.mem_map.mp hx
      rw [PyData.eqv] at e
      rw [← of_decide_eq_true e]
      exact hm
    · intro h
      exact ⟨.str n, List.mem_map.mpr ⟨n, h, rfl⟩, by rw [PyData.eqv]; simp⟩
  | _ =>
    show _ = false
    rw [List.any_eq_false]
    intro x hx
    obtain ⟨m, hm, rfl⟩ := List.mem_map.mp hx
    simp [PyData.eqv]
theorem ret_cb {c : List V → Hp → VK → Prop} {tl : TE} {D : Ends} {σ : L2.St} {H : Hp} (h : tl σ H fun x H1 => c [x] H1 D.rt) : tRet (tCB c (tCons tl tNil)) D σ H := h
structure Bf (K : PySem.W.Frag) (mg : Str → Option Value) (CB : Addr) : Prop where
  b : ∃ fI qual, XM.XcT K CB fI "name" qual
  gb : mg "BadField" = some (.ref CB)
end Q
set_option Elab.async false
set_option linter.all false
set_option maxRecDepth 100000
set_option maxHeartbeats 4000000
namespace Q
open PySem L2 XD
/-- over range(n) -/
theorem lc_gr {n : Nat} {ta : TA} {g : TG} {tt : TT} {te : TE} {vs : List Nat} {σ : L2.St} {H : Hp} {Q : VK} (P : Nat → V → Hp → Prop) (sel : Nat → Bool)
    (mono : ∀ i v R R', Same R R' → P i v R → P i v R') (ht : ∀ Q' : List V → Hp → Prop, Q' [.int (n : Nat)] H → ta σ H Q') (hn : n ≤ 1000)
    (turn : ∀ (D : Addr) (i : Nat) (H' : Hp) (yes : VK) (no : Hp → Prop), (∃ acc, H' D = some (.lst acc)) → Same H H' → Same H (rmL [D] H') → i < n →
      (sel i = true → ∀ y H4, Same H' H4 → P i y (rmL [D] H4) → yes y H4) → (sel i = false → ∀ H4, Same H' H4 → no H4) →
      g (.int (i : Nat)) (wipe σ vs) H' fun σ2 H2 => wipe σ2 vs = wipe σ vs ∧ tt σ2 H2 fun b H3 => if b = true then te σ2 H3 yes else no H3)
    (hd : ∀ D H' zs, H D = none → Same H H' → H' D = some (.lst zs) → Paired (fun z i => P i z (rmL [D] H')) zs ((List.range n).filter sel) → Q (.ref D) H') : tLc (iRng1 ta) g tt te vs σ H Q := by
  refine ht _ ⟨_, rfl, ?_, ?_, fun D hD => ?_⟩
  · have : -(2 ^ 62 : Int) ≤ 0 := by decide
    omega
  · have : (1000 : Int) < 2 ^ 62 := by decide
    omega
  rw [Int.toNat_natCast]
  refine lc_range (lo := 0) (n := n) (fun i H' => ∃ zs, H' D = some (.lst zs) ∧ Paired (fun z i => P i z (rmL [D] H')) zs ((List.range i).filter sel) ∧ Same H H') ⟨[], upd_same, .nil, new_same hD _⟩ (fun i H' hi hP => ?_) (fun H' hP => ?_)
  · obtain ⟨zs, g1, g2, g3⟩ := hP
    have e0 : (0 : Int) + (i : Int) = ((i : Nat) : Int) := by omega
    rw [e0]
    refine turn D i H' _ _ ⟨_, g1⟩ g3 (same_rm1 hD g3) hi (fun hs y H4 s4 hy => ⟨zs, s4 _ _ g1, small1000 ?_, zs ++ [y], upd_same, ?_, fun b o z => ?_⟩) (fun hs H4 s4 => ⟨zs, s4 _ _ g1, ?_, g3.trans s4⟩)
    · rw [prd_len g2]
      refine Nat.le_trans (List.length_filter_le _ _) ?_
      rw [List.length_range]
      omega
    · rw [rm_put (List.mem_singleton.mpr rfl), range_filter, if_pos hs]
      exact prd_snoc (prd_imp (fun z i h => mono i z _ _ (rm_same s4) h) g2) hy
    · rw [upd_ne (ne_of_none z hD)]
      exact s4 _ _ (g3 _ _ z)
    · rw [range_filter, if_neg (by rw [hs]; exact Bool.false_ne_true), List.append_nil]
      exact prd_imp (fun z i h => mono i z _ _ (rm_same s4) h) g2
  · obtain ⟨zs, g1, g2, g3⟩ := hP
    exact hd D H' zs hD g3 g1 g2
/-- over a list that the iterable has just made -/
theorem lc_gL {K : PySem.W.Frag} {p : Addr} {ys : List V} {g : TG} {tt : TT} {te : TE} {vs : List Nat} {σ : L2.St} {H : Hp} {Q : VK} (P : Nat → V → Hp → Prop) (sel : Nat → Bool)
    (mono : ∀ i v R R', Same R R' → P i v R → P i v R') (hq : SqL K H p ys) (hl : ys.length ≤ 1000)
    (turn : ∀ (D : Addr) (i : Nat) (x : V) (H' : Hp) (yes : VK) (no : Hp → Prop), (∃ acc, H' D = some (.lst acc)) → Same H H' → Same H (rmL [D] H') → ys[i]? = some x →
      (sel i = true → ∀ y H4, Same H' H4 → P i y (rmL [D] H4) → yes y H4) → (sel i = false → ∀ H4, Same H' H4 → no H4) →
      g x (wipe σ vs) H' fun σ2 H2 => wipe σ2 vs = wipe σ vs ∧ tt σ2 H2 fun b H3 => if b = true then te σ2 H3 yes else no H3)
    (hd : ∀ D H' zs, H D = none → Same H H' → H' D = some (.lst zs) → Paired (fun z i => P i z (rmL [D] H')) zs ((List.range ys.length).filter sel) → Q (.ref D) H') :
    ∀ D, H D = none → ∃ W : Nat → Nat → Hp → Prop, (∃ m, W 0 m (L2.upd H D (.lst []))) ∧ ∀ i m H, W i m H →
      ((Itl K p).stop i H ∧ Q (.ref D) H) ∨ ((Itl K p).go i H ∧ ∃ Nx : Hp → Prop, (∀ H', Nx H' → ∃ m', m' < m ∧ W (i + 1) m' H') ∧ ∀ x H', (Itl K p).yld i H x H' → g x (wipe σ vs) H' fun σ2 H2 => wipe σ2 vs = wipe σ vs ∧ tt σ2 H2 fun b H3 =>
        if b = true then te σ2 H3 fun y H4 => ∃ acc, H4 D = some (.lst acc) ∧ acc.length < sizeLine ∧ Nx (L2.upd H4 D (.lst (acc ++ [y]))) else Nx H3) := by
  intro D hD
  refine lc_it walk_list (fun i H' => ∃ zs, H' D = some (.lst zs) ∧ Paired (fun z i => P i z (rmL [D] H')) zs ((List.range i).filter sel) ∧ Same H H') ⟨[], upd_same, .nil, new_same hD _⟩ (fun i H' _ ⟨_, _, _, s⟩ => s.seq hq) (fun i x H1' H' hi hP hY => ?_) (fun H' hP => ?_)
  · obtain ⟨rfl, hx⟩ := hY
    obtain ⟨zs, g1, g2, g3⟩ := hP
    refine turn D i x _ _ _ ⟨_, g1⟩ g3 (same_rm1 hD g3) hx (fun hs y H4 s4 hy => ⟨zs, s4 _ _ g1, small1000 ?_, zs ++ [y], upd_same, ?_, fun b o z => ?_⟩) (fun hs H4 s4 => ⟨zs, s4 _ _ g1, ?_, g3.trans s4⟩)
    · rw [prd_len g2]
      refine Nat.le_trans (List.length_filter_le _ _) ?_
      rw [List.length_range]
      omega
    · rw [rm_put (List.mem_singleton.mpr rfl), range_filter, if_pos hs]
      exact prd_snoc (prd_imp (fun z i h => mono i z _ _ (rm_same s4) h) g2) hy
    · rw [upd_ne (ne_of_none z hD)]
      exact s4 _ _ (g3 _ _ z)
    · rw [range_filter, if_neg (by rw [hs]; exact Bool.false_ne_true), List.append_nil]
      exact prd_imp (fun z i h => mono i z _ _ (rm_same s4) h) g2
  · obtain ⟨zs, g1, g2, g3⟩ := hP
    exact hd D H' zs hD g3 g1 g2
theorem ret_lc {wi : TI} {g : TG} {tt : TT} {te : TE} {vs : List Nat} {D : Ends} {σ : L2.St} {H : Hp} (h : tLc wi g tt te vs σ H D.rt) : tRet (tLc wi g tt te vs) D σ H := h
/-- what a function of the module is called with: a form, facts -/
structure Ask (K : PySem.W.Frag) (C : Addr) (H : Hp) (x : Addr) (v : V) (pf pr : Addr) (t : Tbl) (rs : List (List Pr)) (d : PyData) : Prop where
  fa : FormAt C H x pf pr
  tf : TabAt K H pf t
  rf : RulesAt K H pr rs
  ok : FormOk t rs
  dp : Dp K H v d
  fo : FOk d
  fz : areFacts t d = true → FaZ K H v d
theorem FaZ.same {K : PySem.W.Frag} {H H' : Hp} {v : V} {d : PyData} (s : Same H H') (h : FaZ K H v d) : FaZ K H' v d := by
  obtain ⟨q, zs, gs, e, a, b, c⟩ := h
  exact ⟨q, zs, gs, e, a.elim (fun z => .inl (s.seq z)) (fun z => .inr (z.same s)), b, dps_same s c⟩
theorem Ask.same {K : PySem.W.Frag} {C : Addr} {H H' : Hp} {x : Addr} {v : V} {pf pr : Addr} {t : Tbl} {rs : List (List Pr)} {d : PyData} (s : Same H H') (h : Ask K C H x v pf pr t rs d) : Ask K C H' x v pf pr t rs d := by
  obtain ⟨dx, hx⟩ := h.fa
  exact ⟨⟨dx, s _ _ hx⟩, h.tf.same s, rulesAtS s h.rf, h.ok, dp_same s h.dp, h.fo, fun z => (h.fz z).same s⟩
def badAt (CV : Addr) (H : Hp) (E : XK) : Prop := ∀ dd H', Same H H' → H' dd = none → E (.ref CV) (some dd) (L2.upd H' dd (.xd [("at", .int 1)]))
def spPossible (K : PySem.W.Frag) (C CV CB : Addr) : Sp := fun vs H Q E => ∃ (x pf pr : Addr) (v u : V) (t : Tbl) (rs : List (List Pr)) (d du : PyData), vs = [.ref x, v, u] ∧ Ask K C H x v pf pr t rs d ∧ Dp K H u du ∧ SeqAt.shaped du = true ∧ (areFacts t d = false → badAt CV H E) ∧
  (areFacts t d = true → (∀ n, du = .str n → n ∉ t.map (·.1)) → ∀ dd H', Same H H' → H' dd = none → E (.ref CB) (some dd) (L2.upd H' dd (.xd [("name", u)]))) ∧
  (areFacts t d = true → ∀ i n ws, du = .str n → t[i]? = some (n, ws) → ∀ z H', Same H H' → SqT K H' z ((possAt (fills rs (factsOf d) t) t i).map V.str) → Q (.ref z) H')
/-- each field with its possible values -/
def nmAt (t : Tbl) (i : Nat) : Str := (t.map (·.1)).getD i Str.empty
def allPoss (rows : List (List Pr)) (t : Tbl) : List (Str × List Str) := (List.range t.length).map fun i => (nmAt t i, possAt rows t i)
def EntAt (K : PySem.W.Frag) (H : Hp) (p : Addr) (e : Str × List Str) : Prop := ∃ z, SqT K H p [.str e.1, .ref z] ∧ SqT K H z (e.2.map V.str)
theorem EntAt.same {K : PySem.W.Frag} {H H' : Hp} {p : Addr} {e : Str × List Str} (s : Same H H') (h : EntAt K H p e) : EntAt K H' p e := by
  obtain ⟨z, a, b⟩ := h
  exact ⟨z, seqT_same s a, seqT_same s b⟩
def spAllP (K : PySem.W.Frag) (C CV : Addr) : Sp := fun vs H Q E => ∃ (x pf pr : Addr) (v : V) (t : Tbl) (rs : List (List Pr)) (d : PyData), vs = [.ref x, v] ∧ Ask K C H x v pf pr t rs d ∧ (areFacts t d = false → badAt CV H E) ∧
  (areFacts t d = true → ∀ D us H', Same H H' → H' D = some (.lst (us.map V.ref)) → Paired (EntAt K H') us (allPoss (fills rs (factsOf d) t) t) → Q (.ref D) H')
def openOf (l : List (Str × List Str)) : List Str := (l.filter fun e => decide (1 < e.2.length)).map (·.1)
def forcedOf (l : List (Str × List Str)) : List Pr := (l.filter fun e => decide (e.2.length = 1)).map fun e => (e.1, e.2.getD 0 Str.empty)
def spOpen (K : PySem.W.Frag) (C CV : Addr) : Sp := fun vs H Q E => ∃ (x pf pr : Addr) (v : V) (t : Tbl) (rs : List (List Pr)) (d : PyData), vs = [.ref x, v] ∧ Ask K C H x v pf pr t rs d ∧ (areFacts t d = false → badAt CV H E) ∧
  (areFacts t d = true → ∀ z H', Same H H' → SqT K H' z ((openOf (allPoss (fills rs (factsOf d) t) t)).map V.str) → Q (.ref z) H')
def spForced (K : PySem.W.Frag) (C CV : Addr) : Sp := fun vs H Q E => ∃ (x pf pr : Addr) (v : V) (t : Tbl) (rs : List (List Pr)) (d : PyData), vs = [.ref x, v] ∧ Ask K C H x v pf pr t rs d ∧ (areFacts t d = false → badAt CV H E) ∧
  (areFacts t d = true → ∀ z H', Same H H' → LotAt K H' z (forcedOf (allPoss (fills rs (factsOf d) t) t)) → Q (.ref z) H')
theorem fills_ok {t : Tbl} {rs : List (List Pr)} {f : List Pr} (O : FormOk t rs) : (fills rs f t).length ≤ 1000 ∧ ∀ row ∈ fills rs f t, row.length = t.length := by
  refine ⟨Nat.le_trans (fills_len t [[]] 1 (Nat.le_refl _)) O.ws, fun row hr => ?_⟩
  have := fold_names t [[]] [] (fun x hx => by rw [List.mem_singleton.mp hx] <;> rfl) row hr
  have := congrArg List.length this
  rw [List.length_map, List.nil_append, List.length_map] at this
  exact this
end Q
set_option Elab.async false
set_option linter.all false
set_option maxRecDepth 100000
set_option maxHeartbeats 4000000
/-! ### data layer: what stands beside a flow and lists that are written -/
namespace Q
open PySem L2 XD
/-- a flow: what hangs on S0 alone -/
structure Flo (S0 : List Addr) (Fl : Hp → Prop) : Prop where
  alive : ∀ {H}, Fl H → Alive S0 H
  loc : ∀ {H H'}, (∀ x ∈ S0, H' x = H x) → Fl H → Fl H'
theorem Flo.same {S0 : List Addr} {Fl : Hp → Prop} (f : Flo S0 Fl) {H H' : Hp} (s : Same H H') (h : Fl H) : Fl H' := by
  refine f.loc (fun x hx => ?_) h
  cases e : H x with
  | none => exact absurd e (f.alive h x hx)
  | some o => exact s _ _ e
theorem Flo.off {S0 : List Addr} {Fl : Hp → Prop} (f : Flo S0 Fl) {H : Hp} {p : Addr} {o : HO} (hp : p ∉ S0) (h : Fl H) : Fl (upd H p o) := f.loc (fun x hx => upd_ne fun z => hp (z ▸ hx)) h
theorem Flo.out {S0 : List Addr} {Fl : Hp → Prop} (f : Flo S0 Fl) {H : Hp} {p : Addr} (h : Fl H) (hp : H p = none) : p ∉ S0 := fun z => f.alive h p z hp
theorem rm_more {S0 S : List Addr} (sub : ∀ x ∈ S0, x ∈ S) {H H' : Hp} (s : Same (rmL S0 H) (rmL S0 H')) : Same (rmL S H) (rmL S H') := fun x o e => by
  obtain ⟨h1, h2⟩ := rm_of e
  have h3 : x ∉ S0 := fun z => h1 (sub x z)
  have h4 := s x o ((rm_at h3).trans h2)
  rw [rm_at h1]
  exact (rm_of h4).2
/-- what is known of the heap -/
structure Blk (K : PySem.W.Frag) (S0 : List Addr) (Fl : Hp → Prop) (R0 : Hp) (S : List Addr) (vs : List V) (ds : List PyData) (H : Hp) : Prop where
  fo : Flo S0 Fl
  fl : Fl H
  al : Alive S H
  sub : ∀ x ∈ S0, x ∈ S
  keep : Same R0 (rmL S0 H)
  nw : ∀ x ∈ S, x ∉ S0 → R0 x = none
  E : DpAll K (rmL S H) vs ds
theorem dget {K : PySem.W.Frag} {R : Hp} {vs : List V} {ds : List PyData} {v : V} {d : PyData} (E : DpAll K R vs ds) (i : Nat) (h : vs[i]? = some v) (g : ds[i]? = some d) : Dp K R v d := by
  obtain ⟨d', h1, h2⟩ := dps_get E h
  rw [g] at h1
  cases h1
  exact h2
/-- a list with this in it -/
def Lx (K : PySem.W.Frag) (S : List Addr) (L : Addr) (es : List PyData) (H : Hp) : Prop := ∃ us, H L = some (.lst us) ∧ DpAll K (rmL S H) us es
section
variable {K : PySem.W.Frag} {S0 S : List Addr} {Fl : Hp → Prop} {R0 : Hp} {vs : List V} {ds : List PyData} {H H' : Hp}
theorem Blk.new (f : Flo S0 Fl) (h : Fl H) (E : DpAll K (rmL S0 H) vs ds) : Blk K S0 Fl (rmL S0 H) S0 vs ds H := ⟨f, h, f.alive h, fun _ z => z, Same.refl _, fun x h1 h2 => absurd h1 h2, E⟩
theorem Blk.at (B : Blk K S0 Fl R0 S vs ds H) {p : Addr} {o : HO} (h : R0 p = some o) : H p = some o := (rm_of (B.keep _ _ h)).2
theorem Blk.same (B : Blk K S0 Fl R0 S vs ds H) (s : Same H H') : Blk K S0 Fl R0 S vs ds H' := ⟨B.fo, B.fo.same s B.fl, B.al.same s, B.sub, B.keep.trans (rm_same s), B.nw, dps_same (rm_same s) B.E⟩
theorem Blk.add (B : Blk K S0 Fl R0 S vs ds H) {v : V} {d : PyData} (h : Dp K (rmL S H) v d) : Blk K S0 Fl R0 S (v :: vs) (d :: ds) H := ⟨B.fo, B.fl, B.al, B.sub, B.keep, B.nw, .cons h B.E⟩
theorem Blk.move (B : Blk K S0 Fl R0 S vs ds H) (f : Fl H') (s : Same (rmL S0 H) (rmL S0 H')) : Blk K S0 Fl R0 S vs ds H' := by
  refine ⟨B.fo, f, fun x hx => ?_, B.sub, B.keep.trans s, B.nw, dps_same (rm_more B.sub s) B.E⟩
  by_cases h0 : x ∈ S0
  · exact B.fo.alive f x h0
  · intro z
    cases e : H x with
    | none => exact B.al x hx e
    | some o =>
      have := (rm_of (s x o ((rm_at h0).trans e))).2
      rw [z] at this
      cases this
theorem Blk.out (B : Blk K S0 Fl R0 S vs ds H) {p : Addr} (hp : H p = none) : p ∉ S0 := B.fo.out B.fl hp
theorem Blk.enter (B : Blk K S0 Fl R0 S vs ds H) {L : Addr} {o : HO} (hL : H L = none) : Blk K S0 Fl R0 (L :: S) vs ds (upd H L o) := by
  have s := new_same hL o
  refine ⟨B.fo, B.fo.same s B.fl, fun x hx z => ?_, fun x hx => List.mem_cons_of_mem _ (B.sub x hx), B.keep.trans (rm_same s), fun x hx h0 => ?_, dps_same (same_in hL s) B.E⟩
  · by_cases e : x = L
    · rw [e, upd_same] at z
      cases z
    · rw [upd_ne e] at z
      exact B.al x ((List.mem_cons.mp hx).resolve_left e) z
  · rcases List.mem_cons.mp hx with rfl | hx
    · cases e : R0 x with
      | none => rfl
      | some o' =>
        have := B.at e
        rw [hL] at this
        cases this
    · exact B.nw x hx h0
theorem Blk.put (B : Blk K S0 Fl R0 S vs ds H) {L : Addr} {o : HO} (hL : L ∈ S) (h0 : L ∉ S0) : Blk K S0 Fl R0 S vs ds (upd H L o) := by
  refine ⟨B.fo, B.fo.off h0 B.fl, fun x hx z => ?_, B.sub, fun x o' e => ?_, B.nw, by rw [rm_put hL]; exact B.E⟩
  · by_cases e : x = L
    · rw [e, upd_same] at z
      cases z
    · rw [upd_ne e] at z
      exact B.al x hx z
  · have n : x ≠ L := fun z => by
      rw [z, B.nw L hL h0] at e
      cases e
    have h1 := rm_of (B.keep x o' e)
    rw [rm_at h1.1, upd_ne n]
    exact h1.2
theorem Blk.sub1 (B : Blk K S0 Fl R0 S vs ds H) {S' : List Addr} (h : ∀ x ∈ S', x ∈ S) (h0 : ∀ x ∈ S0, x ∈ S') : Blk K S0 Fl R0 S' vs ds H := ⟨B.fo, B.fl, fun x hx => B.al x (h x hx), h0, B.keep, fun x hx => B.nw x (h x hx), dps_same (rm_sub h) B.E⟩
theorem Blk.drop (B : Blk K S0 Fl R0 S vs ds H) (k : Nat) : Blk K S0 Fl R0 S (vs.drop k) (ds.drop k) H := ⟨B.fo, B.fl, B.al, B.sub, B.keep, B.nw, dps_drop k B.E⟩
/-- what stood before -/
theorem Blk.base (B : Blk K S0 Fl R0 S vs ds H) : Same R0 (rmL S H) := fun x o e => by
  have h := rm_of (B.keep x o e)
  rw [rm_at (fun z => ?_)]
  · exact h.2
  · have := B.nw x z h.1
    rw [e] at this
    cases this
theorem Blk.ne (B : Blk K S0 Fl R0 S vs ds H) {p L : Addr} {o : HO} (h : R0 p = some o) (hL : L ∈ S) (h0 : L ∉ S0) : p ≠ L := fun z => by
  have := B.nw L hL h0
  rw [← z, h] at this
  cases this
/-- what stands now is what stood before -/
theorem Blk.rebase (B : Blk K S0 Fl R0 S vs ds H) : Blk K S0 Fl (rmL S H) S vs ds H := ⟨B.fo, B.fl, B.al, B.sub, rm_sub B.sub, fun x hx _ => if_pos hx, B.E⟩
theorem Blk.back {R1 : Hp} (B : Blk K S0 Fl R0 S vs ds H) (s : Same R1 R0) (nw : ∀ x ∈ S, x ∉ S0 → R1 x = none) : Blk K S0 Fl R1 S vs ds H := ⟨B.fo, B.fl, B.al, B.sub, s.trans B.keep, nw, B.E⟩
/-- lists -/
theorem Lx.sub {S' : List Addr} {L : Addr} {es : List PyData} (h : Lx K S L es H) (hs : ∀ x ∈ S', x ∈ S) : Lx K S' L es H := by
  obtain ⟨us, a, b⟩ := h
  exact ⟨us, a, dps_same (rm_sub hs) b⟩
theorem Lx.same {L : Addr} {es : List PyData} (h : Lx K S L es H) (s : Same H H') : Lx K S L es H' := by
  obtain ⟨us, a, b⟩ := h
  exact ⟨us, s _ _ a, dps_same (rm_same s) b⟩
theorem Lx.move {L : Addr} {es : List PyData} (h : Lx K S L es H) (sub : ∀ x ∈ S0, x ∈ S) (h0 : L ∉ S0) (s : Same (rmL S0 H) (rmL S0 H')) : Lx K S L es H' := by
  obtain ⟨us, a, b⟩ := h
  exact ⟨us, (rm_of (s _ _ ((rm_at h0).trans a))).2, dps_same (rm_more sub s) b⟩
theorem Lx.enter {L D : Addr} {es : List PyData} {o : HO} (h : Lx K S L es H) (hD : H D = none) : Lx K (D :: S) L es (upd H D o) := by
  obtain ⟨us, a, b⟩ := h
  exact ⟨us, new_same hD o _ _ a, dps_same (same_in hD (new_same hD o)) b⟩
theorem Lx.put {L D : Addr} {es : List PyData} {o : HO} (h : Lx K S L es H) (hD : D ∈ S) (n : L ≠ D) : Lx K S L es (upd H D o) := by
  obtain ⟨us, a, b⟩ := h
  exact ⟨us, by rw [upd_ne n]; exact a, by rw [rm_put hD]; exact b⟩
theorem Lx.len {L : Addr} {es : List PyData} (h : Lx K S L es H) : ∃ us, H L = some (.lst us) ∧ us.length = es.length := by
  obtain ⟨us, a, b⟩ := h
  exact ⟨us, a, dps_len b⟩
theorem Lx.item {L : Addr} {es : List PyData} {i : Nat} {d : PyData} (h : Lx K S L es H) (e : es[i]? = some d) : ∃ us v, H L = some (.lst us) ∧ us[i]? = some v ∧ Dp K (rmL S H) v d := by
  obtain ⟨us, a, b⟩ := h
  have l := dps_len b
  have hi : i < us.length := by
    have := (List.getElem?_eq_some_iff.mp e).1
    omega
  have ei := List.getElem?_eq_getElem hi
  exact ⟨us, us[i], a, ei, dget b i ei e⟩
end
/-! expressions -/
section
variable {K : PySem.W.Frag} {S : List Addr} {H0 : Hp} {σ : L2.St}
theorem dps_at {R : Hp} {ys : List V} {xs : List PyData} {z : Int} {d : PyData} (h : DpAll K R ys xs) (e : atI xs z = some d) : ∃ y, atI ys z = some y ∧ Dp K R y d := by
  unfold atI at e ⊢
  rw [dps_len h]
  cases q : ixN xs.length z with
  | none =>
    rw [q] at e
    cases e
  | some j =>
    rw [q] at e
    have e : xs[j]? = some d := e
    have hi : j < ys.length := by
      have := (List.getElem?_eq_some_iff.mp e).1
      have := dps_len h
      omega
    exact ⟨ys[j], List.getElem?_eq_getElem hi, dget h j (List.getElem?_eq_getElem hi) e⟩
theorem lift_row {H : Hp} {p : Addr} {xs : List V} (h : SqL K (rmL S H) p xs ∨ SqT K (rmL S H) p xs) : SqL K H p xs ∨ SqT K H p xs := h.elim (fun z => .inl (Same.seq rm_le z)) fun z => .inr (seqT_same rm_le z)
theorem at0 {α : Type} {x : α} {l : List α} : atI (x :: l) 0 = some x := show atI (x :: l) ((0 : Nat) : Int) = some x from atI_nat rfl
/-- x[i] -/
theorem mk_at {te : TE} {d e : PyData} {ds : List PyData} {z : Int} (h : MkD K S H0 σ te d) (hr : rowOf d = some ds) (hx : atI ds z = some e) : MkD K S H0 σ (tOp (rBoth K) te (tC (.int z))) e := fun H Q s k =>
  h H _ s fun v H1 s1 hv => by
    obtain ⟨q, ys, rfl, hq, ha⟩ := row_len hv hr
    obtain ⟨y, hy, dy⟩ := dps_at ha hx
    exact ix_row (lift_row hq) hy (k y H1 s1 dy)
/-- x[i], i what is drawn or in a slot -/
theorem mk_atI {te ti : TE} {d e : PyData} {ds : List PyData} {z : Int} (h : MkD K S H0 σ te d) (g : MkD K S H0 σ ti (.int z)) (hr : rowOf d = some ds) (hx : atI ds z = some e) : MkD K S H0 σ (tOp (rBoth K) te ti) e := fun H Q s k =>
  h H _ s fun v H1 s1 hv => g H1 _ (s.trans s1) fun i H2 s2 hi => by
    cases hi
    obtain ⟨q, ys, rfl, hq, ha⟩ := row_len (dp_same (rm_same s2) hv) hr
    obtain ⟨y, hy, dy⟩ := dps_at ha hx
    exact ix_row (lift_row hq) hy (k y H2 (s1.trans s2) dy)
/-- x + y, texts -/
abbrev rAdT : R2 := fun x y H Q => ∃ i j, x = V.str i ∧ y = V.str j ∧ i.length + j.length ≤ sizeLine ∧ Q (V.str (i ++ j)) H
theorem mk_add {t1 t2 : TE} {x y : Str} (h : MkD K S H0 σ t1 (.str x)) (g : MkD K S H0 σ t2 (.str y)) (hl : x.length + y.length ≤ 1000) : MkD K S H0 σ (tOp rAdT t1 t2) (.str (x ++ y)) := fun H Q s k =>
  h H _ s fun v H1 s1 hv => g H1 _ (s.trans s1) fun i H2 s2 hi => by
    cases hv
    cases hi
    exact ⟨x, y, rfl, rfl, le_line hl, k _ H2 (s1.trans s2) (.str _)⟩
/-- i // n, i % n, i + n -/
theorem mk_fdiv {te : TE} {i n : Int} (h : MkD K S H0 σ te (.int i)) (h1 : 0 < n) (h2 : n < 1073741824) : MkD K S H0 σ (tOp (rI CDiv fun i j => .int (i / j)) te (tC (.int n))) (.int (i / n)) := fun H Q s k =>
  h H _ s fun v H1 s1 hv => by
    cases hv
    exact ⟨_, _, rfl, rfl, ⟨h1, h2⟩, k _ H1 s1 (.int _)⟩
theorem mk_mod {te : TE} {i n : Int} (h : MkD K S H0 σ te (.int i)) (h1 : 0 < n) : MkD K S H0 σ (tOp (rI (fun _ j => 0 < j) fun i j => .int (i % j)) te (tC (.int n))) (.int (i % n)) := fun H Q s k =>
  h H _ s fun v H1 s1 hv => by
    cases hv
    exact ⟨_, _, rfl, rfl, h1, k _ H1 s1 (.int _)⟩
theorem mk_plus {t1 t2 : TE} {i n : Int} (h : MkD K S H0 σ t1 (.int i)) (g : MkD K S H0 σ t2 (.int n)) : MkD K S H0 σ (tOp (rI0 fun i j => .int (i + j)) t1 t2) (.int (i + n)) := fun H Q s k =>
  h H _ s fun v H1 s1 hv => g H1 _ (s.trans s1) fun u H2 s2 hu => by
    cases hv
    cases hu
    exact ⟨_, _, rfl, rfl, k _ H2 (s1.trans s2) (.int _)⟩
/-- t + u, tuples -/
theorem mk_catT {t1 t2 : TE} {ds es : List PyData} (A : Alive S H0) (h : MkD K S H0 σ t1 (.tuple ds)) (g : MkD K S H0 σ t2 (.tuple es)) (h1 : ds ≠ []) (hl : Nat.ble (ds.length + es.length) 1000 = true) : MkD K S H0 σ (tOp (rCatT K) t1 t2) (.tuple (ds ++ es)) := fun H Q s k =>
  h H _ s fun v H1 s1 hv => g H1 _ (s.trans s1) fun u H2 s2 hu => by
    have hv := dp_same (rm_same s2) hv
    cases hv with
    | @tup p xs _ a1 a2 =>
      cases hu with
      | @tup q ys _ b1 b2 =>
        have l1 := dps_len a2
        have l2 := dps_len b2
        have hl := Nat.le_of_ble_eq_true hl
        refine ⟨p, q, xs, ys, rfl, rfl, seqT_same rm_le a1, seqT_same rm_le b1, fun z => h1 ?_, le_line (by omega), fun e => ?_, fun _ r hr => ?_⟩
        · rw [z] at l1
          exact List.eq_nil_of_length_eq_zero l1.symm
        · have : es = [] := List.eq_nil_of_length_eq_zero (by rw [← l2, e] <;> rfl)
          rw [this, List.append_nil] at k
          exact k _ H2 (s1.trans s2) (.tup a1 a2)
        · have s3 := new_same hr (.tup (xs ++ ys))
          refine k _ _ ((s1.trans s2).trans s3) (.tup (.inl (.inl (rm_new ((A.same s).same (s1.trans s2)) hr))) (dps_same (rm_same s3) (dps_app a2 b2)))
/-- a list, told whole -/
def MkE (K : PySem.W.Frag) (S : List Addr) (H0 : Hp) (σ : L2.St) (te : TE) (es : List PyData) : Prop := ∀ H (Q : VK), Same H0 H → (∀ p us H', Same H H' → H' p = some (.lst us) → DpAll K (rmL S H') us es → Q (.ref p) H') → te σ H Q
/-- a new list -/
def MkX (K : PySem.W.Frag) (S : List Addr) (H0 : Hp) (σ : L2.St) (te : TE) (es : List PyData) : Prop := ∀ H (Q : VK), Same H0 H → (∀ p us H', Same H H' → H' p = none → DpAll K (rmL S H') us es → Q (.ref p) (upd H' p (.lst us))) → te σ H Q
theorem mx_lst {ta : TA} {es : List PyData} (hl : Nat.ble es.length 1000 = true) (h : MkL K S H0 σ ta es) : MkX K S H0 σ (tLst ta) es := fun H Q s k =>
  h H _ s fun us H1 s1 hus => ⟨le_line (by rw [dps_len hus]; exact Nat.le_of_ble_eq_true hl), fun p hp => k p us H1 s1 hp hus⟩
theorem me_new {te : TE} {es : List PyData} (h : MkX K S H0 σ te es) : MkE K S H0 σ te es := fun H Q s k =>
  h H _ s fun p us H1 s1 hp hus => k p us _ (s1.trans (new_same hp _)) upd_same (dps_same (rm_same (new_same hp _)) hus)
theorem me_var {i : Nat} {p : Addr} {es : List PyData} (e : σ[i]? = some (some (.ref p))) (h : Lx K S p es H0) : MkE K S H0 σ (tVar i) es := fun H Q s k => by
  obtain ⟨us, a, b⟩ := h
  exact ⟨_, e, k p us H (Same.refl H) (s _ _ a) (dps_same (rm_same s) b)⟩
theorem mx_cat {t1 t2 : TE} {ds es : List PyData} (h : MkE K S H0 σ t1 ds) (g : MkE K S H0 σ t2 es) (hl : ds.length + es.length ≤ 1000) : MkX K S H0 σ (tOp rCat t1 t2) (ds ++ es) := fun H Q s k =>
  h H _ s fun p us H1 s1 hp hus => g H1 _ (s.trans s1) fun q ws H2 s2 hq hws => ⟨p, q, us, ws, rfl, rfl, s2 _ _ hp, hq, le_line (by rw [dps_len hus, dps_len hws]; exact hl), fun r hr => k r _ H2 (s1.trans s2) hr (dps_app (dps_same (rm_same s2) hus) hws)⟩
theorem mk_new {te : TE} {es : List PyData} (A : Alive S H0) (h : MkX K S H0 σ te es) : MkD K S H0 σ te (.list es) := fun H Q s k =>
  h H _ s fun p us H1 s1 hp hus => k _ _ (s1.trans (new_same hp _)) (lst_dp ((A.same s).same s1) hp hus)
theorem mk_le {te : TE} {es : List PyData} {p : Addr} {i : Nat} (e : σ[i]? = some (some (.ref p))) (h : Lx K S p es H0) (n : p ∉ S) : MkD K S H0 σ (tVar i) (.list es) := fun H Q s k => by
  obtain ⟨us, a, b⟩ := h
  exact ⟨_, e, k _ H (Same.refl H) (.lst (SqL.of ((rm_at n).trans (s _ _ a))) (dps_same (rm_same s) b))⟩
/-- [..] * n -/
theorem mx_rep {t1 : TE} {es : List PyData} {n : Nat} (h : MkE K S H0 σ t1 es) (hn : n ≤ 1000) (hl : es.length * n ≤ 1000) : MkX K S H0 σ (tOp rRep t1 (tC (.int (n : Nat)))) (List.replicate n es).flatten := fun H Q s k =>
  h H _ s fun p us H1 s1 hp hus => by
    have e1 : ((n : Nat) : Int).toNat = n := Int.toNat_natCast n
    refine ⟨p, _, us, rfl, rfl, hp, ?_, ?_, ?_, fun q hq => ?_⟩
    · have : (-(2 ^ 63) : Int) ≤ 0 := by decide
      omega
    · have : (1000 : Int) < 2 ^ 63 := by decide
      omega
    · rw [e1, dps_len hus]
      exact le_line hl
    · rw [e1]
      refine k q _ H1 s1 hq ?_
      clear e1 hl hn k
      induction n with
      | zero => exact .nil
      | succ n ih =>
        rw [List.replicate_succ, List.replicate_succ, List.flatten_cons, List.flatten_cons]
        exact dps_app hus ih
theorem dps_str {R : Hp} : ∀ {vs : List V} {ws : List Str}, DpAll K R vs (ws.map PyData.str) → vs = ws.map V.str
  | _, [], h => by
    cases h
    rfl
  | _, w :: ws, h => by
    cases h with
    | cons a b =>
      cases a
      rw [dps_str b] <;> rfl
/-- sep.join(xs) -/
theorem le16 {n : Nat} (h : n ≤ 100000) : n ≤ 16777216 := Nat.le_trans h (by decide)
theorem mk_join {to te : TE} {x : Str} {ws : List Str} (h : MkD K S H0 σ to (.str x)) (g : MkE K S H0 σ te (ws.map PyData.str)) (hl : (ws.map (·.length)).sum + ws.length * x.length ≤ 100000) :
    MkD K S H0 σ (tM1 (fun x xs H Q => ∃ a p, ∃ ys : List Str, x = .str a ∧ xs = [.ref p] ∧ (SqL K H p (ys.map V.str) ∨ SqT K H p (ys.map V.str)) ∧ (ys.map (·.length)).sum + ys.length * a.length ≤ 16777216 ∧ Q (.str (Txt.join a ys)) H) to te) (.str (Txt.join x ws)) := fun H Q s k =>
  h H _ s fun v H1 s1 hv => by
    cases hv
    refine ⟨⟨_, rfl⟩, g H1 _ (s.trans s1) fun p us H2 s2 hp hus => ?_⟩
    rw [dps_str hus] at hp
    exact ⟨x, p, ws, rfl, rfl, .inl (SqL.of hp), le16 hl, k _ H2 (s1.trans s2) (.str _)⟩
theorem rm_rm {D : Addr} {H : Hp} : rmL S (rmL [D] H) = rmL (D :: S) H := by
  funext x
  unfold rmL
  by_cases h1 : x = D
  · subst h1
    rw [if_pos (show x ∈ x :: S from List.mem_cons_self), if_pos (show x ∈ [x] from List.mem_cons_self)]
    split <;> rfl
  · rw [if_neg (fun z => h1 (List.mem_singleton.mp z))]
    by_cases h2 : x ∈ S
    · rw [if_pos h2, if_pos (List.mem_cons_of_mem _ h2)]
    · rw [if_neg h2, if_neg (fun z => (List.mem_cons.mp z).elim h1 h2)]
theorem rm_back {D : Addr} {H : Hp} {o : HO} (h : H D = some o) : upd (rmL [D] H) D o = H := by
  funext x
  by_cases e : x = D
  · rw [e, upd_same, h]
  · rw [upd_ne e, rm_at (fun z => e (List.mem_singleton.mp z))]
theorem rm_gone {D : Addr} {H : Hp} : rmL [D] H D = none := if_pos (List.mem_singleton.mpr rfl)
theorem alive_cons {D : Addr} {H : Hp} (h : Alive [D] H) (A : Alive S H) : Alive (D :: S) H := fun x hx => (List.mem_cons.mp hx).elim (fun e => h x (List.mem_singleton.mpr e)) (A x)
theorem prd_dpa {R : Hp} {f : Nat → PyData} : ∀ {zs : List V} {l : List Nat}, Paired (fun z i => Dp K R z (f i)) zs l → DpAll K R zs (l.map f)
  | _, _, .nil => .nil
  | _, _, .cons a r => .cons a (prd_dpa r)
/-- a comprehension -/
theorem mx_lc {j : Nat} {u : V} {g : TG} {tt : TT} {te : TE} {ws : List Nat} {d : PyData} {ds es : List PyData} (sel : Nat → Bool) (f : Nat → PyData) (A : Alive S H0) (e0 : σ[j]? = some (some u)) (h : Dp K (rmL S H0) u d) (hr : rowOf d = some ds) (hl : ds.length ≤ 1000)
    (he : ((List.range ds.length).filter sel).map f = es)
    (turn : ∀ (i : Nat) (v : V) (e : PyData) (D : Addr) (H : Hp) (yes : VK) (no : Hp → Prop), ds[i]? = some e → Dp K (rmL (D :: S) H) v e → Alive (D :: S) H → Same (rmL S H0) (rmL (D :: S) H) → Same H0 H →
      (sel i = true → ∀ y H', Same H H' → Dp K (rmL (D :: S) H') y (f i) → yes y H') → (sel i = false → ∀ H', Same H H' → no H') →
      g v (wipe σ ws) H fun σ2 H2 => wipe σ2 ws = wipe σ ws ∧ tt σ2 H2 fun b H3 => if b = true then te σ2 H3 yes else no H3) : MkX K S H0 σ (tLc (iRow K (tVar j)) g tt te ws) es := fun H Q s k => by
  obtain ⟨q, ys, rfl, hq, ha⟩ := row_len (dp_same (rm_same s) h) hr
  have ly := dps_len ha
  refine lc_g (ys := ys) (fun i v R => Dp K (rmL S R) v (f i)) sel (fun i v R R' s h => dp_same (rm_same s) h) (fun Q' z => ⟨_, e0, z⟩) (lift_row hq) (by omega) (fun D i x H' yes no AD s1 s2 hx hy hn => ?_) (fun D H' zs hD s1 hz hP => ?_)
  · obtain ⟨e, he', hv⟩ := dps_get ha hx
    have sS : Same (rmL S H) (rmL (D :: S) H') := by
      have := rm_same (S := S) s2
      rw [rm_rm] at this
      exact this
    exact turn i x e D H' yes no he' (dp_same sS hv) (alive_cons AD ((A.same s).same s1)) ((rm_same s).trans sS) (s.trans s1) (fun g y H4 s4 hy4 => hy g y H4 s4 (by rw [rm_rm]; exact hy4)) hn
  · have := k D zs (rmL [D] H') (same_rm1 hD s1) rm_gone (by rw [← he, ← ly]; exact prd_dpa hP)
    rw [rm_back hz] at this
    exact this
/-- .. over the first whole numbers -/
theorem mx_rng {n m : Nat} {ta : TA} {te : TE} {ws : List Nat} (f : Nat → PyData) (A : Alive S H0) (ht : ∀ H (Q' : List V → Hp → Prop), Q' [.int (n : Nat)] H → ta σ H Q') (hn : n ≤ 1000) (hw : ∀ x, wipe ((wipe σ ws).set m (some x)) ws = wipe σ ws)
    (turn : ∀ (i : Nat) (D : Addr) (H : Hp) (yes : VK), i < n → Alive (D :: S) H → Same (rmL S H0) (rmL (D :: S) H) → Same H0 H →
      (∀ y H', Same H H' → Dp K (rmL (D :: S) H') y (f i) → yes y H') → te ((wipe σ ws).set m (some (.int (i : Nat)))) H yes) : MkX K S H0 σ (tLc (iRng1 ta) (gName m) tYes te ws) ((List.range n).map f) := fun H Q s k => by
  refine lc_gr (n := n) (fun i v R => Dp K (rmL S R) v (f i)) (fun _ => true) (fun i v R R' s h => dp_same (rm_same s) h) (fun Q' z => ht H Q' z) hn (fun D i H' yes no AD s1 s2 hi hy hno => ?_) (fun D H' zs hD s1 hz hP => ?_)
  · have sS : Same (rmL S H) (rmL (D :: S) H') := by
      have := rm_same (S := S) s2
      rw [rm_rm] at this
      exact this
    obtain ⟨acc, hacc⟩ := AD
    refine ⟨hw _, ?_⟩
    unfold tYes
    refine iteT (turn i D H' yes hi (alive_cons (fun x hx => by rw [List.mem_singleton.mp hx, hacc]; exact fun z => by cases z) ((A.same s).same s1)) ((rm_same s).trans sS) (s.trans s1) fun y H4 s4 hy4 => hy rfl y H4 s4 (by rw [rm_rm]; exact hy4))
  · rw [List.filter_eq_self.mpr (fun _ _ => rfl)] at hP
    have := k D zs (rmL [D] H') (same_rm1 hD s1) rm_gone (prd_dpa hP)
    rw [rm_back hz] at this
    exact this
end
/-! statements -/
section
variable {K : PySem.W.Frag} {S0 S : List Addr} {Fl : Hp → Prop} {R0 : Hp} {vs : List V} {ds : List PyData} {H : Hp} {σ : L2.St} {u : TS} {D : Ends} {i : Nat}
/-- x = what does not change -/
theorem asg_D {te : TE} {d : PyData} (B : Blk K S0 Fl R0 S vs ds H) (h : MkD K S H σ te d) (k : ∀ v H', Same H H' → Blk K S0 Fl R0 S (v :: vs) (d :: ds) H' → u D (σ.set i (some v)) H') : tSeq (tAsg te (gName i)) u D σ H :=
  h H _ (Same.refl H) fun v H1 s1 hv => k v H1 s1 ((B.same s1).add hv)
/-- x = a new list, which may change -/
theorem asg_X {te : TE} {es : List PyData} (B : Blk K S0 Fl R0 S vs ds H) (h : MkX K S H σ te es)
    (k : ∀ L o H', Same H H' → H' L = none → L ∉ S0 → L ∉ S → Blk K S0 Fl R0 (L :: S) vs ds (upd H' L o) → Lx K (L :: S) L es (upd H' L o) → u D (σ.set i (some (.ref L))) (upd H' L o)) : tSeq (tAsg te (gName i)) u D σ H :=
  h H _ (Same.refl H) fun L us H1 s1 hL hus => k L _ H1 s1 hL ((B.same s1).out hL) (fun z => (B.same s1).al L z hL) ((B.same s1).enter hL) ⟨us, upd_same, dps_same (same_in hL (new_same hL _)) hus⟩
/-- .., the last row of a block -/
theorem asg_X1 {te : TE} {es : List PyData} (B : Blk K S0 Fl R0 S vs ds H) (h : MkX K S H σ te es)
    (k : ∀ L o H', Same H H' → H' L = none → L ∉ S0 → L ∉ S → Blk K S0 Fl R0 (L :: S) vs ds (upd H' L o) → Lx K (L :: S) L es (upd H' L o) → D.nx (σ.set i (some (.ref L))) (upd H' L o)) : tAsg te (gName i) D σ H :=
  asg_X (u := fun D σ H => D.nx σ H) (D := D) B h k
/-- x.append(e) -/
theorem app_X {K' : PySem.W.Frag} {te : TE} {L : Addr} {es : List PyData} {d : PyData} (B : Blk K S0 Fl R0 S vs ds H) (hi : σ[i]? = some (some (.ref L))) (hL : Lx K S L es H) (hS : L ∈ S) (h0 : L ∉ S0) (h : MkD K S H σ te d) (hl : es.length ≤ 900)
    (k : ∀ o H', Same H H' → Blk K S0 Fl R0 S vs ds (upd H' L o) → Lx K S L (es ++ [d]) (upd H' L o) → u D σ (upd H' L o)) : tSeq (tDrop (tBM K' "list" rAppend (tVar i) (tCons te tNil))) u D σ H := by
  obtain ⟨us, h1, h2⟩ := hL
  have l := dps_len h2
  refine ⟨_, hi, .inl ⟨rfl, _, SqL.of h1⟩, h H _ (Same.refl H) fun v H1 s1 hv => ⟨L, us, v, rfl, rfl, s1 _ _ h1, small1000 (by omega), k _ H1 s1 ((B.same s1).put hS h0) ⟨us ++ [v], upd_same, ?_⟩⟩⟩
  rw [rm_put hS]
  exact dps_app (dps_same (rm_same s1) h2) (.cons hv .nil)
/-- .., the last row of a block -/
theorem app_X1 {K' : PySem.W.Frag} {te : TE} {L : Addr} {es : List PyData} {d : PyData} (B : Blk K S0 Fl R0 S vs ds H) (hi : σ[i]? = some (some (.ref L))) (hL : Lx K S L es H) (hS : L ∈ S) (h0 : L ∉ S0) (h : MkD K S H σ te d) (hl : es.length ≤ 900)
    (k : ∀ o H', Same H H' → Blk K S0 Fl R0 S vs ds (upd H' L o) → Lx K S L (es ++ [d]) (upd H' L o) → D.nx σ (upd H' L o)) : tDrop (tBM K' "list" rAppend (tVar i) (tCons te tNil)) D σ H :=
  app_X (u := fun D σ H => D.nx σ H) (D := D) B hi hL hS h0 h hl k
/-- x[i], i below the length -/
theorem ix_D {v : V} {d : PyData} {es : List PyData} {r : Nat} {Q : VK} (h : Dp K (rmL S H) v d) (hr : rowOf d = some es) (hi : r < es.length) (k : ∀ e y, es[r]? = some e → Dp K (rmL S H) y e → Q y H) : rBoth K v (.int (r : Nat)) H Q := by
  obtain ⟨q, ys, rfl, hq, ha⟩ := row_len h hr
  have l := dps_len ha
  have e1 := List.getElem?_eq_getElem (show r < ys.length by omega)
  have e2 := List.getElem?_eq_getElem hi
  exact ix_row (lift_row hq) (at_of rfl e1) (k _ _ e2 (dget ha r e1 e2))
theorem ix_X {L : Addr} {es : List PyData} {r : Nat} {Q : VK} (h : Lx K S L es H) (hi : r < es.length) (k : ∀ e y, es[r]? = some e → Dp K (rmL S H) y e → Q y H) : rBoth K (.ref L) (.int (r : Nat)) H Q := by
  obtain ⟨us, h1, ha⟩ := h
  have l := dps_len ha
  have e1 := List.getElem?_eq_getElem (show r < us.length by omega)
  have e2 := List.getElem?_eq_getElem hi
  exact ix_row (.inl (SqL.of h1)) (at_of rfl e1) (k _ _ e2 (dget ha r e1 e2))
/-- for x in what is in a slot -/
theorem for_D {g : TG} {tb : TS} {v : V} {d : PyData} {es : List PyData} (e0 : σ[i]? = some (some v)) (h : Dp K (rmL S H) v d) (hr : rowOf d = some es) (Pv : Nat → L2.St → Hp → Prop) (h0 : Pv 0 σ H) (kp : ∀ i σ' H', Pv i σ' H' → Same (rmL S H) (rmL S H'))
    (turn : ∀ i e y σ' H', es[i]? = some e → Dp K (rmL S H') y e → Pv i σ' H' → g y σ' H' fun σ2 H2 => tb { D with nx := Pv (i + 1), ct := Pv (i + 1), bk := D.nx } σ2 H2) (after : ∀ σ' H', Pv es.length σ' H' → D.nx σ' H') : tFor (iRow K (tVar i)) g tb D σ H := by
  obtain ⟨q, ys, rfl, hq, ha⟩ := row_len h hr
  have l := dps_len ha
  have tn : ∀ i x σ' H', ys[i]? = some x → Pv i σ' H' → g x σ' H' fun σ2 H2 => tb { D with nx := Pv (i + 1), ct := Pv (i + 1), bk := D.nx } σ2 H2 := fun i x σ' H' hx p => by
    obtain ⟨e, he, hd⟩ := dps_get ha hx
    exact turn i e x σ' H' he (dp_same (kp i σ' H' p) hd) p
  rcases hq with hq | hq
  · exact .inl ⟨_, e0, q, rfl, ⟨ys, Same.seq rm_le hq⟩, for_list (xs := ys) Pv h0 (fun i σ' H' _ p => Same.seq rm_le (Same.seq (kp i σ' H' p) hq)) tn (by rw [l]; exact after)⟩
  · exact .inr ⟨_, e0, q, rfl, ⟨ys, seqT_same rm_le hq⟩, for_tup (xs := ys) Pv h0 (fun i σ' H' _ p => seqT_same rm_le (seqT_same (kp i σ' H' p) hq)) tn (by rw [l]; exact after)⟩
/-- .., told of the heap ahead of the loop -/
theorem for_D0 {g : TG} {tb : TS} {v : V} {d : PyData} {es : List PyData} (e0 : σ[i]? = some (some v)) (h : Dp K (rmL S H) v d) (hr : rowOf d = some es) (Pv : Nat → L2.St → Hp → Prop) (h0 : Pv 0 σ H) (kp : ∀ i σ' H', Pv i σ' H' → Same (rmL S H) (rmL S H'))
    (turn : ∀ i e y σ' H', es[i]? = some e → Dp K (rmL S H) y e → Pv i σ' H' → g y σ' H' fun σ2 H2 => tb { D with nx := Pv (i + 1), ct := Pv (i + 1), bk := D.nx } σ2 H2) (after : ∀ σ' H', Pv es.length σ' H' → D.nx σ' H') : tFor (iRow K (tVar i)) g tb D σ H := by
  obtain ⟨q, ys, rfl, hq, ha⟩ := row_len h hr
  have l := dps_len ha
  have tn : ∀ i x σ' H', ys[i]? = some x → Pv i σ' H' → g x σ' H' fun σ2 H2 => tb { D with nx := Pv (i + 1), ct := Pv (i + 1), bk := D.nx } σ2 H2 := fun i x σ' H' hx p => by
    obtain ⟨e, he, hd⟩ := dps_get ha hx
    exact turn i e x σ' H' he hd p
  rcases hq with hq | hq
  · exact .inl ⟨_, e0, q, rfl, ⟨ys, Same.seq rm_le hq⟩, for_list (xs := ys) Pv h0 (fun i σ' H' _ p => Same.seq rm_le (Same.seq (kp i σ' H' p) hq)) tn (by rw [l]; exact after)⟩
  · exact .inr ⟨_, e0, q, rfl, ⟨ys, seqT_same rm_le hq⟩, for_tup (xs := ys) Pv h0 (fun i σ' H' _ p => seqT_same rm_le (seqT_same (kp i σ' H' p) hq)) tn (by rw [l]; exact after)⟩
/-- for x in a new list -/
theorem for_L {te : TE} {g : TG} {tb : TS} {es : List PyData} (A : Alive S H) (h : MkX K S H σ te es) (Pv : Hp → Nat → L2.St → Hp → Prop) (h0 : ∀ Hs, Same H Hs → Pv Hs 0 σ Hs) (kp : ∀ Hs i σ' H', Same H Hs → Pv Hs i σ' H' → Same (rmL S Hs) (rmL S H'))
    (turn : ∀ Hs i e y σ' H', Same H Hs → es[i]? = some e → Dp K (rmL S H') y e → Pv Hs i σ' H' → g y σ' H' fun σ2 H2 => tb { D with nx := Pv Hs (i + 1), ct := Pv Hs (i + 1), bk := D.nx } σ2 H2) (after : ∀ Hs σ' H', Same H Hs → Pv Hs es.length σ' H' → D.nx σ' H') : tFor (iList K te) g tb D σ H :=
  h H _ (Same.refl H) fun L us H1 s1 hL hus => by
    have s2 := new_same hL (.lst us)
    have sS := s1.trans s2
    have l := dps_len hus
    have hR : rmL S (L2.upd H1 L (.lst us)) L = some (.lst us) := rm_new (A.same s1) hL
    refine ⟨L, rfl, ⟨us, SqL.of upd_same⟩, for_list (xs := us) (Pv (L2.upd H1 L (.lst us))) (h0 _ sS) (fun i σ' H' _ p => SqL.of (rm_of (kp _ i σ' H' sS p _ _ hR)).2) (fun i x σ' H' hx p => ?_) (by rw [l]; exact fun σ' H' => after _ σ' H' sS)⟩
    obtain ⟨e, he, hd⟩ := dps_get hus hx
    exact turn _ i e x σ' H' sS he (dp_same (kp _ i σ' H' sS p) (dp_same (rm_same s2) hd)) p
theorem seq_for {w : TI} {g : TG} {tb : TS} (h : tFor w g tb { D with nx := u D } σ H) : tSeq (tFor w g tb) u D σ H := h
end
end Q
set_option Elab.async false
set_option linter.all false
set_option maxRecDepth 100000
set_option maxHeartbeats 4000000
/-! ### data layer over any flow -/
namespace Q
open PySem L2 XD
/-- draw(state, n), whatever the state is -/
def DrawOk (sp : Sp) (S0 : List Addr) (Fl : Hp → Prop) (a : Addr) : Prop := ∀ (n : Nat) (H : Hp) (Q : VK) (E : XK), 1 ≤ n → n ≤ 1000000 → Fl H → (∀ (r : Nat) H', r < n → Fl H' → Same (rmL S0 H) (rmL S0 H') → Q (.int r) H') → sp [.ref a, .int (n : Int)] H Q E
abbrev rLenF (K : PySem.W.Frag) : List V → Hp → VK → Prop := fun xs H Q => ∃ p ys, xs = [.ref p] ∧ (SqL K H p ys ∨ SqT K H p ys) ∧ Q (.int ys.length) H
section
variable {K : PySem.W.Frag} {sp : Sp} {a : Addr} {S0 : List Addr} {Fl : Hp → Prop} {R0 : Hp} {S : List Addr} {vs : List V} {ds : List PyData} {H : Hp} {σ : L2.St} {Q : VK} {i j : Nat}
theorem asg_C {v : V} {u : TS} {D : Ends} (h : u D (σ.set i (some v)) H) : tSeq (tAsg (tC v) (gName i)) u D σ H := h
theorem drawF {n : Nat} (DO : DrawOk sp S0 Fl a) (B : Blk K S0 Fl R0 S vs ds H) (hj : σ[j]? = some (some (.ref a))) (h1 : Nat.ble 1 n = true) (h2 : Nat.ble n 1000000 = true) (k : ∀ (r : Nat) H', r < n → Blk K S0 Fl R0 S vs ds H' → Same (rmL S0 H) (rmL S0 H') → Q (.int r) H') : tCall sp [] E0 (tCons (tVar j) (tCons (tC (.int (n : Int))) tNil)) σ H Q :=
  ⟨_, hj, DO n H _ _ (Nat.le_of_ble_eq_true h1) (Nat.le_of_ble_eq_true h2) B.fl fun r H' hr F s => k r H' hr (B.move F s) s⟩
/-- .., n in a slot -/
theorem drawV {n : Nat} (DO : DrawOk sp S0 Fl a) (B : Blk K S0 Fl R0 S vs ds H) (hj : σ[j]? = some (some (.ref a))) (hi : σ[i]? = some (some (.int (n : Int)))) (h1 : 1 ≤ n) (h2 : n ≤ 1000000) (k : ∀ (r : Nat) H', r < n → Blk K S0 Fl R0 S vs ds H' → Same (rmL S0 H) (rmL S0 H') → Q (.int r) H') : tCall sp [] E0 (tCons (tVar j) (tCons (tVar i) tNil)) σ H Q :=
  ⟨_, hj, _, hi, DO n H _ _ h1 h2 B.fl fun r H' hr F s => k r H' hr (B.move F s) s⟩
theorem drawL {v : V} {d : PyData} {es : List PyData} (DO : DrawOk sp S0 Fl a) (B : Blk K S0 Fl R0 S vs ds H) (hi : σ[i]? = some (some v)) (hj : σ[j]? = some (some (.ref a))) (hd : Dp K (rmL S H) v d) (hr : rowOf d = some es) (h1 : 1 ≤ es.length) (h2 : es.length ≤ 1000)
    (k : ∀ (r : Nat) H', r < es.length → Blk K S0 Fl R0 S vs ds H' → Same (rmL S0 H) (rmL S0 H') → Q (.int r) H') : tCall sp [] E0 (tCons (tVar j) (tCons (tCB (rLenF K) (tCons (tVar i) tNil)) tNil)) σ H Q := by
  obtain ⟨q, ys, rfl, hq, ha⟩ := row_len hd hr
  have l := dps_len ha
  exact ⟨_, hj, _, hi, q, ys, rfl, lift_row hq, DO ys.length H _ _ (by omega) (by omega) B.fl fun r H' hr F s => k r H' (by omega) (B.move F s) s⟩
/-- xs[draw(state, len(xs))], xs as data -/
theorem pickF {v : V} {d : PyData} {es : List PyData} (DO : DrawOk sp S0 Fl a) (B : Blk K S0 Fl R0 S vs ds H) (hi : σ[i]? = some (some v)) (hj : σ[j]? = some (some (.ref a))) (hd : Dp K (rmL S H) v d) (hr : rowOf d = some es) (h1 : 1 ≤ es.length) (h2 : es.length ≤ 1000)
    (k : ∀ (r : Nat) e y H', es[r]? = some e → Blk K S0 Fl R0 S (y :: vs) (e :: ds) H' → Same (rmL S0 H) (rmL S0 H') → Q y H') : tOp (rBoth K) (tVar i) (tCall sp [] E0 (tCons (tVar j) (tCons (tCB (rLenF K) (tCons (tVar i) tNil)) tNil))) σ H Q :=
  ⟨_, hi, drawL DO B hi hj hd hr h1 h2 fun r H' hr' B' s => ix_D (dp_same (rm_more B.sub s) hd) hr hr' fun e y e1 hy => k r e y H' e1 (B'.add hy) s⟩
/-- x.append(v), v there -/
theorem rApp_X {L : Addr} {es : List PyData} {v : V} {d : PyData} (B : Blk K S0 Fl R0 S vs ds H) (hL : Lx K S L es H) (hS : L ∈ S) (h0 : L ∉ S0) (hv : Dp K (rmL S H) v d) (hl : es.length ≤ 900)
    (k : ∀ o, Blk K S0 Fl R0 S vs ds (upd H L o) → Lx K S L (es ++ [d]) (upd H L o) → Q .non (upd H L o)) : rAppend (.ref L) [v] H Q := by
  obtain ⟨us, h1, h2⟩ := hL
  have l := dps_len h2
  refine ⟨L, us, v, rfl, rfl, h1, small1000 (by omega), k _ (B.put hS h0) ⟨us ++ [v], upd_same, ?_⟩⟩
  rw [rm_put hS]
  exact dps_app h2 (.cons hv .nil)
theorem Lx.lst {L : Addr} {es : List PyData} (h : Lx K S L es H) : ∃ us, SqL K H L us := by
  obtain ⟨us, e, _⟩ := h
  exact ⟨us, SqL.of e⟩
/-- a list that is done, as data -/
theorem Lx.dp {L : Addr} {es : List PyData} (h : Lx K S L es H) (sub : ∀ x ∈ S0, x ∈ S) (h0 : L ∉ S0) : Dp K (rmL S0 H) (.ref L) (.list es) := by
  obtain ⟨us, e, hu⟩ := h
  exact .lst (SqL.of ((rm_at h0).trans e)) (dps_same (rm_sub sub) hu)
/-- a list of texts that is done -/
theorem Lx.strs {L : Addr} {ws : List Str} (h : Lx K S L (ws.map PyData.str) H) : H L = some (.lst (ws.map V.str)) := by
  obtain ⟨us, e, hu⟩ := h
  rw [dps_str hu] at e
  exact e
/-- for x in a tuple that an expression gave -/
theorem forT_D {g : TG} {tb : TS} {D : Ends} {v : V} {es : List PyData} (h : Dp K (rmL S H) v (.tuple es)) (Pv : Nat → L2.St → Hp → Prop) (h0 : Pv 0 σ H) (kp : ∀ i σ' H', Pv i σ' H' → Same (rmL S H) (rmL S H'))
    (turn : ∀ i e y σ' H', es[i]? = some e → Dp K (rmL S H') y e → Pv i σ' H' → g y σ' H' fun σ2 H2 => tb { D with nx := Pv (i + 1), ct := Pv (i + 1), bk := D.nx } σ2 H2) (after : ∀ σ' H', Pv es.length σ' H' → D.nx σ' H') :
    ∃ a, v = .ref a ∧ (∃ xs, SqT K H a xs) ∧ ∃ W : Nat → Nat → L2.St → Hp → Prop, (∃ m, W 0 m σ H) ∧ ∀ i m σ H, W i m σ H →
      ((Itt K a).stop i H ∧ D.nx σ H) ∨ ((Itt K a).go i H ∧ ∃ N : L2.St → Hp → Prop, (∀ σ' H', N σ' H' → ∃ m', m' < m ∧ W (i + 1) m' σ' H') ∧ ∀ x H', (Itt K a).yld i H x H' → g x σ H' fun σ2 H2 => tb { D with nx := N, ct := N, bk := D.nx } σ2 H2) := by
  obtain ⟨q, ys, rfl, hq, ha⟩ := TD.of h
  have l := dps_len ha
  refine ⟨q, rfl, ⟨ys, seqT_same rm_le hq⟩, for_tup (xs := ys) Pv h0 (fun i σ' H' _ p => seqT_same rm_le (seqT_same (kp i σ' H' p) hq)) (fun i x σ' H' hx p => ?_) (by rw [l]; exact after)⟩
  obtain ⟨e, he, hd⟩ := dps_get ha hx
  exact turn i e x σ' H' he (dp_same (kp i σ' H' p) hd) p
theorem forL_D {g : TG} {tb : TS} {D : Ends} {v : V} {es : List PyData} (h : Dp K (rmL S H) v (.list es)) (Pv : Nat → L2.St → Hp → Prop) (h0 : Pv 0 σ H) (kp : ∀ i σ' H', Pv i σ' H' → Same (rmL S H) (rmL S H'))
    (turn : ∀ i e y σ' H', es[i]? = some e → Dp K (rmL S H') y e → Pv i σ' H' → g y σ' H' fun σ2 H2 => tb { D with nx := Pv (i + 1), ct := Pv (i + 1), bk := D.nx } σ2 H2) (after : ∀ σ' H', Pv es.length σ' H' → D.nx σ' H') :
    ∃ a, v = .ref a ∧ (∃ xs, SqL K H a xs) ∧ ∃ W : Nat → Nat → L2.St → Hp → Prop, (∃ m, W 0 m σ H) ∧ ∀ i m σ H, W i m σ H →
      ((Itl K a).stop i H ∧ D.nx σ H) ∨ ((Itl K a).go i H ∧ ∃ N : L2.St → Hp → Prop, (∀ σ' H', N σ' H' → ∃ m', m' < m ∧ W (i + 1) m' σ' H') ∧ ∀ x H', (Itl K a).yld i H x H' → g x σ H' fun σ2 H2 => tb { D with nx := N, ct := N, bk := D.nx } σ2 H2) := by
  cases h with
  | @lst q ys _ hq ha =>
    have l := dps_len ha
    refine ⟨q, rfl, ⟨ys, Same.seq rm_le hq⟩, for_list (xs := ys) Pv h0 (fun i σ' H' _ p => Same.seq rm_le (Same.seq (kp i σ' H' p) hq)) (fun i x σ' H' hx p => ?_) (by rw [l]; exact after)⟩
    obtain ⟨e, he, hd⟩ := dps_get ha hx
    exact turn i e x σ' H' he (dp_same (kp i σ' H' p) hd) p
/-- t[l:h] of a tuple -/
theorem sl_D {v : V} {es : List PyData} {l h : Nat} (A : Alive S H) (hv : Dp K (rmL S H) v (.tuple es)) (hl : l ≤ es.length) (k : ∀ u H', Same H H' → Dp K (rmL S H') u (.tuple ((es.drop l).take (h - l))) → Q u H') : rSlA K v (some (l : Int)) (some (h : Int)) H Q := by
  obtain ⟨q, ys, rfl, hq, ha⟩ := TD.of hv
  have ln := dps_len ha
  have e1 : HT.sIx ys.length 0 (some (l : Int)) = l := by rw [HT.sIx_nat, Nat.min_eq_left (by omega)]
  have e2 : HT.sIx ys.length ys.length (some (h : Int)) = min h ys.length := HT.sIx_nat _ _ _
  have cut : cutV ys (some (l : Int)) (some (h : Int)) = (ys.drop l).take (h - l) := by
    unfold cutV
    rw [e1, e2]
    by_cases g : h ≤ ys.length
    · rw [Nat.min_eq_left g]
    · rw [Nat.min_eq_right (by omega), List.take_of_length_le (by rw [List.length_drop]; exact Nat.le_refl _), List.take_of_length_le (by rw [List.length_drop]; omega)]
  have dd : DpAll K (rmL S H) ((ys.drop l).take (h - l)) ((es.drop l).take (h - l)) := dps_take _ (dps_drop l ha)
  refine ⟨q, ys, rfl, seqT_same rm_le hq, fun z => k _ H (Same.refl H) ?_, fun _ p hp => ?_⟩
  · rw [e1, e2] at z
    obtain ⟨z1, z2⟩ := z
    subst z1
    have g1 : (es.drop 0).take (h - 0) = es := by
      rw [List.drop_zero, Nat.sub_zero, List.take_of_length_le]
      omega
    rw [g1]
    exact hv
  · have s := new_same hp (.tup (cutV ys (some (l : Int)) (some (h : Int))))
    refine k _ _ s (.tup (.inl (.inl (rm_new A hp))) ?_)
    rw [cut]
    exact dps_same (rm_same (new_same hp _)) dd
/-- a comprehension over a tuple that is written -/
theorem mx_lcT {H0 : Hp} {t0 : TE} {g : TG} {tt : TT} {te : TE} {ws : List Nat} {ds es : List PyData} (sel : Nat → Bool) (f : Nat → PyData) (A : Alive S H0) (h : MkD K S H0 σ t0 (.tuple ds)) (hl : ds.length ≤ 1000)
    (he : ((List.range ds.length).filter sel).map f = es)
    (turn : ∀ (i : Nat) (v : V) (e : PyData) (D : Addr) (H : Hp) (yes : VK) (no : Hp → Prop), ds[i]? = some e → Dp K (rmL (D :: S) H) v e → Alive (D :: S) H → Same (rmL S H0) (rmL (D :: S) H) → Same H0 H →
      (sel i = true → ∀ y H', Same H H' → Dp K (rmL (D :: S) H') y (f i) → yes y H') → (sel i = false → ∀ H', Same H H' → no H') →
      g v (wipe σ ws) H fun σ2 H2 => wipe σ2 ws = wipe σ ws ∧ tt σ2 H2 fun b H3 => if b = true then te σ2 H3 yes else no H3) : MkX K S H0 σ (tLc (iTup K t0) g tt te ws) es := fun H Q s k =>
  h H _ s fun v H1 s1 hv => by
    obtain ⟨q, ys, rfl, hq, ha⟩ := TD.of hv
    have ly := dps_len ha
    have hqf := seqT_same rm_le hq
    refine ⟨q, rfl, ⟨ys, hqf⟩, fun D hD => ?_⟩
    have sD : ∀ {H' : Hp}, Same H1 H' → Same (rmL S H1) (rmL (D :: S) H') := fun s' => same_in hD s'
    refine lc_tup (xs := ys) (fun i H' => ∃ zs, H' D = some (.lst zs) ∧ DpAll K (rmL (D :: S) H') zs (((List.range i).filter sel).map f) ∧ Same H1 H') ⟨[], upd_same, .nil, new_same hD _⟩ (fun i H' _ ⟨_, _, _, z⟩ => seqT_same z hqf) (fun i x H' hx ⟨zs, z1, z2, z3⟩ => ?_) (fun H' ⟨zs, z1, z2, z3⟩ => ?_)
    · obtain ⟨e, he', hd⟩ := dps_get ha hx
      have il := (List.getElem?_eq_some_iff.mp hx).1
      have zl := dps_len z2
      have rl : (((List.range i).filter sel).map f).length ≤ i := by
        rw [List.length_map]
        refine Nat.le_trans (List.length_filter_le _ _) ?_
        rw [List.length_range]
        exact Nat.le_refl _
      refine turn i x e D H' _ _ he' (dp_same (sD z3) hd) (fun y hy => ?_) ((rm_same (s.trans s1)).trans (sD z3)) ((s.trans s1).trans z3) (fun hs y H4 s4 hy => ⟨zs, s4 _ _ z1, small1000 (by omega), zs ++ [y], upd_same, ?_, fun b o z => ?_⟩) (fun hs H4 s4 => ⟨zs, s4 _ _ z1, ?_, z3.trans s4⟩)
      · rcases List.mem_cons.mp hy with rfl | hy
        · rw [z1]
          exact fun z => by cases z
        · exact ((A.same (s.trans s1)).same z3) y hy
      · rw [rm_put List.mem_cons_self, range_filter, if_pos hs, List.map_append]
        exact dps_app (dps_same (rm_same s4) z2) (.cons hy .nil)
      · rw [upd_ne (ne_of_none z hD)]
        exact s4 _ _ (z3 _ _ z)
      · rw [range_filter, if_neg (by rw [hs]; exact Bool.false_ne_true), List.append_nil]
        exact dps_same (rm_same s4) z2
    · have z2 : DpAll K (rmL (D :: S) H') zs es := by
        rw [← he, ← ly]
        exact z2
      have := k D zs (rmL [D] H') ((s1.trans (same_rm1 hD z3))) rm_gone (by rw [rm_rm]; exact z2)
      rw [rm_back z1] at this
      exact this
end
end Q
set_option Elab.async false
set_option linter.all false
set_option maxRecDepth 100000
set_option maxHeartbeats 4000000
/-! ### k31 to k33: the flow, a list of the cells and five whole numbers -/
namespace Q
open PySem L2 XD
structure Be31 (mg : Str → Option Value) : Prop where
  int : mg "int" = none
  list : mg "list" = none
  len : mg "len" = none
  range : mg "range" = none
  tup : mg "tuple" = none
  isi : mg "isinstance" = none
abbrev v31 (b : Addr) (p r m c d : Int) : List V := [.ref b, .int p, .int r, .int m, .int c, .int d]
structure F31 (H : Hp) (a b : Addr) (ns : List Int) (p r m c d : Int) : Prop where
  at_ : H a = some (.lst (v31 b p r m c d))
  ls : H b = some (.lst (ns.map V.int))
  ne : ns ≠ []
  pos : 0 ≤ p
def Fl31 (b : Addr) (H : Hp) (a : Addr) : Prop := ∃ ns p r m c d, F31 H a b ns p r m c d
theorem F31.nab {H : Hp} {a b : Addr} {ns : List Int} {p r m c d : Int} (F : F31 H a b ns p r m c d) : b ≠ a := fun e => by
  have h := F.ls
  rw [e, F.at_] at h
  have q : v31 b p r m c d = ns.map V.int := HO.lst.inj (Option.some.inj h)
  cases ns with
  | nil => cases q
  | cons x r =>
    have z := (List.cons.inj q).1
    cases z
theorem F31.put {H : Hp} {a b : Addr} {ns : List Int} {p r m c d : Int} (F : F31 H a b ns p r m c d) (p' r' m' c' d' : Int) (h : 0 ≤ p') : F31 (upd H a (.lst (v31 b p' r' m' c' d'))) a b ns p' r' m' c' d' := ⟨upd_same, by rw [upd_ne F.nab]; exact F.ls, F.ne, h⟩
theorem flo31 {a b : Addr} : Flo [a, b] (fun H => Fl31 b H a) := by
  refine ⟨fun {H} h x hx => ?_, fun {H H'} hx h => ?_⟩
  · obtain ⟨ns, p, r, m, c, d, F⟩ := h
    rcases List.mem_cons.mp hx with e | e
    · rw [e, F.at_]
      exact fun z => by cases z
    · rw [List.mem_singleton.mp e, F.ls]
      exact fun z => by cases z
  · obtain ⟨ns, p, r, m, c, d, F⟩ := h
    exact ⟨ns, p, r, m, c, d, (hx a List.mem_cons_self).trans F.at_, (hx b (List.mem_cons_of_mem _ (List.mem_singleton.mpr rfl))).trans F.ls, F.ne, F.pos⟩
abbrev Bs31 (a b : Addr) (H : Hp) : Hp := rmL [a, b] H
theorem b31_a {a b : Addr} {H : Hp} {o : HO} : Bs31 a b (upd H a o) = Bs31 a b H := rm_put List.mem_cons_self
theorem at31_0 {b : Addr} {p r m c d : Int} : atI (v31 b p r m c d) 0 = some (.ref b) := rfl
theorem at31_1 {b : Addr} {p r m c d : Int} : atI (v31 b p r m c d) 1 = some (.int p) := rfl
theorem at31_2 {b : Addr} {p r m c d : Int} : atI (v31 b p r m c d) 2 = some (.int r) := rfl
theorem at31_3 {b : Addr} {p r m c d : Int} : atI (v31 b p r m c d) 3 = some (.int m) := rfl
theorem at31_4 {b : Addr} {p r m c d : Int} : atI (v31 b p r m c d) 4 = some (.int c) := rfl
theorem at31_5 {b : Addr} {p r m c d : Int} : atI (v31 b p r m c d) 5 = some (.int d) := rfl
theorem set31_1 {H : Hp} {a b : Addr} {ns : List Int} {p r m c d z : Int} {Q : Hp → Prop} (F : F31 H a b ns p r m c d) (k : Q (upd H a (.lst (v31 b z r m c d)))) : rSetL (.ref a) (.int 1) (.int z) H Q := ⟨a, _, 1, 1, rfl, rfl, F.at_, rfl, k⟩
theorem set31_2 {H : Hp} {a b : Addr} {ns : List Int} {p r m c d z : Int} {Q : Hp → Prop} (F : F31 H a b ns p r m c d) (k : Q (upd H a (.lst (v31 b p z m c d)))) : rSetL (.ref a) (.int 2) (.int z) H Q := ⟨a, _, 2, 2, rfl, rfl, F.at_, rfl, k⟩
theorem set31_4 {H : Hp} {a b : Addr} {ns : List Int} {p r m c d z : Int} {Q : Hp → Prop} (F : F31 H a b ns p r m c d) (k : Q (upd H a (.lst (v31 b p r m z d)))) : rSetL (.ref a) (.int 4) (.int z) H Q := ⟨a, _, 4, 4, rfl, rfl, F.at_, rfl, k⟩
theorem set31_5 {H : Hp} {a b : Addr} {ns : List Int} {p r m c d z : Int} {Q : Hp → Prop} (F : F31 H a b ns p r m c d) (k : Q (upd H a (.lst (v31 b p r m c z)))) : rSetL (.ref a) (.int 5) (.int z) H Q := ⟨a, _, 5, 5, rfl, rfl, F.at_, rfl, k⟩
abbrev Bl31 (K : PySem.W.Frag) (a b : Addr) := Blk K [a, b] (fun H => Fl31 b H a)
def spStart31 (K : PySem.W.Frag) : Sp := fun vs H Q _ => ∃ (sc : Addr) (ns : List Int), vs = [.ref sc] ∧ SqL K H sc (ns.map V.int) ∧ ∀ a b H', Same H H' → Fl31 b H' a → Q (.ref a) H'
def spMixed31 : Sp := fun vs H Q _ => ∃ (x y : Int), vs = [.int x, .int y] ∧ ∀ z : Int, Q (.int z) H
def spDraw31 : Sp := fun vs H Q _ => ∃ (a b : Addr) (n : Nat), vs = [.ref a, .int n] ∧ Fl31 b H a ∧ 1 ≤ n ∧ n ≤ 1000000 ∧ ∀ (r : Nat) (H' : Hp), r < n → Fl31 b H' a → Same (Bs31 a b H) (Bs31 a b H') → Q (.int r) H'
theorem draw31_ok {a b : Addr} : DrawOk spDraw31 [a, b] (fun H => Fl31 b H a) a := fun n H Q E h1 h2 F k => ⟨a, b, n, rfl, F, h1, h2, k⟩
abbrev nSa31 : List Str := ["script", "cells", "mode"]
abbrev nMx31 : List Str := ["cell", "count", "first", "second", "third"]
abbrev nDr31 : List Str := ["st", "many", "rest", "at", "cell"]
theorem few31 {n : Nat} (h : n ≤ 1000000) : ((n : Int)).natAbs < 2 ^ 200 := by
  have : (1000001 : Nat) < 2 ^ 200 := by decide
  omega
section
variable {P : Program} {w : World} {K : PySem.W.Frag} {mg : Str → Option Value} {base : Heap}
theorem scSa31 : FnScope nSa31 ["script"] (defScope sLStart) := ⟨rfl, rfl, rfl, by decide +kernel, rfl, by decide +kernel, by decide +kernel⟩
theorem scMx31 : FnScope nMx31 ["cell", "count"] (defScope sLMixed) := ⟨rfl, rfl, rfl, by decide +kernel, rfl, by decide +kernel, by decide +kernel⟩
theorem scDr31 : FnScope nDr31 ["st", "many"] (defScope sLDraw) := ⟨rfl, rfl, rfl, by decide +kernel, rfl, by decide +kernel, by decide +kernel⟩
theorem ok_mixed31 {f : Addr} {fd : FuncData} (F : Fun K "_law_mixed" "_law_mixed" sLMixed f fd) (T : Be31 mg) : FnOk P w K mg base CX0 1 f fd ["cell", "count"] spMixed31 := by
  refine F.ok scMx31 (fun vs H Q E h => ?_) (fun cdv A outer s H vs Q E hr h => ?_)
  · obtain ⟨x, y, rfl, _⟩ := h
    rfl
  refine ⟨_, pss_cons (ps_set (i := 2) scMx31.nd rfl (.inl rfl) (pe_op op_mod (pe_callTy call_int1 rfl T.int (by decide +kernel) (pa_cons (pe_op op_add (pe_op op_add (pe_op op_mul (pv 0) pe_int) (pe_op op_mul (pv 1) pe_int)) pe_int) pa_nil)) pe_int))
    (pss_cons (ps_set (i := 3) scMx31.nd rfl (.inl rfl) (pe_op op_mod (pe_callTy call_int1 rfl T.int (by decide +kernel) (pa_cons (pe_op op_add (pe_op op_add (pe_op op_mul (pv 2) (pv 2)) (pe_op op_mul (pv 1) pe_int)) pe_int) pa_nil)) pe_int))
    (pss_cons (ps_set (i := 4) scMx31.nd rfl (.inl rfl) (pe_op op_mod (pe_callTy call_int1 rfl T.int (by decide +kernel) (pa_cons (pe_op op_add (pe_op op_add (pe_op op_mul (pv 3) (pv 3)) (pv 2)) (pv 1)) pa_nil)) pe_int))
    (pss_one (ps_ret (pe_op op_add (pe_op op_mul (pe_op op_add (pe_op op_mul (pv 4) pe_int) (pv 3)) pe_int) (pv 2)))))), ?_⟩
  obtain ⟨x, y, rfl, k⟩ := h
  try simp only [L2.start, gName, List.map_cons, List.map_nil, List.length_cons, List.length_nil, Nat.reduceAdd, Nat.reduceSub, List.replicate_succ, List.replicate_zero, List.cons_append, List.nil_append, List.set_cons_succ, List.set_cons_zero]
  refine ⟨_, rfl, _, _, rfl, rfl, .inr ⟨by decide, by decide⟩, _, rfl, _, _, rfl, rfl, .inr ⟨by decide, by decide⟩, _, _, rfl, rfl, _, _, rfl, rfl, .inl ⟨_, rfl, _, _, rfl, rfl, (by show (0 : Int) < 2147483647; decide), ?_⟩⟩
  generalize ea : (x * 48271 + y * 69621 + 13) % 2147483647 = u
  have u0 : 0 ≤ u := ea ▸ Int.emod_nonneg _ (by decide)
  have u1 : u < 2147483647 := ea ▸ Int.emod_lt_of_pos _ (by decide)
  try simp only [gName, List.set_cons_succ, List.set_cons_zero]
  refine ⟨_, rfl, _, rfl, _, _, rfl, rfl, .inl ⟨?_, ?_⟩, _, rfl, _, _, rfl, rfl, .inr ⟨by decide, by decide⟩, _, _, rfl, rfl, _, _, rfl, rfl, .inl ⟨_, rfl, _, _, rfl, rfl, (by show (0 : Int) < 2147483399; decide), ?_⟩⟩
  · have : (-(2 ^ 64) : Int) ≤ 0 := by decide
    omega
  · have : (2147483647 : Int) < 2 ^ 64 := by decide
    omega
  generalize eb : (u * u + y * 40692 + 5) % 2147483399 = v
  have v0 : 0 ≤ v := eb ▸ Int.emod_nonneg _ (by decide)
  have v1 : v < 2147483399 := eb ▸ Int.emod_lt_of_pos _ (by decide)
  try simp only [gName, List.set_cons_succ, List.set_cons_zero]
  refine ⟨_, rfl, _, rfl, _, _, rfl, rfl, .inl ⟨?_, ?_⟩, _, rfl, _, _, rfl, rfl, _, rfl, _, _, rfl, rfl, .inl ⟨_, rfl, _, _, rfl, rfl, (by show (0 : Int) < 2147483629; decide), ?_⟩⟩
  · have : (-(2 ^ 64) : Int) ≤ 0 := by decide
    omega
  · have : (2147483399 : Int) < 2 ^ 64 := by decide
    omega
  try simp only [gName, List.set_cons_succ, List.set_cons_zero]
  exact ⟨_, rfl, _, _, rfl, rfl, .inr ⟨by decide, by decide⟩, _, rfl, _, _, rfl, rfl, _, _, rfl, rfl, .inr ⟨by decide, by decide⟩, _, rfl, _, _, rfl, rfl, k _⟩
theorem ok_draw31 {f : Addr} {fd : FuncData} (F : Fun K "_law_draw" "_law_draw" sLDraw f fd) (T : Be31 mg) (KM : Kn P w K mg base 1 "_law_mixed" ["cell", "count"] spMixed31) : FnOk P w K mg base CX0 2 f fd ["st", "many"] spDraw31 := by
  obtain ⟨fM, fdM, GM, kM, bM, mM⟩ := KM.ex
  refine F.ok scDr31 (fun vs H Q E h => ?_) (fun cdv A outer s H vs Q E hr h => ?_)
  · obtain ⟨a, b, n, rfl, _⟩ := h
    rfl
  refine ⟨_, pss_cons (ps_asg (pe_op op_add (pe_ix ix_list (pv 0) pe_int (fun _ _ => rfl)) pe_int) (pg_sub (pv 0) pe_int set_list))
    (pss_cons (ps_asg (pe_op op_add (pe_ix ix_list (pv 0) pe_int (fun _ _ => rfl)) pe_int) (pg_sub (pv 0) pe_int set_list))
    (pss_cons (ps_if (PW.pt (pw_and (pt_cmpR op_gt (pe_ix ix_list (pv 0) pe_int (fun _ _ => rfl)) pe_int (nomark _)) (pw_and1 (pt_cmpR op_lt (pe_ix ix_list (pv 0) pe_int (fun _ _ => rfl)) pe_int (nomark _))))) (pss_cons (ps_set (i := 2) scDr31.nd rfl (.inl rfl) (pe_ix ix_list (pv 0) pe_int (fun _ _ => rfl)))
    (pss_cons (ps_asg (pe_op op_fdivW (pv 2) (pv 1)) (pg_sub (pv 0) pe_int set_list))
    (pss_one (ps_ret (pe_op op_mod (pe_callTy call_int1 rfl T.int (by decide +kernel) (pa_cons (pv 2) pa_nil)) (pv 1)))))) pss_nil)
    (pss_cons (ps_set (i := 3) scDr31.nd rfl (.inl rfl) (pe_ix ix_list (pv 0) pe_int (fun _ _ => rfl)))
    (pss_cons (ps_asg (pe_op op_add (pv 3) pe_int) (pg_sub (pv 0) pe_int set_list))
    (pss_cons (ps_asg pe_int (pg_sub (pv 0) pe_int set_list))
    (pss_cons (ps_set (i := 4) scDr31.nd rfl (.inl rfl) (pe_ix (ix_both K rfl) (pe_ix ix_list (pv 0) pe_int (fun _ _ => rfl)) (pe_op op_mod (pe_callTy call_int1 rfl T.int (by decide +kernel) (pa_cons (pv 3) pa_nil)) (pe_callB call_len_seq (by rfl) T.len PySem.boot_len (pa_cons (pe_ix ix_list (pv 0) pe_int (fun _ _ => rfl)) pa_nil))) (fun _ _ => rfl)))
    (pss_cons (ps_if (PW.pt (pw_and (pt_cmpR op_eq (pe_ix ix_list (pv 0) pe_int (fun _ _ => rfl)) pe_int (nomark _)) (pw_and (pt_cmpR op_lt (pv 3) (pe_callB call_len_seq (by rfl) T.len PySem.boot_len (pa_cons (pe_ix ix_list (pv 0) pe_int (fun _ _ => rfl)) pa_nil)) (nomark _)) (pw_and1 (pt_cmpR op_ge (pv 4) (pe_op op_pow pe_int pe_int) (nomark _)))))) (pss_cons (ps_asg (pe_op op_fdivW (pv 4) (pv 1)) (pg_sub (pv 0) pe_int set_list))
    (pss_cons (ps_asg pe_int (pg_sub (pv 0) pe_int set_list))
    (pss_one (ps_ret (pe_op op_mod (pe_callTy call_int1 rfl T.int (by decide +kernel) (pa_cons (pv 4) pa_nil)) (pv 1)))))) pss_nil)
    (pss_one (ps_ret (pe_op op_mod (pe_callTy call_int1 rfl T.int (by decide +kernel) (pa_cons (pe_call GM hr (by rfl) mM kM bM .nil pass0 (pa_cons (pv 4) (pa_cons (pe_ix ix_list (pv 0) pe_int (fun _ _ => rfl)) pa_nil))) pa_nil)) (pv 1))))))))))), ?_⟩
  obtain ⟨a, b, n, rfl, Fl, hn1, hn, k⟩ := h
  have hpos : (0 : Int) < (n : Int) := by omega
  have fin : ∀ (z : Int) (H' : Hp), Fl31 b H' a → Same (Bs31 a b H) (Bs31 a b H') → Q (.int (z % (n : Int))) H' := fun z H' F s => by
    have h0 := Int.emod_nonneg z (Int.ne_of_gt hpos)
    have h1 := Int.emod_lt_of_pos z hpos
    have e : z % (n : Int) = (((z % (n : Int)).toNat : Nat) : Int) := by omega
    rw [e]
    exact k _ H' (by omega) F s
  obtain ⟨ns, p, r, m, c, d, Z⟩ := Fl
  try simp only [L2.start, gName, List.map_cons, List.map_nil, List.length_cons, List.length_nil, Nat.reduceAdd, Nat.reduceSub, List.replicate_succ, List.replicate_zero, List.cons_append, List.nil_append, List.set_cons_succ, List.set_cons_zero]
  have p0 := Z.pos
  have Z1 := Z.put p r m (c + 1) d p0
  have Z2 := Z1.put p r m (c + 1) (d + 1) p0
  refine ⟨_, rfl, a, _, _, _, rfl, rfl, SqL.of Z.at_, at31_4, _, _, rfl, rfl, _, rfl, set31_4 Z ?_⟩
  refine ⟨_, rfl, a, _, _, _, rfl, rfl, SqL.of Z1.at_, at31_5, _, _, rfl, rfl, _, rfl, set31_5 Z1 ?_⟩
  have S2 : Same (Bs31 a b H) (Bs31 a b (L2.upd (L2.upd H a (.lst (v31 b p r m (c + 1) d))) a (.lst (v31 b p r m (c + 1) (d + 1))))) := by
    rw [b31_a, b31_a]
    exact Same.refl _
  dsimp only
  generalize L2.upd (L2.upd H a (.lst (v31 b p r m (c + 1) d))) a (.lst (v31 b p r m (c + 1) (d + 1))) = H1 at Z2 S2
  clear Z Z1
  have wd : ∀ z : Int, CDivW z (n : Int) := fun z => wide_div hpos (few31 (by omega)) (by decide) (by decide)
  generalize ec : c + 1 = c1 at Z2 S2
  generalize ed : d + 1 = d1 at Z2 S2
  clear ec ed
  refine seq_cut (fun σ H' => H' = H1 ∧ σ = [some (.ref a), some (.int n), none, none, none]) ?_ (fun join => ?_)
  · rintro σ H' ⟨rfl, rfl⟩
    have Z3 := Z2.put (p + 1) r m c1 d1 (by omega)
    have Z4 := Z3.put (p + 1) 0 m c1 d1 (by omega)
    refine ⟨_, rfl, a, _, _, _, rfl, rfl, SqL.of Z2.at_, at31_1, ?_⟩
    try simp only [gName, List.set_cons_succ, List.set_cons_zero]
    refine ⟨_, rfl, _, _, rfl, rfl, _, rfl, set31_1 Z2 ?_⟩
    refine ⟨_, rfl, set31_2 Z3 ?_⟩
    have S4 : Same (Bs31 a b H) (Bs31 a b (L2.upd (L2.upd H' a (.lst (v31 b (p + 1) r m c1 d1))) a (.lst (v31 b (p + 1) 0 m c1 d1)))) := by
      rw [b31_a, b31_a]
      exact S2
    dsimp only
    generalize L2.upd (L2.upd H' a (.lst (v31 b (p + 1) r m c1 d1))) a (.lst (v31 b (p + 1) 0 m c1 d1)) = H2 at Z4 S4
    clear Z2 Z3 S2
    have nl : 0 < ns.length := List.length_pos_iff.mpr Z4.ne
    have lp : (0 : Int) < ((ns.map V.int).length : Int) := by
      rw [List.length_map]
      omega
    have q0 := Int.emod_nonneg p (Int.ne_of_gt lp)
    have q1 := Int.emod_lt_of_pos p lp
    rw [List.length_map] at q1
    obtain ⟨j, hj, ej⟩ : ∃ j : Nat, j < ns.length ∧ p % ((ns.map V.int).length : Int) = (j : Int) := ⟨(p % ((ns.map V.int).length : Int)).toNat, by rw [List.length_map] at q0 ⊢; omega, by omega⟩
    have ex : ns[j]? = some ns[j] := List.getElem?_eq_getElem hj
    generalize ns[j] = z at ex
    refine ⟨_, rfl, a, _, _, _, rfl, rfl, SqL.of Z4.at_, at31_0, _, rfl, .inl ⟨_, rfl, _, rfl, a, _, _, _, rfl, rfl, SqL.of Z4.at_, at31_0, b, _, rfl, .inl (SqL.of Z4.ls), _, _, rfl, rfl, lp, ?_⟩⟩
    show rBoth K _ (V.int (p % ((ns.map V.int).length : Int))) H2 _
    rw [ej]
    refine ix_row (.inl (SqL.of Z4.ls)) (at_of rfl (by rw [List.getElem?_map, ex] <;> rfl)) ?_
    try simp only [gName, List.set_cons_succ, List.set_cons_zero]
    have last : ∀ Q' : VK, (∀ y : Int, Q' (.int (y % (n : Int))) H2) → True := fun _ _ => trivial
    refine seq_cut (fun σ H' => H' = H2 ∧ σ = [some (.ref a), some (.int n), none, some (.int p), some (.int z)]) ?_ (fun join2 => ?_)
    · rintro σ H3 ⟨rfl, rfl⟩
      refine ⟨_, rfl, _, rfl, a, _, _, _, rfl, rfl, SqL.of Z4.at_, at31_4, z, c1, rfl, fun y => .inl ⟨_, rfl, _, rfl, _, _, rfl, rfl, hpos, ?_⟩⟩
      exact fin _ _ ⟨_, _, _, _, _, _, Z4⟩ S4
    · refine ⟨_, rfl, a, _, _, _, rfl, rfl, SqL.of Z4.at_, at31_3, rfl, _, rfl, iteB (fun e => ?_) (fun e => join2 _ _ ⟨rfl, rfl⟩)⟩
      refine ⟨_, rfl, _, rfl, a, _, _, _, rfl, rfl, SqL.of Z4.at_, at31_0, b, _, rfl, .inl (SqL.of Z4.ls), _, _, rfl, rfl, _, rfl, iteB (fun e => ?_) (fun e => join2 _ _ ⟨rfl, rfl⟩)⟩
      refine ⟨_, rfl, _, _, rfl, rfl, ⟨by decide, by decide, by decide⟩, _, _, rfl, rfl, _, rfl, iteB (fun e => ?_) (fun e => join2 _ _ ⟨rfl, rfl⟩)⟩
      have Z5 := Z4.put (p + 1) (z / (n : Int)) m c1 d1 (by omega)
      have Z6 := Z5.put (p + 1) (z / (n : Int)) m c1 0 (by omega)
      refine ⟨_, rfl, _, rfl, _, _, rfl, rfl, wd z, _, rfl, set31_2 Z4 ?_⟩
      refine ⟨_, rfl, set31_5 Z5 ?_⟩
      refine ⟨_, rfl, .inl ⟨_, rfl, _, rfl, _, _, rfl, rfl, hpos, fin _ _ ⟨_, _, _, _, _, _, Z6⟩ ?_⟩⟩
      rw [b31_a, b31_a]
      exact S4
  · refine ⟨_, rfl, a, _, _, _, rfl, rfl, SqL.of Z2.at_, at31_2, _, _, rfl, rfl, _, rfl, iteB (fun e => ?_) (fun e => join _ _ ⟨rfl, rfl⟩)⟩
    refine ⟨_, rfl, a, _, _, _, rfl, rfl, SqL.of Z2.at_, at31_5, _, _, rfl, rfl, _, rfl, iteB (fun e => ?_) (fun e => join _ _ ⟨rfl, rfl⟩)⟩
    have Z3 := Z2.put p (r / (n : Int)) m c1 d1 p0
    refine ⟨_, rfl, a, _, _, _, rfl, rfl, SqL.of Z2.at_, at31_2, ?_⟩
    try simp only [gName, List.set_cons_succ, List.set_cons_zero]
    refine ⟨_, rfl, _, rfl, _, _, rfl, rfl, wd r, _, rfl, set31_2 Z2 ?_⟩
    refine ⟨_, rfl, .inl ⟨_, rfl, _, rfl, _, _, rfl, rfl, hpos, fin _ _ ⟨_, _, _, _, _, _, Z3⟩ ?_⟩⟩
    rw [b31_a]
    exact S2
theorem ok_start31 {f : Addr} {fd : FuncData} (F : Fun K "_law_start" "_law_start" sLStart f fd) (T : Be31 mg) : FnOk P w K mg base CX0 1 f fd ["script"] (spStart31 K) := by
  refine F.ok scSa31 (fun vs H Q E h => ?_) (fun cdv A outer s H vs Q E hr h => ?_)
  · obtain ⟨sc, ns, rfl, _⟩ := h
    rfl
  have vl_ : PySem.bootBuiltins "list" = some (.type "list") := by decide +kernel
  refine ⟨_, pss_cons (ps_if (pt_cmpR op_eq (pe_callB call_len_seq (by rfl) T.len PySem.boot_len (pa_cons (pv 0) pa_nil)) pe_int (nomark _)) (pss_one (ps_ret (pe_lst (pa_cons (pe_lst (pa_cons pe_int pa_nil)) (pa_cons pe_int (pa_cons pe_int (pa_cons pe_int (pa_cons pe_int (pa_cons pe_int pa_nil))))))))) pss_nil)
    (pss_cons (ps_set (i := 1) scSa31.nd rfl (.inl rfl) (pe_callTy call_list_of (by rfl) T.list vl_ (pa_cons (pv 0) pa_nil)))
    (pss_cons (ps_set (i := 2) scSa31.nd rfl (.inl rfl) (pe_op op_mod (pe_callTy call_int1 rfl T.int (by decide +kernel) (pa_cons (pe_ix (ix_both K rfl) (pv 1) pe_int (fun _ _ => rfl)) pa_nil)) pe_int))
    (pss_cons (ps_asg (pe_op op_fdiv (pe_ix (ix_both K rfl) (pv 1) pe_int (fun _ _ => rfl)) pe_int) (pg_sub (pv 1) pe_int set_list))
    (pss_one (ps_ret (pe_lst (pa_cons (pv 1) (pa_cons pe_int (pa_cons pe_int (pa_cons (pv 2) (pa_cons pe_int (pa_cons pe_int pa_nil)))))))))))), ?_⟩
  obtain ⟨sc, ns, rfl, hs, k⟩ := h
  try simp only [L2.start, gName, List.map_cons, List.map_nil, List.length_cons, List.length_nil, Nat.reduceAdd, Nat.reduceSub, List.replicate_succ, List.replicate_zero, List.cons_append, List.nil_append, List.set_cons_succ, List.set_cons_zero]
  refine ⟨_, rfl, sc, _, rfl, .inl hs, rfl, _, rfl, iteB (fun e => ?_) (fun e => nxt ?_)⟩
  · refine ⟨by show 1 ≤ sizeLine; decide, fun b hb => ⟨by show 6 ≤ sizeLine; decide, fun a ha => ?_⟩⟩
    have s1 := new_same hb (.lst [V.int 0])
    have nab : b ≠ a := fun z => by
      rw [← z, upd_same] at ha
      cases ha
    exact k a b _ (s1.trans (new_same ha _)) ⟨[0], 0, 0, 1, 0, 0, upd_same, by rw [upd_ne nab, upd_same] <;> rfl, by simp, Int.le_refl 0⟩
  · cases ns with
    | nil => cases e
    | cons n ns =>
    refine ⟨_, rfl, sc, _, rfl, .inl hs, fun b hb => ?_⟩
    have s1 := new_same hb (.lst ((n :: ns).map V.int))
    have hb1 := upd_same (H := H) (a := b) (o := .lst ((n :: ns).map V.int))
    generalize L2.upd H b (.lst ((n :: ns).map V.int)) = H1 at s1 hb1
    try simp only [gName, List.set_cons_succ, List.set_cons_zero]
    refine ⟨_, rfl, ix_row (.inl (SqL.of hb1)) (at_of (j := 0) rfl rfl) (.inl ⟨_, rfl, _, _, rfl, rfl, (by show (0 : Int) < 2; decide), ?_⟩)⟩
    try simp only [gName, List.set_cons_succ, List.set_cons_zero]
    refine ⟨_, rfl, ix_row (.inl (SqL.of hb1)) (at_of (j := 0) rfl rfl) ⟨_, _, rfl, rfl, ⟨by decide, by decide⟩, _, rfl, b, _, 0, 0, rfl, rfl, hb1, (by unfold ixN; simp), ?_⟩⟩
    refine ⟨_, rfl, _, rfl, by show 6 ≤ sizeLine; decide, fun a ha => ?_⟩
    have nab : b ≠ a := fun z => by
      rw [← z, upd_same] at ha
      cases ha
    refine k a b _ (fun x o ex => ?_) ⟨n / 2 :: ns, 0, 0, n % 2, 0, 0, upd_same, by rw [upd_ne nab, upd_same] <;> rfl, by simp, Int.le_refl 0⟩
    have nx : x ≠ b := ne_of_none ex hb
    have ex1 := s1 _ _ ex
    rw [upd_ne (ne_of_none (by rw [upd_ne nx]; exact ex1) ha), upd_ne nx]
    exact ex1
end
end Q
set_option Elab.async false
set_option linter.all false
set_option maxRecDepth 100000
set_option maxHeartbeats 4000000
/-! ### k31: _law_one, _law_turned -/
namespace Q
open PySem L2 XD
abbrev Row31 (K : PySem.W.Frag) (H : Hp) (q : Addr) (ys : List V) : Prop := SqL K H q ys ∨ SqT K H q ys
def spOne31 (K : PySem.W.Frag) : Sp := fun vs H Q _ => ∃ (a b q : Addr) (ys : List V), vs = [.ref a, .ref q] ∧ Fl31 b H a ∧ Row31 K (Bs31 a b H) q ys ∧ 1 ≤ ys.length ∧ ys.length ≤ 1000000 ∧ ∀ (i : Nat) (y : V) (H' : Hp), ys[i]? = some y → Fl31 b H' a → Same (Bs31 a b H) (Bs31 a b H') → Q y H'
def spTurn31 (K : PySem.W.Frag) : Sp := fun vs H Q _ => ∃ (a b q : Addr) (ys : List V), vs = [.ref a, .ref q] ∧ Fl31 b H a ∧ Row31 K (Bs31 a b H) q ys ∧ ys.length ≤ 1000 ∧ ∀ (p : Addr) (zs : List V) (H' : Hp), H p = none → H' p = some (.lst zs) → zs.Perm ys → Fl31 b H' a → Same (Bs31 a b H) (Bs31 a b H') → Q (.ref p) H'
theorem call_lenE31 {X : Cx} (K : PySem.W.Frag) (h : X.K = K) : CallR X (.builtin "len") (rLenF K) := by
  subst h
  exact call_len_seq
theorem pe_bmK31 {X : Cx} {o e : Expr} {es : List Expr} {to : TE} {t : TA} {name : Str} {apos cpos : Pos} {T id : String} {r : V → List V → Hp → VK → Prop} (K : PySem.W.Frag) (hK : X.K = K) (pa : PlainAttrs T) (slot : Slot T name id) (hty : typeOf (.builtin id) = pure (.type "method_descriptor")) (hm : MtR X id r) (ho : PE X o to) (ha : PA X (e :: es) t)
    (hbase : attributeBase o name X.env (eval o X.env) = eval o X.env := by rfl)
    (hfew : ((backTo cpos (starEach (e :: es) X.env)).all (fun x => !x.1) && (backToKw cpos (keywordEach [] X.env)).all (fun x => x.1.isSome)
      && decide ((e :: es).length + ([] : List Keyword).length + (if ([] : List Keyword).isEmpty then 0 else 1) < 30)) = true := by rfl)
    (hline : (apos.endLine == cpos.line) = true := by rfl) (hs : starEach (e :: es) X.env = (false, eval e X.env) :: starEach es X.env := by rfl) (hplain : (backTo cpos (starEach es X.env)).any (·.1) = false := by rfl) :
    PE X (.Call (.Attribute o name apos) (e :: es) [] cpos) (tBM K T r to t) := by
  subst hK
  exact pe_bm pa slot hty hm ho ha hbase hfew hline hs hplain
theorem j31a (n : Nat) : -(2 ^ 62 : Int) ≤ (n : Int) := by
  have : -(2 ^ 62 : Int) ≤ 0 := by decide
  omega
theorem j31b {n : Nat} (h : n ≤ 1000) : (n : Int) < 2 ^ 62 := by
  have : (1000 : Int) < 2 ^ 62 := by decide
  omega
theorem k31a (n : Nat) : -(2 ^ 63 : Int) ≤ (n : Int) := by
  have : -(2 ^ 63 : Int) ≤ 0 := by decide
  omega
theorem k31b {n : Nat} (h : n ≤ 1000) : (n : Int) < 2 ^ 63 := by
  have : (1000 : Int) < 2 ^ 63 := by decide
  omega
theorem sq31 {r n : Nat} (h : r < n) : seqIndex? (r : Int) n = some r := by
  unfold seqIndex?
  have n0 : ¬ ((r : Int) < 0) := by omega
  simp only [if_neg n0]
  rw [if_pos (by rw [Bool.and_eq_true, decide_eq_true_iff, decide_eq_true_iff]; omega), Int.toNat_natCast]
theorem at31 {a b x : Addr} {H H' : Hp} {o : HO} (s : Same (Bs31 a b H) (Bs31 a b H')) (n : x ∉ [a, b]) (e : H x = some o) : H' x = some o := by
  have e2 : Bs31 a b H x = some o := by
    unfold Bs31
    rw [rm_at n]
    exact e
  have e3 := s x o e2
  unfold Bs31 at e3
  rw [rm_at n] at e3
  exact e3
theorem off31 {a b L : Addr} {H H' : Hp} {o : HO} (s : Same (Bs31 a b H) (Bs31 a b H')) (hL : H L = none) : Same (Bs31 a b H) (Bs31 a b (upd H' L o)) := fun x u ex => by
  obtain ⟨n, e⟩ := rm_of ex
  have nx : x ≠ L := fun z => by
    rw [z, hL] at e
    cases e
  unfold Bs31
  rw [rm_at n, upd_ne nx]
  exact at31 s n e
abbrev nOn31 : List Str := ["st", "row"]
abbrev nTu31 : List Str := ["st", "row", "left", "turn"]
theorem row_le31 {K : PySem.W.Frag} {S : List Addr} {H : Hp} {q : Addr} {ys : List V} (h : Row31 K (rmL S H) q ys) : Row31 K H q ys := h.elim (fun z => .inl (Same.seq rm_le z)) fun z => .inr (seqT_same rm_le z)
theorem row_same31 {K : PySem.W.Frag} {H H' : Hp} {q : Addr} {ys : List V} (s : Same H H') (h : Row31 K H q ys) : Row31 K H' q ys := h.elim (fun z => .inl (Same.seq s z)) fun z => .inr (seqT_same s z)
theorem erase_perm31 {α : Type} : ∀ {l : List α} {k : Nat} {e : α}, l[k]? = some e → (e :: l.eraseIdx k).Perm l
  | [], k, e, h => by cases h
  | a :: l, 0, e, h => by
    cases h
    exact List.Perm.refl _
  | a :: l, k + 1, e, h => (List.Perm.swap a e _).trans (List.Perm.cons a (erase_perm31 (l := l) (k := k) h))
theorem perm_pop31 {α : Type} {fs ls es : List α} {k : Nat} {e : α} (h : (fs ++ ls).Perm es) (hk : ls[k]? = some e) : (fs ++ [e] ++ ls.eraseIdx k).Perm es := by
  rw [List.append_assoc]
  exact (List.Perm.append_left fs (erase_perm31 hk)).trans h
section
variable {P : Program} {w : World} {K : PySem.W.Frag} {mg : Str → Option Value} {base : Heap}
theorem scOn31 : FnScope nOn31 ["st", "row"] (defScope sLOne) := ⟨rfl, rfl, rfl, by decide +kernel, rfl, by decide +kernel, by decide +kernel⟩
theorem scTu31 : FnScope nTu31 ["st", "row"] (defScope sLTurned) := ⟨rfl, rfl, rfl, by decide +kernel, rfl, by decide +kernel, by decide +kernel⟩
theorem ok_one31 {f : Addr} {fd : FuncData} (F : Fun K "_law_one" "_law_one" sLOne f fd) (T : Be31 mg) (KD : Kn P w K mg base 2 "_law_draw" ["st", "many"] spDraw31) : FnOk P w K mg base CX0 3 f fd ["st", "row"] (spOne31 K) := by
  obtain ⟨fD, fdD, GD, kD, bD, mD⟩ := KD.ex
  refine F.ok scOn31 (fun vs H Q E h => ?_) (fun cdv A outer s H vs Q E hr h => ?_)
  · obtain ⟨a, b, q, ys, rfl, _⟩ := h
    rfl
  refine ⟨_, pss_one (ps_ret (pe_ix (ix_both K rfl) (pv 1) (pe_call GD hr (by rfl) mD kD bD .nil pass0 (pa_cons (pv 0) (pa_cons (pe_callB call_len_seq (by rfl) T.len PySem.boot_len (pa_cons (pv 1) pa_nil)) pa_nil))) (fun _ _ => rfl))), ?_⟩
  obtain ⟨a, b, q, ys, rfl, Fl, hq, h1, h2, k⟩ := h
  try simp only [L2.start, gName, List.map_cons, List.map_nil, List.length_cons, List.length_nil, Nat.reduceAdd, Nat.reduceSub, List.replicate_succ, List.replicate_zero, List.cons_append, List.nil_append, List.set_cons_succ, List.set_cons_zero]
  refine ⟨_, rfl, _, rfl, _, rfl, q, ys, rfl, row_le31 hq, a, b, ys.length, rfl, Fl, h1, h2, fun r H1 hr1 F1 s1 => ?_⟩
  have ex : ys[r]? = some ys[r] := List.getElem?_eq_getElem hr1
  exact ix_row (row_le31 (row_same31 s1 hq)) (at_of rfl ex) (k r _ H1 ex F1 s1)
theorem ok_turned31 {f : Addr} {fd : FuncData} (F : Fun K "_law_turned" "_law_turned" sLTurned f fd) (T : Be31 mg) (KD : Kn P w K mg base 2 "_law_draw" ["st", "many"] spDraw31) : FnOk P w K mg base CX0 3 f fd ["st", "row"] (spTurn31 K) := by
  obtain ⟨fD, fdD, GD, kD, bD, mD⟩ := KD.ex
  refine F.ok scTu31 (fun vs H Q E h => ?_) (fun cdv A outer s H vs Q E hr h => ?_)
  · obtain ⟨a, b, q, ys, rfl, _⟩ := h
    rfl
  have vl_ : PySem.bootBuiltins "list" = some (.type "list") := by decide +kernel
  refine ⟨_, pss_cons (ps_set (i := 2) scTu31.nd rfl (.inr rfl) (pe_callTy (call_listK K rfl) rfl T.list vl_ (pa_cons (pv 1) pa_nil)))
    (pss_one (ps_ret (pe_lc (own := [("turn", 3)]) (g := gName 3) (tt := tYes) (by rfl) scTu31.nd (pi_range1 rfl T.range (pa_cons (pe_callB call_len_seq (by rfl) T.len PySem.boot_len (pa_cons (pv 1) pa_nil)) pa_nil)) (blkOk_by (N := nTu31) (sc := defScope sLTurned) (by decide +kernel)) (fun _ _ _ _ _ => (pg_name (i := 3) scTu31.nd rfl (.inl rfl))) (fun _ _ _ _ _ => pts_nil) (fun _ _ _ _ _ => (pe_bmK31 K rfl PySem.F.plainAttrs_list PySem.F.slot_list_pop PySem.F.type_list_pop mt_popAt (pv 2) (pa_cons (pe_call GD hr (by rfl) mD kD bD .nil pass0 (pa_cons (pv 0) (pa_cons (pe_callB (call_lenE31 K rfl) (by rfl) T.len PySem.boot_len (pa_cons (pv 2) pa_nil)) pa_nil))) pa_nil)))))), ?_⟩
  obtain ⟨a, b, q, ys, rfl, Fl, hq, h2, k⟩ := h
  try simp only [L2.start, gName, List.map_cons, List.map_nil, List.length_cons, List.length_nil, Nat.reduceAdd, Nat.reduceSub, List.replicate_succ, List.replicate_zero, List.cons_append, List.nil_append, List.set_cons_succ, List.set_cons_zero]
  refine ⟨_, rfl, q, ys, rfl, row_le31 hq, fun L hL => ?_⟩
  have nL : L ∉ [a, b] := flo31.out Fl hL
  have Fl1 : Fl31 b (L2.upd H L (.lst ys)) a := flo31.off nL Fl
  have s1 := new_same hL (.lst ys)
  have hL1 := upd_same (H := H) (a := L) (o := .lst ys)
  have sB : Same (Bs31 a b H) (Bs31 a b (L2.upd H L (.lst ys))) := rm_same s1
  have hq1 := row_same31 s1 (row_le31 hq)
  generalize L2.upd H L (.lst ys) = H1 at Fl1 s1 hL1 sB hq1
  try simp only [gName, List.set_cons_succ, List.set_cons_zero]
  refine ⟨_, rfl, q, ys, rfl, hq1, _, rfl, j31a _, j31b h2, fun D hD => ?_⟩
  rw [Int.toNat_natCast]
  have nD : D ∉ [a, b] := flo31.out Fl1 hD
  have nDL : D ≠ L := fun z => by
    rw [z, hL1] at hD
    cases hD
  have hD0 : H D = none := by
    cases c : H D with
    | none => rfl
    | some o =>
      rw [s1 _ _ c] at hD
      cases hD
  refine lc_range (lo := 0) (n := ys.length) (fun i H' => ∃ zs us : List V, H' D = some (.lst zs) ∧ H' L = some (.lst us) ∧ (zs ++ us).Perm ys ∧ zs.length = i ∧ Fl31 b H' a ∧ Same (Bs31 a b H) (Bs31 a b H')) ⟨[], ys, upd_same, by rw [upd_ne (fun z => nDL z.symm)]; exact hL1, List.Perm.refl _, rfl, flo31.off nD Fl1, sB.trans (rm_same (new_same hD _))⟩ (fun i H' hi hP => ?_) (fun H' hP => ?_)
  · obtain ⟨zs, us, g1, g2, pm, gl, F2, s2⟩ := hP
    have lp := pm.length_eq
    rw [List.length_append] at lp
    refine ⟨rfl, ?_⟩
    unfold tYes
    refine iteT ⟨_, rfl, .inl ⟨rfl, _, SqL.of g2⟩, _, rfl, _, rfl, L, us, rfl, .inl (SqL.of g2), a, b, us.length, rfl, F2, by omega, by omega, fun r H2 hr2 F3 s3 => ?_⟩
    have e2 := at31 s3 nL g2
    have e1 := at31 s3 nD g1
    have ey := List.getElem?_eq_getElem (show r < us.length by omega)
    generalize us[r] = y at ey
    refine ⟨L, us, _, r, y, rfl, rfl, e2, k31a _, k31b (by omega), sq31 hr2, ey, zs, by rw [upd_ne nDL]; exact e1, small1000 (by omega), zs ++ [y], us.eraseIdx r, upd_same, by rw [upd_ne (fun z => nDL z.symm), upd_same], perm_pop31 pm ey, by rw [List.length_append, gl] <;> rfl, flo31.off nD (flo31.off nL F3), ?_⟩
    exact off31 (off31 (s2.trans s3) hL) hD0
  · obtain ⟨zs, us, g1, g2, pm, gl, F2, s2⟩ := hP
    have lp := pm.length_eq
    rw [List.length_append] at lp
    have e0 : us = [] := List.eq_nil_of_length_eq_zero (by omega)
    rw [e0, List.append_nil] at pm
    exact k D zs H' hD0 g1 pm F2 s2
end
end Q
set_option Elab.async false
set_option linter.all false
set_option maxRecDepth 100000
set_option maxHeartbeats 4000000
/-! ### all([.. for x in a row]), isinstance within a comprehension, in_tuples: over any data -/
namespace Q
open PySem L2 XD
structure Bs24 (mg : Str → Option Value) : Prop where
  isi : mg "isinstance" = none
  list : mg "list" = none
  tup : mg "tuple" = none
  str : mg "str" = none
  len : mg "len" = none
  all : mg "all" = none
  set : mg "set" = none
/-- all([.. for x in a row]) -/
theorem all_row24 {K : PySem.W.Frag} {p : Addr} {ys : List V} {ds : List PyData} {t0 : TE} {g : TG} {te : TE} {ws : List Nat} {σ : L2.St} {H : Hp} {Q : VK} (fB : PyData → Bool) (ht : ∀ Q' : VK, Q' (.ref p) H → t0 σ H Q') (hq : SqL K H p ys ∨ SqT K H p ys) (ha : DpAll K H ys ds) (hl : ds.length ≤ 100000)
    (turn : ∀ (x : V) (d : PyData) (H1 : Hp) (R : VK), d ∈ ds → Dp K H1 x d → Same H H1 → (∀ H2, Same H1 H2 → R (.bl (fB d)) H2) → g x (wipe σ ws) H1 fun σ2 H2 => wipe σ2 ws = wipe σ ws ∧ te σ2 H2 R)
    (k : ∀ H', Same H H' → Q (.bl (ds.all fB)) H') : tCB (rAll K) (tCons (tLc (iRow K t0) g tYes te ws) tNil) σ H Q := by
  have hlen := dps_len ha
  unfold tCB tCons
  show tLc (iRow K t0) g tYes te ws σ H _
  refine lc_row (ys := ys) (fun D i H' => H' D = some (.lst (((ds.take i).map fB).map V.bl)) ∧ Same H H') ht hq (fun D hD => ⟨upd_same, new_same hD _⟩) (fun D i H' hD hP => hP.2) (fun D i x H1 hD hi hP hx => ?_) (fun D H' hD hP => ?_)
  · obtain ⟨d, hd, hdp⟩ := dps_get ha hx
    have big : 100001 < sizeLine := by decide
    simp only [tYes, if_true]
    refine turn x d H1 _ (List.mem_of_getElem? hd) (dp_same hP.2 hdp) hP.2 fun H2 s2 => ⟨_, s2 _ _ hP.1, ?_, ?_, fun b o q => ?_⟩
    · rw [List.length_map, List.length_map, List.length_take]
      omega
    · rw [upd_same, take_one hd, List.map_append, List.map_append]
      rfl
    · rw [upd_ne (ne_of_none q hD)]
      exact s2 _ _ (hP.2 _ _ q)
  · obtain ⟨hL, s1⟩ := hP
    rw [List.take_of_length_le (by omega)] at hL
    refine ⟨_, _, rfl, SqL.of hL, ?_⟩
    rw [List.all_map]
    exact k _ s1
theorem pe_isiK24 {X : Cx} {e1 : Expr} {t1 : TE} {T : Str} {tn : String} {p p2 pos : Pos} (K : PySem.W.Frag) (hK : X.K = K) (hi : X.mg "isinstance" = none) (hm : X.mg T = none) (hv : PySem.bootBuiltins T = some (.type tn)) (h1 : PE X e1 t1)
    (g1 : Gl X "isinstance" := by rfl) (g2 : Gl X T := by rfl) (hn : T ≠ "__name__" := by decide) (hd : (T == ("__debug__" : Str)) = false := by decide)
    (he : starEach (e1 :: [.Name T p2]) X.env = (false, eval e1 X.env) :: starEach [.Name T p2] X.env := by rfl) (hpl : (backTo pos (starEach [.Name T p2] X.env)).any (·.1) = false := by rfl)
    (he2 : starEach (Expr.Name T p2 :: []) X.env = (false, eval (.Name T p2) X.env) :: starEach [] X.env := by rfl) :
    PE X (.Call (.Name "isinstance" p) [e1, .Name T p2] [] pos) (tCB (rIsi K) (tCons t1 (tCons (tC (.ty tn)) tNil))) := by
  subst hK
  exact pe_isi hi hm hv h1 g1 g2 hn hd he hpl he2
mutual
def tupled24 : PyData → PyData
  | .list ds => .tuple (tupleds24 ds)
  | .tuple ds => .tuple (tupleds24 ds)
  | .none => .none
  | .bool b => .bool b
  | .int i => .int i
  | .str x => .str x
  | .dict x => .dict x
def tupleds24 : List PyData → List PyData
  | [] => []
  | d :: ds => tupled24 d :: tupleds24 ds
end
theorem tupleds_map24 : ∀ ds, tupleds24 ds = ds.map tupled24
  | [] => by rw [tupleds24, List.map_nil]
  | d :: ds => by rw [tupleds24, List.map_cons, tupleds_map24 ds]
mutual
def noL24 : PyData → Bool
  | .list _ => false
  | .tuple ds => noLs24 ds
  | .none => true
  | .bool _ => true
  | .int _ => true
  | .str _ => true
  | .dict _ => true
def noLs24 : List PyData → Bool
  | [] => true
  | d :: ds => noL24 d && noLs24 ds
end
mutual
theorem no_tupled24 : ∀ d : PyData, noL24 (tupled24 d) = true
  | .list ds => by rw [tupled24, noL24, no_tupleds24 ds]
  | .tuple ds => by rw [tupled24, noL24, no_tupleds24 ds]
  | .none => by rw [tupled24, noL24]
  | .bool _ => by rw [tupled24, noL24]
  | .int _ => by rw [tupled24, noL24]
  | .str _ => by rw [tupled24, noL24]
  | .dict _ => by rw [tupled24, noL24]
theorem no_tupleds24 : ∀ ds : List PyData, noLs24 (tupleds24 ds) = true
  | [] => by rw [tupleds24, noLs24]
  | d :: ds => by rw [tupleds24, noLs24, no_tupled24 d, no_tupleds24 ds] <;> rfl
end
theorem seqT_rm24 {K : PySem.W.Frag} {H : Hp} {D q : Addr} {acc xs : List V} (hD : H D = some (.lst acc)) (h : SqT K H q xs) : SqT K (rmL [D] H) q xs := by
  rcases h with (h | ⟨o, h⟩) | h
  · refine .inl (.inl ((rm_at fun z => ?_).trans h))
    rw [List.mem_singleton.mp z, hD] at h
    cases h
  · refine .inl (.inr ⟨o, (rm_at fun z => ?_).trans h⟩)
    rw [List.mem_singleton.mp z, hD] at h
    cases h
  · exact .inr h
mutual
theorem dp_nl24 {K : PySem.W.Frag} {H : Hp} {D : Addr} {acc : List V} (hD : H D = some (.lst acc)) : ∀ {v : V} {d : PyData}, Dp K H v d → noL24 d = true → Dp K (rmL [D] H) v d
  | _, _, .non, _ => .non
  | _, _, .bl b, _ => .bl b
  | _, _, .int i, _ => .int i
  | _, _, .str x, _ => .str x
  | _, _, .lst h a, n => by
    rw [noL24] at n
    cases n
  | _, _, .tup h a, n => .tup (seqT_rm24 hD h) (dps_nl24 hD a (by rw [noL24] at n; exact n))
theorem dps_nl24 {K : PySem.W.Frag} {H : Hp} {D : Addr} {acc : List V} (hD : H D = some (.lst acc)) : ∀ {vs : List V} {ds : List PyData}, DpAll K H vs ds → noLs24 ds = true → DpAll K (rmL [D] H) vs ds
  | _, _, .nil, _ => .nil
  | _, _, .cons h t, n => by
    rw [noLs24, Bool.and_eq_true] at n
    exact .cons (dp_nl24 hD h n.1) (dps_nl24 hD t n.2)
end
def deep24 : Nat → PyData → Bool
  | 0, d => (rowOf d).isNone
  | n + 1, d => match rowOf d with
    | some ds => decide (ds.length ≤ 100000) && ds.all (deep24 n)
    | none => true
theorem tupled_row24 {d : PyData} {ds : List PyData} (h : rowOf d = some ds) : tupled24 d = .tuple (ds.map tupled24) := by
  cases d with
  | list es =>
    cases h
    rw [tupled24, tupleds_map24]
  | tuple es =>
    cases h
    rw [tupled24, tupleds_map24]
  | _ => cases h
theorem tupled_no24 {d : PyData} (h : rowOf d = none) : tupled24 d = d := by
  cases d with
  | list es => cases h
  | tuple es => cases h
  | _ => rw [tupled24]
def spInT24 (K : PySem.W.Frag) (n : Nat) : Sp := fun vs H Q _ => ∃ (v : V) (d : PyData), vs = [v] ∧ Dp K H v d ∧ deep24 n d = true ∧ ∀ r H', Same H H' → Dp K H' r (tupled24 d) → Q r H'
def spNo24 : Sp := fun _ _ _ _ => False
abbrev nInT : List Str := ["thing", "part"]
section
variable {P : Program} {w : World} {K : PySem.W.Frag} {mg : Str → Option Value} {base : Heap}
theorem scInT : FnScope nInT ["thing"] (defScope sInTuples) := ⟨rfl, rfl, rfl, by decide +kernel, rfl, by decide +kernel, by decide +kernel⟩
theorem never24 {f : Addr} {fd : FuncData} {ps : List Str} : FnOk P w K mg base CX0 0 f fd ps spNo24 := ⟨fun _ _ _ _ h => h.elim, fun _ _ _ _ _ _ _ _ _ _ _ _ _ h => h.elim⟩
theorem inT_step24 {n m : Nat} {sp' : Sp} {f : Addr} {fd : FuncData} (F : Fun K "in_tuples" "in_tuples" sInTuples f fd) (T : Bs24 mg) (KR : Kn P w K mg base 1 "is_row" ["thing"] (spIsRow K)) (bS : Binds K fd ["thing"] []) (mS : mg "in_tuples" = some (.ref f))
    (GS : FnOk P w K mg base CX0 m f fd ["thing"] sp') (hm : m ≤ n + 1) (sub : ∀ d ds, deep24 n d = true → rowOf d = some ds → ds.length ≤ 100000 ∧ ∀ e ∈ ds, ∀ v H Q E, Dp K H v e → (∀ r H', Same H H' → Dp K H' r (tupled24 e) → Q r H') → sp' [v] H Q E) : FnOk P w K mg base CX0 (n + 2) f fd ["thing"] (spInT24 K n) := by
  have kS := F.kp
  obtain ⟨fR, fdR, GR, kR, bR, mR⟩ := KR.ex
  refine F.ok scInT (fun vs H Q E h => ?_) (fun cdv A outer s H vs Q E hr h => ?_)
  · obtain ⟨v, d, rfl, _⟩ := h
    rfl
  have hr1 := hr.mono (show 1 ≤ n + 1 by omega)
  have hrm := hr.mono hm
  have vt_ : PySem.bootBuiltins "tuple" = some (.type "tuple") := by decide +kernel
  refine ⟨_, pss_one (ps_ret (pe_ifExp (pt_val (pe_call GR hr1 (by rfl) mR kR bR .nil pass0 (pa_cons (pv 0) pa_nil))) (pe_callTy (call_tupK K rfl) (by rfl) T.tup vt_ (pa_cons (pe_lc (own := [("part", 1)]) (g := gName 1) (tt := tYes) (by rfl) scInT.nd (pi_row (pv 0)) (blkOk_by (N := nInT) (sc := defScope sInTuples) (by decide +kernel)) (fun _ _ _ _ _ => (pg_name (i := 1) scInT.nd rfl (.inl rfl))) (fun _ _ _ _ _ => pts_nil) (fun _ _ _ _ _ => (pe_call GS hrm (by rfl) mS kS bS .nil pass0 (pa_cons (pv 1) pa_nil)))) pa_nil)) (pv 0))), ?_⟩
  obtain ⟨v, d, rfl, hd, dp, k⟩ := h
  try simp only [L2.start, gName, List.map_cons, List.map_nil, List.length_cons, List.length_nil, Nat.reduceAdd, Nat.reduceSub, List.replicate_succ, List.replicate_zero, List.cons_append, List.nil_append, List.set_cons_succ, List.set_cons_zero]
  refine ⟨_, rfl, v, d, rfl, hd, fun H1 s1 => ⟨_, rfl, ?_⟩⟩
  cases er : rowOf d with
  | none =>
    have e1 : isRow d = false := by unfold isRow; rw [er] <;> rfl
    rw [e1]
    refine iteF ⟨_, rfl, k v H1 s1 ?_⟩
    rw [tupled_no24 er]
    exact dp_same s1 hd
  | some ds =>
    have e1 : isRow d = true := by unfold isRow; rw [er] <;> rfl
    rw [e1]
    refine iteT ?_
    obtain ⟨hl, sub⟩ := sub d ds dp er
    rw [tupled_row24 er] at k
    obtain ⟨q, ys, rfl, hq, hys⟩ := row_len (dp_same s1 hd) er
    have ly := dps_len hys
    have big : 100001 < sizeLine := by decide
    unfold tCB tCons
    show tLc (iRow K (tVar 0)) (gName 1) tYes (tCall sp' [] E0 (tCons (tVar 1) tNil)) [1] _ H1 _
    refine lc_row (ys := ys) (fun D i H' => ∃ acc, H' D = some (.lst acc) ∧ DpAll K (rmL [D] H') acc ((ds.take i).map tupled24) ∧ Same H1 H') (fun Q' z => ⟨_, rfl, z⟩) (hq.imp id id) (fun D hD => ⟨[], upd_same, .nil, new_same hD _⟩) (fun D i H' hD ⟨_, _, _, s⟩ => s) (fun D i x H2 hD hi hP hx => ?_) (fun D H2 hD hP => ?_)
    · obtain ⟨acc, g1, g2, g3⟩ := hP
      obtain ⟨e, he, hdp⟩ := dps_get hys hx
      have la := dps_len g2
      rw [List.length_map, List.length_take] at la
      refine ⟨rfl, ?_⟩
      unfold tYes
      refine iteT ⟨_, rfl, sub e (List.mem_of_getElem? he) x H2 _ _ (dp_same g3 hdp) fun r H3 s3 hr3 => ⟨acc, s3 _ _ g1, by omega, acc ++ [r], upd_same, ?_, fun b o z => ?_⟩⟩
      · rw [rm_put (List.mem_singleton.mpr rfl), take_one he, List.map_append]
        exact dps_app (dps_same (rm_same s3) g2) (.cons (dp_nl24 (s3 _ _ g1) hr3 (no_tupled24 _)) .nil)
      · rw [upd_ne (ne_of_none z hD)]
        exact s3 _ _ (g3 _ _ z)
    · obtain ⟨acc, g1, g2, g3⟩ := hP
      rw [List.take_of_length_le (by omega)] at g2
      refine ⟨D, acc, rfl, .inl ⟨SqL.of g1, fun z o hz _ => ?_⟩⟩
      have s4 := new_same hz (.frz o (.tup acc))
      exact k _ _ (s1.trans (g3.trans s4)) (.tup (.inl (.inr ⟨o, upd_same⟩)) (dps_same (rm_le.trans s4) g2))
/-- of n rows within each other -/
theorem ok_inT24 {f : Addr} {fd : FuncData} (F : Fun K "in_tuples" "in_tuples" sInTuples f fd) (T : Bs24 mg) (KR : Kn P w K mg base 1 "is_row" ["thing"] (spIsRow K)) (bS : Binds K fd ["thing"] []) (mS : mg "in_tuples" = some (.ref f)) : ∀ n, FnOk P w K mg base CX0 (n + 2) f fd ["thing"] (spInT24 K n)
  | 0 => inT_step24 F T KR bS mS (sp' := spNo24) never24 (Nat.zero_le _) (fun d ds h e => by
      unfold deep24 at h
      rw [e] at h
      cases h)
  | n + 1 => inT_step24 F T KR bS mS (ok_inT24 F T KR bS mS n) (Nat.le_refl _) (fun d ds h e => by
      unfold deep24 at h
      rw [e] at h
      have h : (decide (ds.length ≤ 100000) && ds.all (deep24 n)) = true := h
      rw [Bool.and_eq_true] at h
      exact ⟨of_decide_eq_true h.1, fun e he v H Q E hv k => ⟨v, e, rfl, hv, List.all_eq_true.mp h.2 e he, k⟩⟩)
end
end Q
set_option Elab.async false
set_option linter.all false
set_option maxRecDepth 100000
set_option maxHeartbeats 4000000
/-! ### data whose tuples are all kept: dict(..) takes any part of it -/
namespace Q
open PySem L2 XD
mutual
inductive Dz (K : PySem.W.Frag) (H : Hp) : V → PyData → Prop
  | non : Dz K H .non .none
  | bl (b : Bool) : Dz K H (.bl b) (.bool b)
  | int (i : Int) : Dz K H (.int i) (.int i)
  | str (x : Str) : Dz K H (.str x) (.str x)
  | lst {q : Addr} {vs : List V} {ds : List PyData} : SqL K H q vs → DzAll K H vs ds → Dz K H (.ref q) (.list ds)
  | tup {q : Addr} {vs : List V} {ds : List PyData} : SqZ H q vs → DzAll K H vs ds → Dz K H (.ref q) (.tuple ds)
inductive DzAll (K : PySem.W.Frag) (H : Hp) : List V → List PyData → Prop
  | nil : DzAll K H [] []
  | cons {v : V} {d : PyData} {vs : List V} {ds : List PyData} : Dz K H v d → DzAll K H vs ds → DzAll K H (v :: vs) (d :: ds)
end
section
variable {K : PySem.W.Frag} {H H' : Hp}
mutual
theorem Dz.dp : ∀ {v : V} {d : PyData}, Dz K H v d → Dp K H v d
  | _, _, .non => .non
  | _, _, .bl b => .bl b
  | _, _, .int i => .int i
  | _, _, .str x => .str x
  | _, _, .lst h a => .lst h (DzAll.dp a)
  | _, _, .tup h a => .tup h.sqT (DzAll.dp a)
theorem DzAll.dp : ∀ {vs : List V} {ds : List PyData}, DzAll K H vs ds → DpAll K H vs ds
  | _, _, .nil => .nil
  | _, _, .cons h t => .cons (Dz.dp h) (DzAll.dp t)
end
mutual
theorem Dz.same (s : Same H H') : ∀ {v : V} {d : PyData}, Dz K H v d → Dz K H' v d
  | _, _, .non => .non
  | _, _, .bl b => .bl b
  | _, _, .int i => .int i
  | _, _, .str x => .str x
  | _, _, .lst h a => .lst (s.seq h) (DzAll.same s a)
  | _, _, .tup h a => .tup (h.same s) (DzAll.same s a)
theorem DzAll.same (s : Same H H') : ∀ {vs : List V} {ds : List PyData}, DzAll K H vs ds → DzAll K H' vs ds
  | _, _, .nil => .nil
  | _, _, .cons h t => .cons (Dz.same s h) (DzAll.same s t)
end
theorem DzAll.app : ∀ {vs us : List V} {ds es : List PyData}, DzAll K H vs ds → DzAll K H us es → DzAll K H (vs ++ us) (ds ++ es)
  | _, _, _, _, .nil, h => h
  | _, _, _, _, .cons a r, h => .cons a (DzAll.app r h)
theorem DzAll.len : ∀ {vs : List V} {ds : List PyData}, DzAll K H vs ds → vs.length = ds.length
  | _, _, .nil => rfl
  | _, _, .cons h t => by rw [List.length_cons, List.length_cons, t.len]
theorem DzAll.get : ∀ {vs : List V} {ds : List PyData} {i : Nat} {y : V}, DzAll K H vs ds → vs[i]? = some y → ∃ d, ds[i]? = some d ∧ Dz K H y d
  | _, _, 0, _, .cons h _, e => by
    cases e
    exact ⟨_, rfl, h⟩
  | _, _, i + 1, _, .cons _ t, e => t.get (i := i) e
/-- a row of it -/
theorem Dz.row {v : V} {d : PyData} {gs : List PyData} (h : Dz K H v d) (e : rowOf d = some gs) : ∃ (q : Addr) (zs : List V), v = .ref q ∧ (SqL K H q zs ∨ SqZ H q zs) ∧ DzAll K H zs gs := by
  cases h with
  | lst h a =>
    cases e
    exact ⟨_, _, rfl, .inl h, a⟩
  | tup h a =>
    cases e
    exact ⟨_, _, rfl, .inr h, a⟩
  | _ => cases e
theorem Dz.fz {v : V} {d : PyData} {gs : List PyData} (h : Dz K H v d) (e : rowOf d = some gs) : FaZ K H v d := by
  obtain ⟨q, zs, a, b, c⟩ := h.row e
  exact ⟨q, zs, gs, a, b, e, c.dp⟩
theorem Dz.rz {v : V} {d : PyData} {rds : List PyData} (h : Dz K H v d) (e : rowOf d = some rds) (all : ∀ rd ∈ rds, ∃ gs, rowOf rd = some gs) : RZ K H v d := by
  obtain ⟨q, ws, rfl, b, c⟩ := h.row e
  refine ⟨q, ws, rds, rfl, e, b.imp id SqZ.sqT, c.len, fun i y rd h1 h2 => ?_⟩
  obtain ⟨d2, e2, hd⟩ := c.get h1
  rw [h2] at e2
  cases e2
  obtain ⟨gs, eg⟩ := all rd (List.mem_of_getElem? h2)
  obtain ⟨q2, zs, f1, f2, f3⟩ := hd.row eg
  exact ⟨q2, zs, gs, f1, f2, eg, f3.dp⟩
end
end Q
set_option Elab.async false
set_option linter.all false
set_option maxRecDepth 100000
set_option maxHeartbeats 4000000
/-! ### k31: _law_listed -/
namespace Q
open PySem L2 XD
def isTup31 : PyData → Bool
  | .tuple _ => true
  | _ => false
theorem kit_tup31 {K : PySem.W.Frag} {d : PyData} (h : ∀ kvs, d ≠ .dict kvs) : PySem.W.kitOne K (.type (tyName d)) (.type "tuple") = some (isTup31 d) := by
  cases d with
  | dict kvs => exact absurd rfl (h kvs)
  | none => exact kit_ty (a := "NoneType") (b := "tuple") (by show kitB "NoneType" "tuple" = some false; decide +kernel)
  | bool b => exact kit_ty (a := "bool") (b := "tuple") (by show kitB "bool" "tuple" = some false; decide +kernel)
  | int i => exact kit_ty (a := "int") (b := "tuple") (by show kitB "int" "tuple" = some false; decide +kernel)
  | str s => exact kit_ty (a := "str") (b := "tuple") (by show kitB "str" "tuple" = some false; decide +kernel)
  | list xs => exact kit_ty (a := "list") (b := "tuple") (by show kitB "list" "tuple" = some false; decide +kernel)
  | tuple xs => exact kit_ty (a := "tuple") (b := "tuple") (by show kitB "tuple" "tuple" = some true; decide +kernel)
mutual
theorem tupled_noL31 : ∀ d : PyData, noL24 d = true → tupled24 d = d
  | .list ds, h => by
    rw [noL24] at h
    cases h
  | .tuple ds, h => by
    rw [noL24] at h
    rw [tupled24, tupleds_noL31 ds h]
  | .none, _ => by rw [tupled24]
  | .bool _, _ => by rw [tupled24]
  | .int _, _ => by rw [tupled24]
  | .str _, _ => by rw [tupled24]
  | .dict _, _ => by rw [tupled24]
theorem tupleds_noL31 : ∀ ds : List PyData, noLs24 ds = true → tupleds24 ds = ds
  | [], _ => by rw [tupleds24]
  | d :: ds, h => by
    rw [noLs24, Bool.and_eq_true] at h
    rw [tupleds24, tupled_noL31 d h.1, tupleds_noL31 ds h.2]
end
theorem noLs_all31 : ∀ {ds : List PyData}, noLs24 ds = true → ∀ d ∈ ds, noL24 d = true
  | [], _, _, h => absurd h List.not_mem_nil
  | e :: ds, h, d, hd => by
    rw [noLs24, Bool.and_eq_true] at h
    rcases List.mem_cons.mp hd with rfl | hd
    · exact h.1
    · exact noLs_all31 h.2 d hd
theorem alive_mv31 {S : List Addr} {a b : Addr} {H H' : Hp} (A : Alive S H) (F : Fl31 b H' a) (s : Same (Bs31 a b H) (Bs31 a b H')) : Alive S H' := fun x hx => by
  by_cases h : x ∈ [a, b]
  · exact flo31.alive F x h
  · cases e : H x with
    | none => exact absurd e (A x hx)
    | some o =>
      rw [at31 s h e]
      exact fun z => by cases z
theorem rm_mv31 {S : List Addr} {a b : Addr} {H H' : Hp} (ha : a ∈ S) (hb : b ∈ S) (s : Same (Bs31 a b H) (Bs31 a b H')) : Same (rmL S H) (rmL S H') := rm_more (fun x hx => by
  rcases List.mem_cons.mp hx with e | e
  · exact e ▸ ha
  · exact (List.mem_singleton.mp e) ▸ hb) s
theorem alive_put31 {S : List Addr} {H : Hp} {D : Addr} {o : HO} (A : Alive S H) (h : H D = some o) : Alive (D :: S) H := fun x hx => by
  rcases List.mem_cons.mp hx with rfl | hx
  · rw [h]
    exact fun z => by cases z
  · exact A x hx
theorem new_rm31 {S : List Addr} {a b D : Addr} {H H' : Hp} (ha : a ∈ S) (hb : b ∈ S) (hD : H D = none) (s : Same (Bs31 a b H) (Bs31 a b H')) : Same (rmL S H) (rmL (D :: S) H') := fun x o ex => by
  obtain ⟨n, e⟩ := rm_of ex
  have nx : x ≠ D := fun z => by
    rw [z, hD] at e
    cases e
  rw [rm_at (fun z => (List.mem_cons.mp z).elim nx n)]
  exact at31 s (fun z => n ((List.mem_cons.mp z).elim (fun e => e ▸ ha) fun e => (List.mem_singleton.mp e) ▸ hb)) e
def spLis31 (K : PySem.W.Frag) (n : Nat) : Sp := fun vs H Q _ => ∃ (a b : Addr) (S : List Addr) (v : V) (d : PyData), vs = [.ref a, v] ∧ Fl31 b H a ∧ a ∈ S ∧ b ∈ S ∧ Alive S H ∧ Dp K (rmL S H) v d ∧ noL24 d = true ∧ deep24 n d = true ∧
  ∀ (r : V) (e : PyData) (H' : Hp), Dz K (rmL S H') r e → tupled24 e = d → Fl31 b H' a → Same (Bs31 a b H) (Bs31 a b H') → Q r H'
theorem lc_rowT31 {K : PySem.W.Frag} {p : Addr} {ys : List V} {t0 : TE} {g : TG} {tt : TT} {te : TE} {vs : List Nat} {σ : L2.St} {H : Hp} {Q : VK} (Pv : Addr → Nat → Hp → Prop) (ht : ∀ Q' : VK, Q' (.ref p) H → t0 σ H Q') (hq : SqT K H p ys)
    (h0 : ∀ D, H D = none → Pv D 0 (L2.upd H D (.lst []))) (hG : ∀ D i H', H D = none → Pv D i H' → SqT K H' p ys)
    (hs : ∀ D i x H', H D = none → i < ys.length → Pv D i H' → ys[i]? = some x → g x (wipe σ vs) H' fun σ2 H2 => wipe σ2 vs = wipe σ vs ∧ tt σ2 H2 fun b H3 =>
      if b = true then te σ2 H3 fun y H4 => ∃ acc, H4 D = some (.lst acc) ∧ acc.length < sizeLine ∧ Pv D (i + 1) (L2.upd H4 D (.lst (acc ++ [y]))) else Pv D (i + 1) H3)
    (hd : ∀ D H', H D = none → Pv D ys.length H' → Q (.ref D) H') : tLc (iRow K t0) g tt te vs σ H Q := by
  refine .inr (ht _ ⟨p, rfl, ⟨ys, hq⟩, fun D hD => lc_it walk_tup (Pv D) (h0 D hD) (fun i H' _ hP => hG D i H' hD hP) (fun i x H1 H2 hi hP hY => ?_) (fun H' hP => hd D H' hD hP)⟩)
  obtain ⟨rfl, hx⟩ := hY
  exact hs D i x H2 hD hi hP hx
abbrev nLi31 : List Str := ["st", "value", "part", "parts"]
section
variable {P : Program} {w : World} {K : PySem.W.Frag} {mg : Str → Option Value} {base : Heap}
theorem scLi31 : FnScope nLi31 ["st", "value"] (defScope sLListed) := ⟨rfl, rfl, rfl, by decide +kernel, rfl, by decide +kernel, by decide +kernel⟩
theorem never31 {f : Addr} {fd : FuncData} {ps : List Str} : FnOk P w K mg base CX0 0 f fd ps spNo24 := ⟨fun _ _ _ _ h => h.elim, fun _ _ _ _ _ _ _ _ _ _ _ _ _ h => h.elim⟩
theorem lis_step31 {n m : Nat} {sp' : Sp} {f : Addr} {fd : FuncData} (F : Fun K "_law_listed" "_law_listed" sLListed f fd) (T : Be31 mg) (KD : Kn P w K mg base 2 "_law_draw" ["st", "many"] spDraw31) (bS : Binds K fd ["st", "value"] []) (kS : PySem.W.keepIn K (.ref f) = true) (mS : mg "_law_listed" = some (.ref f))
    (GS : FnOk P w K mg base CX0 m f fd ["st", "value"] sp') (hm : m ≤ n + 2)
    (sub : ∀ d ds, deep24 n d = true → rowOf d = some ds → ds.length ≤ 100000 ∧ ∀ e ∈ ds, ∀ a b S v H Q E, Fl31 b H a → a ∈ S → b ∈ S → Alive S H → Dp K (rmL S H) v e → noL24 e = true → (∀ r e' H', Dz K (rmL S H') r e' → tupled24 e' = e → Fl31 b H' a → Same (Bs31 a b H) (Bs31 a b H') → Q r H') → sp' [.ref a, v] H Q E) : FnOk P w K mg base CX0 (n + 3) f fd ["st", "value"] (spLis31 K n) := by
  obtain ⟨fD, fdD, GD, kD, bD, mD⟩ := KD.ex
  refine F.ok scLi31 (fun vs H Q E h => ?_) (fun cdv A outer s H vs Q E hr h => ?_)
  · obtain ⟨a, b, S, v, d, rfl, _⟩ := h
    rfl
  have hr2 := hr.mono (show 2 ≤ n + 2 by omega)
  have hrm := hr.mono hm
  have vt_ : PySem.bootBuiltins "tuple" = some (.type "tuple") := by decide +kernel
  refine ⟨_, pss_cons (ps_if (pt_not (pt_val (pe_isi T.isi T.tup (show PySem.bootBuiltins "tuple" = some (.type "tuple") by decide +kernel) (pv 1)))) (pss_one (ps_ret (pv 1))) pss_nil)
    (pss_cons (ps_setLc (i := 3) (own := [("part", 2)]) (g := gName 2) (tt := tYes) (by rfl) scLi31.nd rfl rfl (sw_true rfl rfl rfl (by decide +kernel)) (pi_row (pv 1)) (blkOk_by (N := nLi31) (sc := defScope sLListed) (by decide +kernel)) (fun _ _ _ _ _ => (pg_name (i := 2) scLi31.nd rfl (.inl rfl))) (fun _ _ _ _ _ => pts_nil) (fun _ _ _ _ _ => (pe_call GS hrm (by rfl) mS kS bS .nil pass0 (pa_cons (pv 0) (pa_cons (pv 2) pa_nil)))))
    (pss_cons (ps_if (pt_cmpR op_eq (pe_call GD hr2 (by rfl) mD kD bD .nil pass0 (pa_cons (pv 0) (pa_cons pe_int pa_nil))) pe_int (nomark _)) (pss_one (ps_ret (pv 3))) pss_nil)
    (pss_one (ps_ret (pe_callTy (call_tupK K rfl) (by rfl) T.tup (by decide +kernel) (pa_cons (pv 3) pa_nil)))))), ?_⟩
  obtain ⟨a, b, S, v, d, rfl, Fl, ha, hb, AS, hd, nl, dp, k⟩ := h
  try simp only [L2.start, gName, List.map_cons, List.map_nil, List.length_cons, List.length_nil, Nat.reduceAdd, Nat.reduceSub, List.replicate_succ, List.replicate_zero, List.cons_append, List.nil_append, List.set_cons_succ, List.set_cons_zero]
  have hd0 := dp_same (rm_le (S := S)) hd
  refine ⟨_, rfl, _, _, _, _, _, rfl, .ty _, tyD hd0, kit_tup31 (dp_no_dict hd0), ?_⟩
  cases hd with
  | tup hq hys =>
    rename_i q ys ds
    obtain ⟨l5, sub⟩ := sub _ ds dp rfl
    have ly := dps_len hys
    have nls := noLs_all31 (by rw [noL24] at nl; exact nl)
    have big : 100001 < sizeLine := by decide
    refine ⟨_, rfl, iteF (nxt ?_)⟩
    refine asg_lcX (lc_rowT31 (ys := ys) (fun D i H' => ∃ zs es, H' D = some (.lst zs) ∧ DzAll K (rmL (D :: S) H') zs es ∧ es.map tupled24 = ds.take i ∧ Fl31 b H' a ∧ Same (Bs31 a b H) (Bs31 a b H')) (fun Q' z => ⟨_, rfl, z⟩) (seqT_same rm_le hq) (fun D hD => ⟨[], [], upd_same, .nil, rfl, flo31.off (flo31.out Fl hD) Fl, rm_same (new_same hD _)⟩) (fun D i H' hD hP => ?_) (fun D i x H1 hD hi hP hx => ?_) (fun D H1 hD hP => ?_))
    · obtain ⟨_, _, _, _, _, _, s⟩ := hP
      exact seqT_same ((rm_mv31 ha hb s).trans rm_le) hq
    · obtain ⟨zs, es, g1, g2, g3, F1, s1⟩ := hP
      have nD : D ∉ [a, b] := flo31.out Fl hD
      obtain ⟨d', he, hx'⟩ := dps_get hys hx
      have lz := g2.len
      have l3 := congrArg List.length g3
      rw [List.length_map, List.length_take] at l3
      refine ⟨rfl, ?_⟩
      unfold tYes
      refine iteT ⟨_, rfl, _, rfl, sub d' (List.mem_of_getElem? he) a b (D :: S) x H1 _ _ F1 (List.mem_cons_of_mem _ ha) (List.mem_cons_of_mem _ hb) (alive_put31 (alive_mv31 AS F1 s1) g1) (dp_same (new_rm31 ha hb hD s1) hx') (nls d' (List.mem_of_getElem? he)) fun r e' H2 hr2_ te F2 s2 => ?_⟩
      refine ⟨zs, at31 s2 nD g1, by omega, zs ++ [r], es ++ [e'], upd_same, ?_, by rw [List.map_append, g3, take_one he, List.map_cons, te] <;> rfl, flo31.off nD F2, off31 (s1.trans s2) hD⟩
      rw [rm_put List.mem_cons_self]
      exact (g2.same (rm_mv31 (List.mem_cons_of_mem _ ha) (List.mem_cons_of_mem _ hb) s2)).app (.cons hr2_ .nil)
    · obtain ⟨zs, es, g1, g2, g3, F1, s1⟩ := hP
      have nD : D ∉ [a, b] := flo31.out Fl hD
      have nDS : D ∉ S := fun z => AS D z hD
      rw [List.take_of_length_le (by omega)] at g3
      have td : ∀ w : List PyData, w.map tupled24 = ds → tupled24 (.list w) = .tuple ds ∧ tupled24 (.tuple w) = .tuple ds := fun w hw => ⟨by rw [tupled24, tupleds_map24, hw], by rw [tupled24, tupleds_map24, hw]⟩
      try simp only [gName, List.set_cons_succ, List.set_cons_zero]
      refine ⟨_, rfl, a, b, 2, rfl, F1, by decide, by decide, fun r H2 hr2_ F2 s2 => ?_⟩
      have e2 := at31 s2 nD g1
      have g4 := g2.same (rm_mv31 (List.mem_cons_of_mem D ha) (List.mem_cons_of_mem D hb) s2)
      have g5 : DzAll K (rmL S H2) zs es := g4.same (rm_sub fun x hx => List.mem_cons_of_mem _ hx)
      have eD : rmL S H2 D = some (.lst zs) := by
        rw [rm_at nDS]
        exact e2
      refine ⟨rfl, _, rfl, iteB (fun e => ?_) (fun e => nxt ?_)⟩
      · exact ⟨_, rfl, k _ (.list es) H2 (.lst (SqL.of eD) g5) (td es g3).1 F2 (s1.trans s2)⟩
      · refine ⟨_, rfl, D, zs, rfl, .inl ⟨SqL.of e2, fun z o hz ho => ?_⟩⟩
        have nz : z ∉ S := fun hz' => alive_mv31 AS F2 (s1.trans s2) z hz' hz
        have s3 := new_same hz (.frz o (.tup zs))
        have e3 : rmL S (L2.upd H2 z (.frz o (.tup zs))) z = some (.frz o (.tup zs)) := by
          rw [rm_at nz]
          exact upd_same
        have g6 := g5.same (rm_same s3)
        refine k _ (.tuple es) _ (.tup ⟨o, e3, ho⟩ g6) (td es g3).2 (flo31.off (flo31.out F2 hz) F2) ((s1.trans s2).trans (rm_same s3))
  | lst q r =>
    rw [noL24] at nl
    cases nl
  | non => exact ⟨_, rfl, iteT ⟨_, rfl, k _ _ H .non (tupled_noL31 _ nl) Fl (Same.refl _)⟩⟩
  | bl b => exact ⟨_, rfl, iteT ⟨_, rfl, k _ _ H (.bl b) (tupled_noL31 _ nl) Fl (Same.refl _)⟩⟩
  | int i => exact ⟨_, rfl, iteT ⟨_, rfl, k _ _ H (.int i) (tupled_noL31 _ nl) Fl (Same.refl _)⟩⟩
  | str x => exact ⟨_, rfl, iteT ⟨_, rfl, k _ _ H (.str x) (tupled_noL31 _ nl) Fl (Same.refl _)⟩⟩
theorem ok_listed31 {f : Addr} {fd : FuncData} (F : Fun K "_law_listed" "_law_listed" sLListed f fd) (T : Be31 mg) (KD : Kn P w K mg base 2 "_law_draw" ["st", "many"] spDraw31) (bS : Binds K fd ["st", "value"] []) (kS : PySem.W.keepIn K (.ref f) = true) (mS : mg "_law_listed" = some (.ref f)) : ∀ n, FnOk P w K mg base CX0 (n + 3) f fd ["st", "value"] (spLis31 K n)
  | 0 => lis_step31 F T KD bS kS mS (sp' := spNo24) never31 (Nat.zero_le _) (fun d ds h e => by
      unfold deep24 at h
      rw [e] at h
      cases h)
  | n + 1 => lis_step31 F T KD bS kS mS (ok_listed31 F T KD bS kS mS n) (Nat.le_refl _) (fun d ds h e => by
      unfold deep24 at h
      rw [e] at h
      have h : (decide (ds.length ≤ 100000) && ds.all (deep24 n)) = true := h
      rw [Bool.and_eq_true] at h
      exact ⟨of_decide_eq_true h.1, fun e he a b S v H Q E Fl ha hb A hv nl k => ⟨a, b, S, v, e, rfl, Fl, ha, hb, A, hv, nl, List.all_eq_true.mp h.2 e he, k⟩⟩)
end
end Q
set_option Elab.async false
set_option linter.all false
set_option maxRecDepth 100000
/-! list(x), x a text: a new list of its signs (HandS has lists, tuples, dicts, bytes). -/
namespace L2
open PySem PySem.Spec PyProof.Rows
def signsV (x : Str) : List V := x.cps.toList.map fun c => V.str ⟨#[c]⟩
theorem call_listS {X : Cx} (hc : X.calm = true) : CallR X (.type "list") (fun xs H Q => ∃ x : Str, xs = [.str x] ∧ x.length ≤ sizeLine ∧ ∀ l, H l = none → Q (.ref l) (upd H l (.lst (signsV x)))) := by
  intro pins s σ H xs us Q I r h
  obtain ⟨x, rfl, hx, q⟩ := h
  obtain ⟨u, rfl, t, rfl⟩ := vals1 r
  have hl : x.cps.size = x.length := rfl
  refine PySem.call_list_str (I.ok.hd hc) x t (fun h' tk acc' c' hkeep hS hacc => ?_) hx
  refine ⟨.ref s.heap.objs.size, upd H s.heap.objs.size (.lst (signsV x)), I.laid hkeep (Nat.le_refl _) (show ObjOk X.prog X.w _ _ _ (.lst (signsV x)) from ⟨?_, acc'.toList, c', ?_, ?_⟩), rfl, q _ (I.hok.fresh (Nat.le_refl _))⟩
  · unfold signsV
    rw [List.length_map, Array.length_toList]
    exact hx
  · have el : acc'.toList.length = acc'.size := by simp
    unfold signsV
    refine vals_of_at (by rw [List.length_map, el, hacc.1, Array.length_toList]) fun j y w h1 h2 => ?_
    obtain ⟨c, u, hc1, rfl⟩ := hacc.2 j w (by rw [← Array.getElem?_toList]; exact h2)
    rw [List.getElem?_map, Array.getElem?_toList, hc1] at h1
    cases h1
    exact ⟨u, rfl⟩
  · rw [Array.toArray_toList]
    exact hS
end L2
set_option Elab.async false
set_option linter.all false
set_option maxRecDepth 100000
set_option maxHeartbeats 4000000
/-! ### _is_act, over any data -/
namespace Q
open PySem L2 XD
/-- x[lo:hi] of a list or a tuple -/
def rSlB (K : PySem.W.Frag) : V → Option Int → Option Int → Hp → VK → Prop := fun x lo hi H Q => rSlA K x lo hi H Q ∨ rSlL K x lo hi H Q
theorem sl_bothK {X : Cx} (K : PySem.W.Frag) (h : X.K = K) : SlR X (rSlB K) := by
  subst h
  intro pins s σ H x v vl vu lo hi sl Q I rx hs pl pu h
  rcases h with h | h
  · exact sl_tupA pins s σ H x v vl vu lo hi sl Q I rx hs pl pu h
  · exact sl_list pins s σ H x v vl vu lo hi sl Q I rx hs pl pu h
theorem op_inDKA {X : Cx} (K : PySem.W.Frag) (h : X.K = K) (hu : X.A.units + 65 < cLine) : OpR X (compareOp .In) (rInD K) := by
  subst h
  exact op_inD hu
def isK (x : Str) (d : PyData) : Bool := PyData.eqv d (.str x)
def dropOk (t : List (Str × List Str)) : List PyData → Bool
  | [a] => stands (t.map (·.1)) a
  | _ => false
def actOf (t : List (Str × List Str)) (k : PyData) (r : List PyData) : Bool :=
  if (isK "yes" k || isK "no" k) = true then decide (r.length = 0) else if isK "drop" k = true then dropOk t r else (isK "set" k || isK "not" k) && areFacts t (.tuple [.list r])
def isAct (t : List (Str × List Str)) (d : PyData) : Bool := match rowOf d with
  | some (k :: r) => actOf t k r
  | _ => false
theorem cut1 (y : V) (ys : List V) : cutV (y :: ys) (some 1) none = ys := by
  have e1 : HT.sIx (y :: ys).length 0 (some 1) = 1 := by
    have := HT.sIx_nat (y :: ys).length 0 1
    rw [List.length_cons] at this ⊢
    rw [Nat.min_eq_left (by omega)] at this
    exact this
  unfold cutV
  rw [e1, HT.sIx_none, List.drop_one, List.tail_cons, List.length_cons, Nat.add_sub_cancel, List.take_length]
/-- what is in it can be compared -/
def AOk (d : PyData) : Prop := ∀ xs, rowOf d = some xs → xs.length ≤ 1000 ∧ ∀ x ∈ xs, SeqAt.shaped x = true
def NStr (t : List (Str × List Str)) : Prop := ∀ n ∈ t.map (·.1), PyData.strOk n = true
theorem areF_row {t : List (Str × List Str)} {a b : PyData} (h : rowOf a = rowOf b) : areFacts t (.tuple [a]) = areFacts t (.tuple [b]) := by
  have e : pairOf a = pairOf b := by
    unfold pairOf
    rw [h]
  have g : ∀ seen, goFacts t seen [a] = goFacts t seen [b] := fun seen => by
    conv => lhs; unfold goFacts
    conv => rhs; unfold goFacts
    rw [e]
  show (decide ([a].length ≤ t.length) && goFacts t [] [a]) = (decide ([b].length ≤ t.length) && goFacts t [] [b])
  rw [g] <;> rfl
theorem fok_row {a : PyData} {r : List PyData} (h : rowOf a = some r) (hs : ∀ x ∈ r, SeqAt.shaped x = true) : FOk (.tuple [a]) := fun fs e f hf x y ep => by
  cases e
  rw [List.mem_singleton.mp hf] at ep
  unfold pairOf at ep
  rw [h] at ep
  match r, ep with
  | [u, w], ep =>
    cases ep
    exact hs _ (List.mem_cons_of_mem _ (List.mem_singleton.mpr rfl))
def spIsAct (K : PySem.W.Frag) : Sp := fun vs H Q _ => ∃ (p : Addr) (t : List (Str × List Str)) (v : V) (d : PyData), vs = [.ref p, v] ∧ TabAt K H p t ∧ NStr t ∧ Dp K H v d ∧ AOk d ∧ ∀ H', Same H H' → Q (.bl (isAct t d)) H'
abbrev nIsAct : List Str := ["fields", "act", "kind", "name", "_"]
theorem strs_shaped {ws : List Str} (h : ∀ w ∈ ws, PyData.strOk w = true) : SeqAt.shaped (.list (ws.map PyData.str)) = true := by
  unfold SeqAt.shaped
  have h1 := lay_strs ws h
  have h2 : ∀ ws : List Str, PyData.depthAll (ws.map PyData.str) = 0 := by
    intro ws
    induction ws with
    | nil => rfl
    | cons w ws ih => rw [List.map_cons, PyData.depthAll, ih] <;> rfl
  rw [PyData.canLay0, h1, Bool.true_and]
  refine decide_eq_true ?_
  rw [PyData.depth, h2]
  decide
end Q
set_option Elab.async false
set_option linter.all false
set_option maxRecDepth 100000
set_option maxHeartbeats 4000000
/-! ### k31: _law_words -/
namespace Q
open PySem L2 XD
theorem sl_to31 {K : PySem.W.Frag} {p : Addr} {us : List V} {n : Nat} {H : Hp} {Q : VK} (h : H p = some (.lst us)) (k : ∀ q, H q = none → Q (.ref q) (L2.upd H q (.lst (us.take n)))) : rSlB K (.ref p) none (some (n : Int)) H Q := by
  refine .inr ⟨p, us, rfl, SqL.of h, fun q hq => ?_⟩
  have cut : cutV us none (some (n : Int)) = us.take n := by
    unfold cutV
    rw [HT.sIx_none, HT.sIx_nat, List.drop_zero, Nat.sub_zero]
    by_cases g : n ≤ us.length
    · rw [Nat.min_eq_left g]
    · rw [Nat.min_eq_right (by omega), List.take_of_length_le (Nat.le_refl _), List.take_of_length_le (by omega)]
  rw [cut]
  exact k q hq
theorem for_L31 {K : PySem.W.Frag} {t0 : TE} {g : TG} {tb u : TS} {D : Ends} {σ : L2.St} {H : Hp} (h : t0 σ H fun v H2 => tFor (iList K (tC v)) g tb { D with nx := u D } σ H2) : tSeq (tFor (iRow K t0) g tb) u D σ H := .inl h
theorem for_list31 {K : PySem.W.Frag} {p : Addr} {ys : List V} {g : TG} {tb : TS} {D : Ends} {σ : L2.St} {H : Hp} (Pv : Nat → L2.St → Hp → Prop) (h0 : Pv 0 σ H) (kp : ∀ i σ' H', Pv i σ' H' → H' p = some (.lst ys))
    (turn : ∀ i x σ' H', ys[i]? = some x → Pv i σ' H' → g x σ' H' fun σ2 H2 => tb { D with nx := Pv (i + 1), ct := Pv (i + 1), bk := D.nx } σ2 H2) (after : ∀ σ' H', Pv ys.length σ' H' → D.nx σ' H') : tFor (iList K (tC (.ref p))) g tb D σ H :=
  ⟨p, rfl, ⟨ys, SqL.of (kp 0 σ H h0)⟩, for_list (xs := ys) Pv h0 (fun i σ' H' _ p => SqL.of (kp i σ' H' p)) turn after⟩
theorem perm_map31 {α β : Type} {f : α → β} {fs gs : List β} (h : fs.Perm gs) : ∀ l : List α, gs = l.map f → ∃ as : List α, as.Perm l ∧ fs = as.map f := by
  induction h with
  | nil =>
    intro l e
    cases l with
    | nil => exact ⟨[], List.Perm.refl _, rfl⟩
    | cons a l => cases e
  | cons x p ih =>
    intro l e
    cases l with
    | nil => cases e
    | cons a l =>
      obtain ⟨e1, e2⟩ := List.cons.inj e
      obtain ⟨as, h1, h2⟩ := ih l e2
      exact ⟨a :: as, h1.cons a, by rw [h2, e1] <;> rfl⟩
  | swap x y p =>
    intro l e
    cases l with
    | nil => cases e
    | cons a l =>
      cases l with
      | nil => cases (List.cons.inj e).2
      | cons b l =>
        obtain ⟨e1, e2⟩ := List.cons.inj e
        obtain ⟨e3, e4⟩ := List.cons.inj e2
        exact ⟨b :: a :: l, List.Perm.swap _ _ _, by rw [e1, e3, e4] <;> rfl⟩
  | trans h1 h2 i1 i2 =>
    intro l e
    obtain ⟨as, a1, a2⟩ := i2 l e
    obtain ⟨bs, b1, b2⟩ := i1 as a2
    exact ⟨bs, b1.trans a1, b2⟩
def Wds31 (ws : List Str) : Prop := ws.Nodup ∧ ∀ x ∈ ws, word x = true
abbrev abc31 : Str := "abcdefghijklmnopqrstuvwxyz"
def abcN31 : List Nat := List.range' 97 26
theorem abc_eq31 : abc31.cps.toList = abcN31 := by decide +kernel
theorem abc_az31 : ∀ c ∈ abcN31, az c = true := by decide +kernel
theorem abc_nd31 : abcN31.Nodup := by decide +kernel
theorem signs_abc31 : signsV abc31 = abcN31.map fun c => V.str ⟨#[c]⟩ := by
  unfold signsV
  rw [abc_eq31]
abbrev suf31 : List Str := ["", "", "a", "on", "zzzzzzz", "bcdefgh"]
theorem suf_ok31 : ∀ x ∈ suf31, (tlx x).length ≤ 7 ∧ (tlx x).all az = true := by decide +kernel
theorem one_word31 {c : Nat} {x : Str} (hc : az c = true) (hx : x ∈ suf31) : word ((⟨#[c]⟩ : Str) ++ x) = true := by
  obtain ⟨h1, h2⟩ := suf_ok31 x hx
  refine word_of (l := c :: tlx x) (by rw [tlx_app, tlx_one] <;> rfl) ?_ ?_ ?_
  · rw [List.length_cons]
    omega
  · rw [List.length_cons]
    omega
  · rw [List.all_cons, hc, h2] <;> rfl
def hd31 (x : Str) : Option Nat := (tlx x).head?
theorem hd_one31 {c : Nat} {x : Str} : hd31 ((⟨#[c]⟩ : Str) ++ x) = some c := by
  unfold hd31
  rw [tlx_app, tlx_one] <;> rfl
theorem nodup_of_map31 {α β : Type} {f : α → β} : ∀ {l : List α}, (l.map f).Nodup → l.Nodup
  | [], _ => List.nodup_nil
  | a :: l, h => by
    rw [List.map_cons, List.nodup_cons] at h
    exact List.nodup_cons.mpr ⟨fun z => h.1 (List.mem_map_of_mem z), nodup_of_map31 h.2⟩
theorem nodup_map31 {α β : Type} {f : α → β} (inj : ∀ x y, f x = f y → x = y) : ∀ {l : List α}, l.Nodup → (l.map f).Nodup
  | [], _ => List.nodup_nil
  | a :: l, h => by
    rw [List.nodup_cons] at h
    rw [List.map_cons, List.nodup_cons]
    refine ⟨fun z => ?_, nodup_map31 inj h.2⟩
    obtain ⟨x, hx, e⟩ := List.mem_map.mp z
    exact h.1 (inj _ _ e ▸ hx)
def spWords31 (K : PySem.W.Frag) : Sp := fun vs H Q _ => ∃ (a b : Addr) (n : Nat), vs = [.ref a, .int n] ∧ Fl31 b H a ∧ n ≤ 26 ∧ ∀ (p : Addr) (ws : List Str) (H' : Hp), H p = none → H' p = some (.lst (ws.map V.str)) → ws.length = n → Wds31 ws → Fl31 b H' a → Same (Bs31 a b H) (Bs31 a b H') → Q (.ref p) H'
abbrev nWo31 : List Str := ["st", "many", "found", "letter"]
section
variable {P : Program} {w : World} {K : PySem.W.Frag} {mg : Str → Option Value} {base : Heap}
theorem scWo31 : FnScope nWo31 ["st", "many"] (defScope sLWords) := ⟨rfl, rfl, rfl, by decide +kernel, rfl, by decide +kernel, by decide +kernel⟩
theorem ok_words31 {f : Addr} {fd : FuncData} (F : Fun K "_law_words" "_law_words" sLWords f fd) (T : Be31 mg) (KU : Kn P w K mg base 3 "_law_turned" ["st", "row"] (spTurn31 K)) (KO : Kn P w K mg base 3 "_law_one" ["st", "row"] (spOne31 K)) : FnOk P w K mg base CX0 4 f fd ["st", "many"] (spWords31 K) := by
  obtain ⟨fU, fdU, GU, kU, bU, mU⟩ := KU.ex
  obtain ⟨fO, fdO, GO, kO, bO, mO⟩ := KO.ex
  refine F.ok scWo31 (fun vs H Q E h => ?_) (fun cdv A outer s H vs Q E hr h => ?_)
  · obtain ⟨a, b, n, rfl, _⟩ := h
    rfl
  have vl_ : PySem.bootBuiltins "list" = some (.type "list") := by decide +kernel
  refine ⟨_, pss_cons (ps_set (i := 2) scWo31.nd rfl (.inl rfl) (pe_lst pa_nil))
    (pss_cons (ps_for PassesOwn.never rfl (pi_row (pe_slice (sl_bothK K rfl) (pe_call GU hr (by rfl) mU kU bU .nil pass0 (pa_cons (pv 0) (pa_cons (pe_callTy (call_listS rfl) (by rfl) T.list vl_ (pa_cons pe_str pa_nil)) pa_nil))) po_none (po_some (pv 1)))) (pg_name (i := 3) scWo31.nd rfl (.inl rfl))
      (pss_one (ps_expr (pe_bm PySem.F.plainAttrs_list PySem.F.slot_list_append PySem.F.type_list_append mt_append (pv 2) (pa_cons (pe_op op_add_str (pv 3) (pe_call GO hr (by rfl) mO kO bO .nil pass0 (pa_cons (pv 0) (pa_cons (pe_lst (pa_cons pe_str (pa_cons pe_str (pa_cons pe_str (pa_cons pe_str (pa_cons pe_str (pa_cons pe_str pa_nil))))))) pa_nil)))) pa_nil)))))
    (pss_one (ps_ret (pv 2)))), ?_⟩
  obtain ⟨a, b, n, rfl, Fl, hn, k⟩ := h
  try simp only [L2.start, gName, List.map_cons, List.map_nil, List.length_cons, List.length_nil, Nat.reduceAdd, Nat.reduceSub, List.replicate_succ, List.replicate_zero, List.cons_append, List.nil_append, List.set_cons_succ, List.set_cons_zero]
  refine ⟨by show 0 ≤ sizeLine; decide, fun N hN => ?_⟩
  have nN : N ∉ [a, b] := flo31.out Fl hN
  have F1 : Fl31 b (L2.upd H N (.lst [])) a := flo31.off nN Fl
  have s1 : Same (Bs31 a b H) (Bs31 a b (L2.upd H N (.lst []))) := rm_same (new_same hN _)
  have hN1 := upd_same (H := H) (a := N) (o := .lst [])
  generalize L2.upd H N (.lst []) = H1 at F1 s1 hN1
  try simp only [gName, List.set_cons_succ, List.set_cons_zero]
  refine for_L31 ?_
  refine ⟨_, rfl, abc31, rfl, by show 26 ≤ sizeLine; decide, fun L hL => ?_⟩
  have nL : L ∉ [a, b] := flo31.out F1 hL
  have F2 : Fl31 b (L2.upd H1 L (.lst (signsV abc31))) a := flo31.off nL F1
  have s2 : Same (Bs31 a b H) (Bs31 a b (L2.upd H1 L (.lst (signsV abc31)))) := s1.trans (rm_same (new_same hL _))
  have hN2 := new_same hL (.lst (signsV abc31)) _ _ hN1
  have hL2 : Bs31 a b (L2.upd H1 L (.lst (signsV abc31))) L = some (.lst (signsV abc31)) := (rm_at nL).trans upd_same
  generalize L2.upd H1 L (.lst (signsV abc31)) = H2 at F2 s2 hN2 hL2
  have l26 : (signsV abc31).length = 26 := by rw [signs_abc31, List.length_map] <;> rfl
  refine ⟨a, b, L, signsV abc31, rfl, F2, .inl (SqL.of hL2), by omega, fun p zs H3 hp hpz pm F3 s3 => ?_⟩
  obtain ⟨cs, pmc, rfl⟩ := perm_map31 pm abcN31 signs_abc31
  have lcs : cs.length = 26 := pmc.length_eq
  have hN3 := at31 s3 nN hN2
  refine ⟨_, rfl, _, rfl, sl_to31 hpz fun q hq => ?_⟩
  have nq : q ∉ [a, b] := flo31.out F3 hq
  have nqN : N ≠ q := fun z => by
    rw [← z, hN3] at hq
    cases hq
  have F4 := flo31.off (o := .lst ((cs.map fun c => V.str ⟨#[c]⟩).take n)) nq F3
  have s4 : Same (Bs31 a b H) (Bs31 a b (L2.upd H3 q (.lst ((cs.map fun c => V.str ⟨#[c]⟩).take n)))) := (s2.trans s3).trans (rm_same (new_same hq _))
  have hN4 := new_same hq (.lst ((cs.map fun c => V.str ⟨#[c]⟩).take n)) _ _ hN3
  have hq4 := upd_same (H := H3) (a := q) (o := .lst ((cs.map fun c => V.str ⟨#[c]⟩).take n))
  generalize L2.upd H3 q (.lst ((cs.map fun c => V.str ⟨#[c]⟩).take n)) = H4 at F4 s4 hN4 hq4
  have ly : ((cs.map fun c => V.str ⟨#[c]⟩).take n).length = n := by
    rw [List.length_take, List.length_map]
    omega
  refine for_list31 (fun i σ' H' => ∃ (f3 : Option V) (ws : List Str), σ' = [some (.ref a), some (.int n), some (.ref N), f3] ∧ H' N = some (.lst (ws.map V.str)) ∧ H' q = some (.lst ((cs.map fun c => V.str ⟨#[c]⟩).take n)) ∧ ws.map hd31 = (cs.take i).map some ∧ (∀ x ∈ ws, word x = true) ∧ Fl31 b H' a ∧ Same (Bs31 a b H) (Bs31 a b H'))
    ⟨none, [], rfl, hN4, hq4, rfl, fun x h => absurd h List.not_mem_nil, F4, s4⟩ (fun i σ' H' ⟨_, _, _, _, h, _⟩ => h) ?_ ?_
  · rintro i y σ' H5 hy ⟨f3, ws, rfl, g1, g2, g3, g4, F5, s5⟩
    have hi : i < n := by
      have := (List.getElem?_eq_some_iff.mp hy).1
      omega
    rw [List.getElem?_take, if_pos hi, List.getElem?_map] at hy
    obtain ⟨c, hc, rfl⟩ := Option.map_eq_some_iff.mp hy
    have lw := congrArg List.length g3
    rw [List.length_map, List.length_map, List.length_take] at lw
    try simp only [gName, List.set_cons_succ, List.set_cons_zero]
    refine ⟨_, rfl, .inl ⟨rfl, _, SqL.of g1⟩, _, rfl, _, rfl, by show 6 ≤ sizeLine; decide, fun M hM => ?_⟩
    have nM : M ∉ [a, b] := flo31.out F5 hM
    have F6 : Fl31 b (L2.upd H5 M (.lst (suf31.map V.str))) a := flo31.off nM F5
    have s6 : Same (Bs31 a b H) (Bs31 a b (L2.upd H5 M (.lst (suf31.map V.str)))) := s5.trans (rm_same (new_same hM _))
    have g16 := new_same hM (.lst (suf31.map V.str)) _ _ g1
    have g26 := new_same hM (.lst (suf31.map V.str)) _ _ g2
    have hM6 : Bs31 a b (L2.upd H5 M (.lst (suf31.map V.str))) M = some (.lst (suf31.map V.str)) := (rm_at nM).trans upd_same
    refine ⟨a, b, M, suf31.map V.str, rfl, F6, .inl (SqL.of hM6), by decide, by decide, fun j y H7 hy F7 s7 => ?_⟩
    rw [List.getElem?_map] at hy
    obtain ⟨x, hx, rfl⟩ := Option.map_eq_some_iff.mp hy
    have hx := List.mem_of_getElem? hx
    have g17 := at31 s7 nN g16
    have g27 := at31 s7 nq g26
    have wd := one_word31 (abc_az31 c (pmc.mem_iff.mp (List.mem_of_getElem? hc))) hx
    have lx := (suf_ok31 x hx).1
    rw [tlx_len] at lx
    refine ⟨_, _, rfl, rfl, ?_, N, _, _, rfl, rfl, g17, small1000 (by rw [List.length_map]; omega), _, ws ++ [(⟨#[c]⟩ : Str) ++ x], rfl, ?_, ?_, ?_, ?_, flo31.off nN F7, off31 (s6.trans s7) hN⟩
    · show 1 + x.length ≤ sizeLine
      have : 1000 < sizeLine := by decide
      omega
    · rw [upd_same, List.map_append] <;> rfl
    · rw [upd_ne (fun z => nqN z.symm)]
      exact g27
    · rw [List.map_append, g3, take_one hc, List.map_append, List.map_cons, hd_one31] <;> rfl
    · intro z hz
      rcases List.mem_append.mp hz with hz | hz
      · exact g4 z hz
      · rw [List.mem_singleton.mp hz]
        exact wd
  · rintro σ' H5 ⟨f3, ws, rfl, g1, g2, g3, g4, F5, s5⟩
    rw [ly] at g3
    have lw := congrArg List.length g3
    rw [List.length_map, List.length_map, List.length_take] at lw
    refine ⟨_, rfl, k N ws H5 hN g1 (by omega) ⟨?_, g4⟩ F5 s5⟩
    have nd : (ws.map hd31).Nodup := by
      rw [g3]
      exact nodup_map31 (fun x y e => Option.some.inj e) ((List.take_sublist n cs).nodup (pmc.nodup_iff.mpr abc_nd31))
    exact nodup_of_map31 nd
end
end Q
set_option Elab.async false
set_option linter.all false
set_option maxRecDepth 100000
/-! x in t, t a tuple of data of any depth (HandS.Deep has lists). -/
namespace L2
open PySem PySem.Spec PyProof.Rows
def rInDT (K : PySem.W.Frag) : R2 := fun x y H Q => ∃ d ds, Dp K H x d ∧ Dp K H y (.tuple ds) ∧ SeqAt.shaped d = true ∧ SeqAt.shaped (.list ds) = true ∧ Q (.bl (ds.any fun z => PyData.eqv z d)) H
theorem op_inDT {X : Cx} (hu : X.A.units + 65 < cLine) : OpR X (compareOp .In) (rInDT X.K) := by
  intro pins s σ H x y v u Q I rx ry h
  obtain ⟨d, ds, hd, he, sd, se, q⟩ := h
  obtain ⟨as, r1⟩ := Dp.reads I d x v hd rx
  obtain ⟨bs, r2⟩ := Dp.reads I (.tuple ds) y u he ry
  exact SeqAt.in_tuple_reads r2 r1 (SeqAt.canLay_of_shaped se) (SeqAt.canLay_of_shaped sd) (room_in_shaped sd hu) ⟨.bl _, H, I, rfl, q⟩
theorem op_notInDT {X : Cx} (hu : X.A.units + 65 < cLine) : OpR X (compareOp .NotIn) (fun x y H Q => ∃ d ds, Dp X.K H x d ∧ Dp X.K H y (.tuple ds) ∧ SeqAt.shaped d = true ∧ SeqAt.shaped (.list ds) = true ∧ Q (.bl (!ds.any fun z => PyData.eqv z d)) H) := by
  intro pins s σ H x y v u Q I rx ry h
  obtain ⟨d, ds, hd, he, sd, se, q⟩ := h
  obtain ⟨as, r1⟩ := Dp.reads I d x v hd rx
  obtain ⟨bs, r2⟩ := Dp.reads I (.tuple ds) y u he ry
  exact SeqAt.notIn_tuple_reads r2 r1 (SeqAt.canLay_of_shaped se) (SeqAt.canLay_of_shaped sd) (room_in_shaped sd hu) ⟨.bl _, H, I, rfl, q⟩
end L2
set_option Elab.async false
set_option linter.all false
set_option maxRecDepth 100000
set_option maxHeartbeats 4000000
/-! ### fillings, over rows_that_fit -/
namespace Q
open PySem L2 XD
section
variable {P : Program} {w : World} {K : PySem.W.Frag} {mg : Str → Option Value} {base : Heap}
theorem scFills : FnScope ["form", "facts"] ["form", "facts"] (defScope sFillings) := ⟨rfl, rfl, rfl, by decide +kernel, rfl, by decide +kernel, by decide +kernel⟩
theorem ok_fillings {f C CV : Addr} {fd : FuncData} (F : Fun K "fillings" "fillings" sFillings f fd) (Z : Fk P w K mg base C) (R : Bv K mg CV)
    (KA : Kn P w K mg base 3 "are_facts" ["fields", "facts"] (spAreFacts K)) (KW : Kn P w K mg base 3 "rows_that_fit" ["form", "facts"] (spRowsFit K C)) : FnOk P w K mg base (L2N.CX P w) 4 f fd ["form", "facts"] (spFillings K C CV) := by
  obtain ⟨fA, fdA, GA, kA, bA, mA⟩ := KA.ex
  obtain ⟨fW, fdW, GW, kW, bW, mW⟩ := KW.ex
  obtain ⟨fG, fdG, GG, bG, mG⟩ := Z.gf
  obtain ⟨fIv, qv, XV⟩ := R.v
  refine Fun_okN F scFills (fun vs H Q E h => ?_) (fun cdv A outer s H vs Q E hr h => ?_)
  · obtain ⟨x, pf, pr, v, t, rs, d, rfl, _⟩ := h
    rfl
  have hr1 : Room 1 _ := hr.mono (by decide)
  refine ⟨_, pss_cons (ps_if (pt_not (pt_val (pe_call GA hr rfl mA kA bA .nil pass0 (pa_cons (pe_meth0 (pv 0) Z.fc.cl mG GG hr1 bG .nil pass0) (pa_cons (pv 1) pa_nil))))) (pss_one (L2N.ps_raise rfl (L2N.takes_of rfl rfl rfl rfl) (XM.pmk XV R.gv hr (pa_cons pe_int pa_nil)))) pss_nil)
    (pss_one (ps_ret (pe_call GW hr rfl mW kW bW .nil pass0 (pa_cons (pv 0) (pa_cons (pv 1) pa_nil))))), ?_⟩
  obtain ⟨x, pf, pr, v, t, rs, d, rfl, ⟨dx, hx⟩, hT, hR, O, hv, hok, hz, kno, kyes⟩ := h
  refine ⟨_, rfl, x, dx, _, rfl, hx, noF, x, pf, pr, rfl, ⟨dx, hx⟩, _, rfl, pf, t, v, d, rfl, hT, hv, hok, fun H1 s1 => ⟨_, rfl, ?_⟩⟩
  cases eA : areFacts t d with
  | false => exact iteT ⟨.int 1, rfl, fun dd hd => kno eA dd H1 s1 hd⟩
  | true =>
  obtain ⟨q, zs, gs, rfl, hq, er, hzs⟩ := hz eA
  refine iteF (nxt ?_)
  try dsimp only
  exact ⟨_, rfl, _, rfl, x, pf, pr, .ref q, t, rs, d, rfl, ⟨dx, s1 _ _ hx⟩, hT.same s1, rulesAtS s1 hR, O, eA, ⟨q, zs, gs, rfl, hq.elim (fun z => .inl (s1.seq z)) (fun z => .inr (z.same s1)), er, dps_same s1 hzs⟩, fun z H2 s2 hr => kyes eA z H2 (s1.trans s2) hr⟩
end
end Q
set_option Elab.async false
set_option linter.all false
set_option maxRecDepth 100000
set_option maxHeartbeats 4000000
/-! ### outcome_of -/
namespace Q
open PySem L2 XD
theorem op_inDT31 {X : Cx} (K : PySem.W.Frag) (h : X.K = K) (hu : X.A.units + 65 < cLine) : OpR X (compareOp .In) (rInDT K) := by
  subst h
  exact op_inDT hu
theorem op_notInDT31 {X : Cx} (K : PySem.W.Frag) (h : X.K = K) (hu : X.A.units + 65 < cLine) : OpR X (compareOp .NotIn) (fun x y H Q => ∃ d ds, Dp K H x d ∧ Dp K H y (.tuple ds) ∧ SeqAt.shaped d = true ∧ SeqAt.shaped (.list ds) = true ∧ Q (.bl (!ds.any fun z => PyData.eqv z d)) H) := by
  subst h
  exact op_notInDT hu
abbrev Out := List Pr × Str
def outD (o : Out) : PyData := .tuple [ruleD o.1, .str o.2]
def outsD (os : List Out) : PyData := .tuple (os.map outD)
def wordOf : List Out → List Pr → Str
  | [], _ => "none"
  | o :: os, row => if within o.1 row = true then o.2 else wordOf os row
def OStr (os : List Out) : Prop := ∀ o ∈ os, RStr o.1 ∧ o.1.length ≤ 1000
theorem ruleD_pD (l : List Pr) : ruleD l = .tuple (l.map pD) := rfl
theorem rule_shapedL31 {r : List Pr} (h : RStr r) : SeqAt.shaped (.list (r.map pD)) = true := by
  have h1 := rule_shaped h
  unfold SeqAt.shaped at h1 ⊢
  rw [ruleD_pD, PyData.canLay0, PyData.depth] at h1
  rw [PyData.canLay0, PyData.depth]
  exact h1
/-- two as data -/
theorem dp_two31 {K : PySem.W.Frag} {H : Hp} {v : V} {a b : PyData} (h : Dp K H v (.tuple [a, b])) : ∃ (p : Addr) (x y : V), v = .ref p ∧ SqT K H p [x, y] ∧ Dp K H x a ∧ Dp K H y b := by
  cases h with
  | tup q r =>
    cases r with
    | cons h1 r =>
      cases r with
      | cons h2 r =>
        cases r
        exact ⟨_, _, _, rfl, q, h1, h2⟩
theorem dp_tup31 {K : PySem.W.Frag} {H : Hp} {v : V} {ds : List PyData} (h : Dp K H v (.tuple ds)) : ∃ (p : Addr) (ys : List V), v = .ref p ∧ SqT K H p ys ∧ DpAll K H ys ds := by
  cases h with
  | tup q r => exact ⟨_, _, rfl, q, r⟩
def spOo31 (K : PySem.W.Frag) : Sp := fun vs H Q _ => ∃ (v u : V) (os : List Out) (row : List Pr), vs = [v, u] ∧ Dp K H v (outsD os) ∧ Dp K H u (ruleD row) ∧ OStr os ∧ RStr row ∧ ∀ H', Same H H' → Q (.str (wordOf os row)) H'
abbrev nOo31 : List Str := ["outcomes", "filling", "facts", "word", "pair"]
section
variable {P : Program} {w : World} {K : PySem.W.Frag} {mg : Str → Option Value} {base : Heap}
theorem scOo31 : FnScope nOo31 ["outcomes", "filling"] (defScope sOutcomeOf) := ⟨rfl, rfl, rfl, by decide +kernel, rfl, by decide +kernel, by decide +kernel⟩
theorem ok_outcomeof {f : Addr} {fd : FuncData} (F : Fun K "outcome_of" "outcome_of" sOutcomeOf f fd) (Ta : mg "all" = none) (mN : ∃ t, mg "NO_OUTCOME" = some (.str "none" t)) : FnOk P w K mg base CX0 1 f fd ["outcomes", "filling"] (spOo31 K) := by
  refine F.ok scOo31 (fun vs H Q E h => ?_) (fun cdv A outer s H vs Q E hr h => ?_)
  · obtain ⟨v, u, os, row, rfl, _⟩ := h
    rfl
  obtain ⟨tN, m_NO_OUTCOME⟩ := mN
  have hu2 : (A.deeper (PyProof.Rows.envOfC "outcome_of" (defScope sOutcomeOf) s.heap.objs.size f cdv)).units + 65 < cLine := by
    have := hr.un
    omega
  refine ⟨_, pss_cons (ps_for PassesOwn.never rfl (pi_row (pv 0)) (pg_row rfl (pgs_cons (pg_name (i := 2) scOo31.nd rfl (.inl rfl)) (pgs_cons (pg_name (i := 3) scOo31.nd rfl (.inl rfl)) pgs_nil)))
      (pss_one (ps_if (pt_val (pe_callB (cr_all (by rfl)) rfl Ta (by decide +kernel) (pa_cons (pe_lc (own := [("pair", 4)]) (g := gName 4) (tt := tYes) (by rfl) scOo31.nd (pi_row (pv 2)) (blkOk_by (N := nOo31) (sc := defScope sOutcomeOf) (by decide +kernel)) (fun _ _ _ _ _ => (pg_name (i := 4) scOo31.nd rfl (.inl rfl))) (fun _ _ _ _ _ => pts_nil) (fun _ _ _ _ _ => (pe_cmpR (op_inDT31 K rfl hu2) (pv 4) (pv 1) (by with_unfolding_all rfl)))) pa_nil))) (pss_one (ps_ret (pv 3))) pss_nil)))
    (pss_one (ps_ret (pe_glob (v := .str "none") (by rfl) m_NO_OUTCOME ⟨_, rfl⟩))), ?_⟩
  obtain ⟨v, u, os, row, rfl, hv, hu, ho, hrow, k⟩ := h
  obtain ⟨p, ys, rfl, hp, hys⟩ := dp_tup31 hv
  have hyl := dps_len hys
  rw [List.length_map] at hyl
  try simp only [L2.start, gName, List.map_cons, List.map_nil, List.length_cons, List.length_nil, Nat.reduceAdd, Nat.reduceSub, List.replicate_succ, List.replicate_zero, List.cons_append, List.nil_append, List.set_cons_succ, List.set_cons_zero]
  refine for_row (ys := ys) (H0 := H) (fun i σ H' => ∃ f2 f3 : Option V, σ = [some (.ref p), some u, f2, f3, none] ∧ Same H H' ∧ wordOf os row = wordOf (os.drop i) row) (fun Q' z => ⟨_, rfl, z⟩) (.inr hp) ⟨none, none, rfl, Same.refl _, rfl⟩ (fun i σ H' h => by obtain ⟨_, _, _, s, _⟩ := h; exact s) ?_ ?_
  · rintro i x σ H1 hi ⟨f2, f3, rfl, s1, e1⟩ hx
    have hio : i < os.length := by omega
    obtain ⟨d, hd, hdp⟩ := dps_get hys hx
    rw [List.getElem?_map, List.getElem?_eq_getElem hio] at hd
    cases hd
    have hom := ho _ (List.getElem_mem hio)
    rw [List.drop_eq_getElem_cons hio] at e1
    generalize os[i] = o at hdp hom e1
    obtain ⟨q, a, b, rfl, hq, ha, hb⟩ := dp_two31 (dp_same s1 hdp)
    cases hb
    refine .inl ⟨q, _, rfl, hq, rfl, a, _, rfl, .str o.2, [], rfl, rfl, ?_⟩
    try simp only [gName, List.set_cons_succ, List.set_cons_zero]
    obtain ⟨fa, fs, rfl, hfa, hfs⟩ := dp_tup31 ha
    have hfl := dps_len hfs
    refine all_row24 (fun d => (row.map pD).any fun z => PyData.eqv z d) (fun Q' z => ⟨_, rfl, z⟩) (.inr hfa) hfs (by rw [List.length_map]; omega) (fun y d H2 R hm hy s2 kk => ⟨rfl, ?_⟩) fun H2 s2 => ⟨_, rfl, ?_⟩
    · obtain ⟨e, he, rfl⟩ := List.mem_map.mp hm
      exact ⟨_, rfl, _, rfl, _, _, hy, dp_same (s1.trans s2) hu, pD_shaped (hom.1 e he), rule_shapedL31 hrow, kk H2 (Same.refl _)⟩
    · have ew : ((o.1.map pD).all fun d => (row.map pD).any fun z => PyData.eqv z d) = within o.1 row := by
        rw [List.all_map]
        unfold within
        congr 1
        funext e
        exact any_pD row e
      rw [ew]
      cases c : within o.1 row with
      | true =>
        refine iteT ⟨_, rfl, ?_⟩
        have e2 : wordOf (o :: os.drop (i + 1)) row = o.2 := if_pos c
        rw [← e2, ← e1]
        exact k H2 (s1.trans s2)
      | false =>
        refine iteF ?_
        have e2 : wordOf (o :: os.drop (i + 1)) row = wordOf (os.drop (i + 1)) row := if_neg (by rw [c]; decide)
        exact ⟨_, _, rfl, s1.trans s2, e1.trans e2⟩
  · rintro σ H1 ⟨f2, f3, rfl, s1, e1⟩
    rw [hyl, List.drop_length] at e1
    have k := k H1 s1
    rw [e1] at k
    exact k
end
end Q
set_option Elab.async false
set_option linter.all false
set_option maxRecDepth 100000
set_option maxHeartbeats 4000000
/-! ### k31: _law_lot -/
namespace Q
open PySem L2 XD
theorem perm_dps31 {K : PySem.W.Frag} {R : Hp} {zs ys : List V} (pm : zs.Perm ys) : ∀ {ds : List PyData}, DpAll K R ys ds → ∃ es : List PyData, es.Perm ds ∧ DpAll K R zs es := by
  induction pm with
  | nil =>
    intro ds h
    exact ⟨ds, List.Perm.refl _, h⟩
  | cons x p ih =>
    intro ds h
    cases h with
    | cons a r =>
      obtain ⟨es, h1, h2⟩ := ih r
      exact ⟨_ :: es, h1.cons _, .cons a h2⟩
  | swap x y p =>
    intro ds h
    cases h with
    | cons a r =>
      cases r with
      | cons b r => exact ⟨_ :: _ :: _, List.Perm.swap _ _ _, .cons b (.cons a r)⟩
  | trans h1 h2 i1 i2 =>
    intro ds h
    obtain ⟨es, a1, a2⟩ := i2 h
    obtain ⟨fs, b1, b2⟩ := i1 a2
    exact ⟨fs, b1.trans a1, b2⟩
theorem lc_rowL31 {K : PySem.W.Frag} {p : Addr} {ys : List V} {t0 : TE} {g : TG} {tt : TT} {te : TE} {vs : List Nat} {σ : L2.St} {H : Hp} {Q : VK} (Pv : Addr → Nat → Hp → Prop) (ht : ∀ Q' : VK, Q' (.ref p) H → t0 σ H Q') (hq : H p = some (.lst ys))
    (h0 : ∀ D, H D = none → Pv D 0 (L2.upd H D (.lst []))) (hG : ∀ D i H', H D = none → Pv D i H' → H' p = some (.lst ys))
    (hs : ∀ D i x H', H D = none → i < ys.length → Pv D i H' → ys[i]? = some x → g x (wipe σ vs) H' fun σ2 H2 => wipe σ2 vs = wipe σ vs ∧ tt σ2 H2 fun b H3 =>
      if b = true then te σ2 H3 fun y H4 => ∃ acc, H4 D = some (.lst acc) ∧ acc.length < sizeLine ∧ Pv D (i + 1) (L2.upd H4 D (.lst (acc ++ [y]))) else Pv D (i + 1) H3)
    (hd : ∀ D H', H D = none → Pv D ys.length H' → Q (.ref D) H') : tLc (iRow K t0) g tt te vs σ H Q := by
  refine .inl (ht _ ⟨p, rfl, ⟨ys, SqL.of hq⟩, fun D hD => lc_it walk_list (Pv D) (h0 D hD) (fun i H' _ hP => SqL.of (hG D i H' hD hP)) (fun i x H1 H2 hi hP hY => ?_) (fun H' hP => hd D H' hD hP)⟩)
  obtain ⟨rfl, hx⟩ := hY
  exact hs D i x H2 hD hi hP hx
/-- pairs of unlike fields with values of theirs -/
structure Lot31 (t : Tbl) (m : Nat) (l : List Pr) : Prop where
  ln : l.length = min m t.length
  nd : (l.map (·.1)).Nodup
  of : ∀ e ∈ l, ∃ ws, (e.1, ws) ∈ t ∧ e.2 ∈ ws
theorem sub_ab31 {S : List Addr} {a b : Addr} {H : Hp} (ha : a ∈ S) (hb : b ∈ S) : Same (rmL S H) (Bs31 a b H) := rm_sub fun x hx => by
  rcases List.mem_cons.mp hx with e | e
  · exact e ▸ ha
  · exact (List.mem_singleton.mp e) ▸ hb
/-- values of the fields: not none -/
def Vals31 (t : Tbl) : Prop := ∀ e ∈ t, 1 ≤ e.2.length ∧ e.2.length ≤ 1000
def spLot31 (K : PySem.W.Frag) : Sp := fun vs H Q _ => ∃ (a b : Addr) (S : List Addr) (v : V) (t : Tbl) (m : Nat), vs = [.ref a, v, .int m] ∧ Fl31 b H a ∧ a ∈ S ∧ b ∈ S ∧ Alive S H ∧ Dp K (rmL S H) v (tabD t) ∧ t.length ≤ 900 ∧ (t.map (·.1)).Nodup ∧ Vals31 t ∧
  ∀ (r : V) (l : List Pr) (H' : Hp), Dp K (rmL S H') r (ruleD l) → FaZ K (rmL S H') r (ruleD l) → Lot31 t m l → Fl31 b H' a → Same (Bs31 a b H) (Bs31 a b H') → Q r H'
abbrev nLo31 : List Str := ["st", "parts", "many", "some", "name", "values"]
section
variable {P : Program} {w : World} {K : PySem.W.Frag} {mg : Str → Option Value} {base : Heap}
theorem scLo31 : FnScope nLo31 ["st", "parts", "many"] (defScope sLLot) := ⟨rfl, rfl, rfl, by decide +kernel, rfl, by decide +kernel, by decide +kernel⟩
theorem ok_lot31 {f : Addr} {fd : FuncData} (F : Fun K "_law_lot" "_law_lot" sLLot f fd) (T : Be31 mg) (KU : Kn P w K mg base 3 "_law_turned" ["st", "row"] (spTurn31 K)) (KO : Kn P w K mg base 3 "_law_one" ["st", "row"] (spOne31 K)) : FnOk P w K mg base CX0 4 f fd ["st", "parts", "many"] (spLot31 K) := by
  obtain ⟨fU, fdU, GU, kU, bU, mU⟩ := KU.ex
  obtain ⟨fO, fdO, GO, kO, bO, mO⟩ := KO.ex
  refine F.ok scLo31 (fun vs H Q E h => ?_) (fun cdv A outer s H vs Q E hr h => ?_)
  · obtain ⟨a, b, S, v, t, m, rfl, _⟩ := h
    rfl
  refine ⟨_, pss_cons (ps_set (i := 3) scLo31.nd rfl (.inl rfl) (pe_slice (sl_bothK K rfl) (pe_call GU hr (by rfl) mU kU bU .nil pass0 (pa_cons (pv 0) (pa_cons (pv 1) pa_nil))) po_none (po_some (pv 2))))
    (pss_one (ps_ret (pe_callTy (call_tupK K rfl) (by rfl) T.tup (by decide +kernel) (pa_cons (pe_lc (own := [("name", 4), ("values", 5)]) (g := (gRow K 2 (gCons (gName 4) (gCons (gName 5) gNil)))) (tt := tYes) (by rfl) scLo31.nd (pi_row (pv 3)) (blkOk_by (N := nLo31) (sc := defScope sLLot) (by decide +kernel)) (fun _ _ _ _ _ => (pg_row rfl (pgs_cons (pg_name (i := 4) scLo31.nd rfl (.inl rfl)) (pgs_cons (pg_name (i := 5) scLo31.nd rfl (.inl rfl)) pgs_nil)))) (fun _ _ _ _ _ => pts_nil) (fun _ _ _ _ _ => (pe_tupZ (pa_cons (pv 4) (pa_cons (pe_call GO hr (by rfl) mO kO bO .nil pass0 (pa_cons (pv 0) (pa_cons (pv 5) pa_nil))) pa_nil))))) pa_nil)))), ?_⟩
  obtain ⟨a, b, S, v, t, m, rfl, Fl, ha, hb, AS, hd, lt, nd, vt, k⟩ := h
  obtain ⟨q, ys, rfl, hq, hys⟩ := dp_tup31 hd
  have lys := dps_len hys
  rw [List.length_map] at lys
  try simp only [L2.start, gName, List.map_cons, List.map_nil, List.length_cons, List.length_nil, Nat.reduceAdd, Nat.reduceSub, List.replicate_succ, List.replicate_zero, List.cons_append, List.nil_append, List.set_cons_succ, List.set_cons_zero]
  refine ⟨_, rfl, _, rfl, a, b, q, ys, rfl, Fl, .inr (seqT_same (sub_ab31 ha hb) hq), by omega, fun p zs H1 hp hpz pm F1 s1 => ⟨_, rfl, _, rfl, sl_to31 hpz fun L hL => ?_⟩⟩
  have np : p ∉ [a, b] := flo31.out Fl hp
  have nL : L ∉ [a, b] := flo31.out F1 hL
  have hys1 := dps_same (rm_mv31 ha hb s1) hys
  obtain ⟨es, pm2, hes⟩ := perm_dps31 pm hys1
  obtain ⟨t2, pm3, rfl⟩ := perm_map31 pm2 t rfl
  have F2 := flo31.off (o := .lst (zs.take m)) nL F1
  have s2 : Same (Bs31 a b H) (Bs31 a b (L2.upd H1 L (.lst (zs.take m)))) := s1.trans (rm_same (new_same hL _))
  have hes2 := dps_take m (dps_same (rm_same (S := S) (new_same hL (.lst (zs.take m)))) hes)
  have hL2 := upd_same (H := H1) (a := L) (o := .lst (zs.take m))
  have hL0 : H L = none := by
    cases c : H L with
    | none => rfl
    | some o =>
      rw [at31 s1 nL c] at hL
      cases hL
  rw [← List.map_take] at hes2
  have nd2 : ((t2.take m).map (·.1)).Nodup := by
    rw [List.map_take]
    exact (List.take_sublist m _).nodup ((pm3.map _).nodup_iff.mpr nd)
  have ln2 : (t2.take m).length = min m t.length := by rw [List.length_take, pm3.length_eq]
  have of2 : ∀ e ∈ t2.take m, e ∈ t := fun e he => pm3.mem_iff.mp (List.mem_of_mem_take he)
  have lz := dps_len hes2
  rw [List.length_map] at lz
  generalize t2.take m = t3 at hes2 nd2 ln2 of2 lz
  generalize zs.take m = zs3 at F2 s2 hes2 hL2 lz
  generalize L2.upd H1 L (.lst zs3) = H2 at F2 s2 hes2 hL2
  have A2 : Alive S H2 := alive_mv31 AS F2 s2
  try simp only [gName, List.set_cons_succ, List.set_cons_zero]
  unfold tRet tCB tCons
  show tLc (iRow K (tVar 3)) _ tYes _ _ _ H2 _
  refine lc_rowL31 (ys := zs3) (fun D i H' => ∃ us l, H' D = some (.lst us) ∧ DpAll K (rmL (D :: S) H') us (l.map pD) ∧ l.map (·.1) = (t3.take i).map (·.1) ∧ (∀ e ∈ l, ∃ ws, (e.1, ws) ∈ t ∧ e.2 ∈ ws) ∧ Fl31 b H' a ∧ Same (Bs31 a b H2) (Bs31 a b H'))
    (fun Q' z => ⟨_, rfl, z⟩) hL2 (fun D hD => ⟨[], [], upd_same, .nil, rfl, fun e h => absurd h List.not_mem_nil, flo31.off (flo31.out F2 hD) F2, rm_same (new_same hD _)⟩) (fun D i H' hD ⟨_, _, _, _, _, _, _, s⟩ => at31 s nL hL2) (fun D i x H3 hD hi hP hx => ?_) (fun D H3 hD hP => ?_)
  · obtain ⟨us, l, g1, g2, g3, g4, F3, s3⟩ := hP
    have nD : D ∉ [a, b] := flo31.out F2 hD
    obtain ⟨d, he, hx'⟩ := dps_get hes2 hx
    rw [List.getElem?_map] at he
    obtain ⟨e, et, rfl⟩ := Option.map_eq_some_iff.mp he
    have lu := dps_len g2
    have l3 := congrArg List.length g3
    rw [List.length_map, List.length_map, List.length_take] at l3
    rw [List.length_map] at lu
    have A3 : Alive (D :: S) H3 := alive_put31 (alive_mv31 A2 F3 s3) g1
    obtain ⟨z, vn, vv, rfl, hz, hvn, hvv⟩ := dp_two31 (dp_same (new_rm31 ha hb hD s3) hx')
    cases hvn
    obtain ⟨q2, ws, rfl, hq2, hws⟩ := dp_tup31 hvv
    have ew := dps_str hws
    subst ew
    refine .inl ⟨z, _, rfl, seqT_same rm_le hz, rfl, .str e.1, _, rfl, .ref q2, [], rfl, rfl, rfl, ?_⟩
    unfold tYes
    have hv1 := vt e (of2 e (List.mem_of_getElem? et))
    refine iteT ⟨_, rfl, _, rfl, _, rfl, a, b, q2, _, rfl, F3, .inr (seqT_same (sub_ab31 (List.mem_cons_of_mem _ ha) (List.mem_cons_of_mem _ hb)) hq2), by rw [List.length_map]; exact hv1.1, by rw [List.length_map]; omega, fun j y H4 hy F4 s4 => ⟨by show 2 ≤ sizeLine; decide, fun zt oz hzt hoz => ?_⟩⟩
    rw [List.getElem?_map] at hy
    obtain ⟨y, hy1, rfl⟩ := Option.map_eq_some_iff.mp hy
    have nz : zt ∉ [a, b] := flo31.out F4 hzt
    have A4 := alive_mv31 A3 F4 s4
    have nz2 : zt ∉ D :: S := fun h => A4 zt h hzt
    have s5 := new_same hzt (.frz oz (.tup [V.str e.1, V.str y]))
    refine ⟨us, s5 _ _ (at31 s4 nD g1), small1000 (by omega), us ++ [.ref zt], l ++ [(e.1, y)], upd_same, ?_, ?_, ?_, flo31.off nD (flo31.off nz F4), off31 ((s3.trans s4).trans (rm_same s5)) hD⟩
    · rw [rm_put List.mem_cons_self, List.map_append]
      refine dps_app (dps_same ((rm_mv31 (List.mem_cons_of_mem _ ha) (List.mem_cons_of_mem _ hb) s4).trans (rm_same s5)) g2) (.cons (.tup (.inl (.inr ⟨oz, (rm_at nz2).trans upd_same⟩)) (.cons (.str _) (.cons (.str _) .nil))) .nil)
    · rw [List.map_append, g3, take_one et, List.map_append] <;> rfl
    · intro f hf
      rcases List.mem_append.mp hf with hf | hf
      · exact g4 f hf
      · rw [List.mem_singleton.mp hf]
        exact ⟨e.2, of2 e (List.mem_of_getElem? et), List.mem_of_getElem? hy1⟩
  · obtain ⟨us, l, g1, g2, g3, g4, F3, s3⟩ := hP
    rw [lz, List.take_length] at g3
    have l3 := congrArg List.length g3
    rw [List.length_map, List.length_map] at l3
    refine ⟨D, us, rfl, .inl ⟨SqL.of g1, fun z o hz ho => ?_⟩⟩
    have nz : z ∉ S := fun h => alive_mv31 A2 F3 s3 z h hz
    have s4 := new_same hz (.frz o (.tup us))
    have g5 : DpAll K (rmL S (L2.upd H3 z (.frz o (.tup us)))) us (l.map pD) := dps_same (rm_same s4) (dps_same (rm_sub fun x hx => List.mem_cons_of_mem _ hx) g2)
    have e3 : rmL S (L2.upd H3 z (.frz o (.tup us))) z = some (.frz o (.tup us)) := (rm_at nz).trans upd_same
    exact k _ l _ (.tup (.inl (.inr ⟨o, e3⟩)) g5) ⟨z, us, _, rfl, .inr ⟨o, e3, ho⟩, rfl, g5⟩ ⟨by omega, by rw [g3]; exact nd2, g4⟩ (flo31.off (flo31.out F3 hz) F3) ((s2.trans s3).trans (rm_same s4))
end
end Q
set_option Elab.async false
set_option linter.all false
set_option maxRecDepth 100000
set_option maxHeartbeats 4000000
/-! t + u and t[lo:hi] of tuples, kept as they are made (dict(..) wants that). -/
namespace XD
open PySem PySem.Spec PyProof.Rows HT L2
section
variable {X : Cx}
def rCatZ (K : PySem.W.Frag) : R2 := fun x y H Q => ∃ a b xs ys, x = .ref a ∧ y = .ref b ∧ SqT K H a xs ∧ SqT K H b ys ∧ xs.length + ys.length ≤ sizeLine ∧
  (xs = [] → Q (.ref b) H) ∧ (xs ≠ [] → ys = [] → Q (.ref a) H) ∧ (xs ≠ [] → ys ≠ [] → ∀ p o, H p = none → o.dict = none → Q (.ref p) (upd H p (.frz o (.tup (xs ++ ys)))))
theorem op_catZ (K : PySem.W.Frag) (hK : X.K = K) : OpR X (binaryOp .Add) (rCatZ K) := by
  subst hK
  intro pins s σ H x y v u Q I rx ry h
  obtain ⟨a, b, xs, ys, rfl, rfl, ha, hb, hz, q0, q1, q2⟩ := h
  cases rx
  cases ry
  obtain ⟨its, r1, p1, _⟩ := I.tuple ha
  obtain ⟨its2, r2, p2, _⟩ := I.tuple hb
  by_cases hx : xs = []
  · subst hx
    cases r1
    exact cat_tup0 p1 p2 ⟨.ref b, H, I, rfl, q0 rfl⟩
  · refine HT.cat_tup p1 p2 (fun z => hx (r1.nil_iff.mp z)) (fun z => ⟨.ref a, H, I, rfl, q1 hx (r2.nil_iff.mp z)⟩) (fun z => ?_) (by rw [← r1.length, ← r2.length]; exact hz)
    refine ⟨.ref s.heap.objs.size, _, I.laid (t' := s.toks) (o := .frz { cls := .type "tuple", data := .seq (its ++ its2).toArray } (.tup (xs ++ ys))) (fun b ob q => Heap.get?_push_of_some _ q) (Nat.le_refl _) ?_, rfl, q2 hx (fun w => z (r2.nil_iff.mpr w)) _ _ (I.hok.fresh (Nat.le_refl _)) rfl⟩
    exact ⟨Heap.get?_push_size _ rfl, by rw [List.length_append]; exact hz, _, r1.append r2, IsTup.new _ _⟩
def rSlZ (K : PySem.W.Frag) : V → Option Int → Option Int → Hp → VK → Prop := fun x lo hi H Q => ∃ a xs, x = .ref a ∧ SqT K H a xs ∧
  (HT.sIx xs.length 0 lo = 0 ∧ HT.sIx xs.length xs.length hi = xs.length → Q (.ref a) H) ∧ (¬ (HT.sIx xs.length 0 lo = 0 ∧ HT.sIx xs.length xs.length hi = xs.length) → ∀ p o, H p = none → o.dict = none → Q (.ref p) (upd H p (.frz o (.tup (cutV xs lo hi)))))
theorem sl_tupZ (K : PySem.W.Frag) (hK : X.K = K) : SlR X (rSlZ K) := by
  subst hK
  intro pins s σ H x v vl vu lo hi sl Q I rx hs pl pu h
  obtain ⟨a, xs, rfl, hx, q1, q2⟩ := h
  by_cases hw : HT.sIx xs.length 0 lo = 0 ∧ HT.sIx xs.length xs.length hi = xs.length
  · cases rx
    obtain ⟨its, r, ht, hz⟩ := I.tuple hx
    have hlen : its.toArray.size = xs.length := by rw [List.size_toArray]; exact r.length.symm
    refine ⟨"tuple", _, PyProof.Rows.slot_tuple_getitem.lookup, ht.typeIs, ?_⟩
    exact getItem_tuple_whole ht hs pl pu (by rw [hlen]; exact hw) ⟨.ref a, H, I, rfl, q1 hw⟩
  · cases rx
    obtain ⟨its, r, ht, hz⟩ := I.tuple hx
    have hlen : its.toArray.size = xs.length := by rw [List.size_toArray]; exact r.length.symm
    refine ⟨"tuple", _, PyProof.Rows.slot_tuple_getitem.lookup, ht.typeIs, ?_⟩
    refine HT.getItem_tuple_cut ht hs pl pu (by rw [hlen]; exact hw) ?_ (by rw [hlen]; exact hz)
    rw [hlen]
    refine ⟨.ref s.heap.objs.size, _, I.laid (t' := s.toks) (o := .frz { cls := .type "tuple", data := .seq ((its.drop (HT.sIx xs.length 0 lo)).take (HT.sIx xs.length xs.length hi - HT.sIx xs.length 0 lo)).toArray } (.tup (cutV xs lo hi))) (fun b ob q => Heap.get?_push_of_some _ q) (Nat.le_refl _) ?_, rfl, q2 hw _ _ (I.hok.fresh (Nat.le_refl _)) rfl⟩
    exact ⟨Heap.get?_push_size _ rfl, Nat.le_trans (cutV_length xs lo hi) hz, _, (r.drop (HT.sIx xs.length 0 lo)).take (HT.sIx xs.length xs.length hi - HT.sIx xs.length 0 lo), IsTup.new _ _⟩
end
end XD
set_option Elab.async false
set_option linter.all false
set_option maxRecDepth 100000
set_option maxHeartbeats 4000000
/-! ### k31: _law_is_in, _law_word -/
namespace Q
open PySem L2 XD
/-- [.. for x in a row] of truths -/
theorem bools31 {K : PySem.W.Frag} {p : Addr} {ys : List V} {ds : List PyData} {t0 : TE} {g : TG} {te : TE} {ws : List Nat} {σ : L2.St} {H : Hp} {Q : VK} (fB : PyData → Bool) (ht : ∀ Q' : VK, Q' (.ref p) H → t0 σ H Q') (hq : SqL K H p ys ∨ SqT K H p ys) (ha : DpAll K H ys ds) (hl : ds.length ≤ 100000)
    (turn : ∀ (x : V) (d : PyData) (H1 : Hp) (R : VK), d ∈ ds → Dp K H1 x d → Same H H1 → (∀ H2, Same H1 H2 → R (.bl (fB d)) H2) → g x (wipe σ ws) H1 fun σ2 H2 => wipe σ2 ws = wipe σ ws ∧ te σ2 H2 R)
    (k : ∀ D H', Same H H' → H' D = some (.lst ((ds.map fB).map V.bl)) → Q (.ref D) H') : tLc (iRow K t0) g tYes te ws σ H Q := by
  have hlen := dps_len ha
  refine lc_row (ys := ys) (fun D i H' => H' D = some (.lst (((ds.take i).map fB).map V.bl)) ∧ Same H H') ht hq (fun D hD => ⟨upd_same, new_same hD _⟩) (fun D i H' hD hP => hP.2) (fun D i x H1 hD hi hP hx => ?_) (fun D H' hD hP => ?_)
  · obtain ⟨d, hd, hdp⟩ := dps_get ha hx
    have big : 100001 < sizeLine := by decide
    simp only [tYes, if_true]
    refine turn x d H1 _ (List.mem_of_getElem? hd) (dp_same hP.2 hdp) hP.2 fun H2 s2 => ⟨_, s2 _ _ hP.1, ?_, ?_, fun b o q => ?_⟩
    · rw [List.length_map, List.length_map, List.length_take]
      omega
    · rw [upd_same, take_one hd, List.map_append, List.map_append]
      rfl
    · rw [upd_ne (ne_of_none q hD)]
      exact s2 _ _ (hP.2 _ _ q)
  · obtain ⟨hL, s1⟩ := hP
    rw [List.take_of_length_le (by omega)] at hL
    exact k D H' s1 hL
theorem ret_opLc31 {r : R2} {a : V} {w : TI} {g : TG} {tt : TT} {te : TE} {vs : List Nat} {D : Ends} {σ : L2.St} {H : Hp} (h : tLc w g tt te vs σ H fun y H2 => r a y H2 D.rt) : tRet (tOp r (tC a) (tLc w g tt te vs)) D σ H := h
theorem bl_flat31 (bs : List Bool) : (bs.map V.bl).all flatV = true := List.all_eq_true.mpr fun x hx => by
  obtain ⟨b, _, rfl⟩ := List.mem_map.mp hx
  rfl
theorem inV_f31 (bs : List Bool) : (!inV (.bl false) (bs.map V.bl)) = bs.all id := by
  induction bs with
  | nil => rfl
  | cons b bs ih =>
    unfold inV at ih ⊢
    rw [List.map_cons, List.any_cons, List.all_cons, Bool.not_or, ih]
    cases b <;> rfl
theorem inV_t31 (bs : List Bool) : (!inV (.bl true) (bs.map V.bl)) = bs.all (!·) := by
  induction bs with
  | nil => rfl
  | cons b bs ih =>
    unfold inV at ih ⊢
    rw [List.map_cons, List.any_cons, List.all_cons, Bool.not_or, ih]
    cases b <;> rfl
theorem op_notK31 {X : Cx} (K : PySem.W.Frag) (h : X.K = K) : OpR X (compareOp .NotIn) (rIn K true) := by
  subst h
  exact op_notIn_seq
def spIsIn31 (K : PySem.W.Frag) : Sp := fun vs H Q _ => ∃ (v u : V) (l row : List Pr), vs = [v, u] ∧ Dp K H v (ruleD l) ∧ Dp K H u (ruleD row) ∧ RStr l ∧ l.length ≤ 1000 ∧ RStr row ∧ ∀ H', Same H H' → Q (.bl (within l row)) H'
def spWord31 (K : PySem.W.Frag) : Sp := fun vs H Q _ => ∃ (v u : V) (os : List Out) (row : List Pr), vs = [v, u] ∧ Dp K H v (outsD os) ∧ Dp K H u (ruleD row) ∧ OStr os ∧ RStr row ∧ ∀ H', Same H H' → Q (.str (wordOf os row)) H'
abbrev nIs31 : List Str := ["lot", "filling", "pair"]
abbrev nLw31 : List Str := ["pairs", "filling", "lot", "word"]
section
variable {P : Program} {w : World} {K : PySem.W.Frag} {mg : Str → Option Value} {base : Heap}
theorem scIs31 : FnScope nIs31 ["lot", "filling"] (defScope sLIsIn) := ⟨rfl, rfl, rfl, by decide +kernel, rfl, by decide +kernel, by decide +kernel⟩
theorem scLw31 : FnScope nLw31 ["pairs", "filling"] (defScope sLWord) := ⟨rfl, rfl, rfl, by decide +kernel, rfl, by decide +kernel, by decide +kernel⟩
theorem ok_isin31 {f : Addr} {fd : FuncData} (F : Fun K "_law_is_in" "_law_is_in" sLIsIn f fd) : FnOk P w K mg base CX0 1 f fd ["lot", "filling"] (spIsIn31 K) := by
  refine F.ok scIs31 (fun vs H Q E h => ?_) (fun cdv A outer s H vs Q E hr h => ?_)
  · obtain ⟨v, u, l, row, rfl, _⟩ := h
    rfl
  have hu2 : (A.deeper (PyProof.Rows.envOfC "_law_is_in" (defScope sLIsIn) s.heap.objs.size f cdv)).units + 65 < cLine := by
    have := hr.un
    omega
  refine ⟨_, pss_one (ps_ret (pe_cmpR (op_notK31 K rfl) pe_bl (pe_lc (own := [("pair", 2)]) (g := gName 2) (tt := tYes) (by rfl) scIs31.nd (pi_row (pv 0)) (blkOk_by (N := nIs31) (sc := defScope sLIsIn) (by decide +kernel)) (fun _ _ _ _ _ => (pg_name (i := 2) scIs31.nd rfl (.inl rfl))) (fun _ _ _ _ _ => pts_nil) (fun _ _ _ _ _ => (pe_cmpR (op_inDT31 K rfl hu2) (pv 2) (pv 1) (by with_unfolding_all rfl)))) (by with_unfolding_all rfl))), ?_⟩
  obtain ⟨v, u, l, row, rfl, hv, hu, hl, ll, hrow, k⟩ := h
  obtain ⟨p, ys, rfl, hp, hys⟩ := dp_tup31 hv
  try simp only [L2.start, gName, List.map_cons, List.map_nil, List.length_cons, List.length_nil, Nat.reduceAdd, Nat.reduceSub, List.replicate_succ, List.replicate_zero, List.cons_append, List.nil_append, List.set_cons_succ, List.set_cons_zero]
  refine ret_opLc31 (bools31 (fun d => (row.map pD).any fun z => PyData.eqv z d) (fun Q' z => ⟨_, rfl, z⟩) (.inr hp) hys (by rw [List.length_map]; omega) (fun y d H2 R hm hy s2 kk => ⟨rfl, ?_⟩) fun D H2 s2 hD => ?_)
  · obtain ⟨e, he, rfl⟩ := List.mem_map.mp hm
    exact ⟨_, rfl, _, rfl, _, _, hy, dp_same s2 hu, pD_shaped (hl e he), rule_shapedL31 hrow, kk H2 (Same.refl _)⟩
  · refine ⟨D, _, rfl, .inl (SqL.of hD), rfl, bl_flat31 _, ?_⟩
    rw [if_pos rfl, inV_f31]
    have ew : ((l.map pD).map fun d => (row.map pD).any fun z => PyData.eqv z d).all id = within l row := by
      rw [List.map_map, List.all_map]
      unfold within
      congr 1
      funext e
      exact any_pD row e
    have ew2 : (((l.map fun e => PyData.tuple [.str e.1, .str e.2]).map fun d => (row.map pD).any fun z => PyData.eqv z d)).all id = within l row := ew
    rw [ew2]
    exact k H2 s2
theorem ok_lword31 {f : Addr} {fd : FuncData} (F : Fun K "_law_word" "_law_word" sLWord f fd) (KI : Kn P w K mg base 1 "_law_is_in" ["lot", "filling"] (spIsIn31 K)) : FnOk P w K mg base CX0 2 f fd ["pairs", "filling"] (spWord31 K) := by
  obtain ⟨fI, fdI, GI, kI, bI, mI⟩ := KI.ex
  refine F.ok scLw31 (fun vs H Q E h => ?_) (fun cdv A outer s H vs Q E hr h => ?_)
  · obtain ⟨v, u, os, row, rfl, _⟩ := h
    rfl
  refine ⟨_, pss_cons (ps_for PassesOwn.never rfl (pi_row (pv 0)) (pg_row rfl (pgs_cons (pg_name (i := 2) scLw31.nd rfl (.inl rfl)) (pgs_cons (pg_name (i := 3) scLw31.nd rfl (.inl rfl)) pgs_nil)))
      (pss_one (ps_if (pt_val (pe_call GI hr (by rfl) mI kI bI .nil pass0 (pa_cons (pv 2) (pa_cons (pv 1) pa_nil)))) (pss_one (ps_ret (pv 3))) pss_nil)))
    (pss_one (ps_ret pe_str)), ?_⟩
  obtain ⟨v, u, os, row, rfl, hv, hu, ho, hrow, k⟩ := h
  obtain ⟨p, ys, rfl, hp, hys⟩ := dp_tup31 hv
  have hyl := dps_len hys
  rw [List.length_map] at hyl
  try simp only [L2.start, gName, List.map_cons, List.map_nil, List.length_cons, List.length_nil, Nat.reduceAdd, Nat.reduceSub, List.replicate_succ, List.replicate_zero, List.cons_append, List.nil_append, List.set_cons_succ, List.set_cons_zero]
  refine for_row (ys := ys) (H0 := H) (fun i σ H' => ∃ f2 f3 : Option V, σ = [some (.ref p), some u, f2, f3] ∧ Same H H' ∧ wordOf os row = wordOf (os.drop i) row) (fun Q' z => ⟨_, rfl, z⟩) (.inr hp) ⟨none, none, rfl, Same.refl _, rfl⟩ (fun i σ H' h => by obtain ⟨_, _, _, s, _⟩ := h; exact s) ?_ ?_
  · rintro i x σ H1 hi ⟨f2, f3, rfl, s1, e1⟩ hx
    have hio : i < os.length := by omega
    obtain ⟨d, hd, hdp⟩ := dps_get hys hx
    rw [List.getElem?_map, List.getElem?_eq_getElem hio] at hd
    cases hd
    have hom := ho _ (List.getElem_mem hio)
    rw [List.drop_eq_getElem_cons hio] at e1
    generalize os[i] = o at hdp hom e1
    obtain ⟨q, a, b, rfl, hq, ha, hb⟩ := dp_two31 (dp_same s1 hdp)
    cases hb
    refine .inl ⟨q, _, rfl, hq, rfl, a, _, rfl, .str o.2, [], rfl, rfl, ?_⟩
    try simp only [gName, List.set_cons_succ, List.set_cons_zero]
    refine ⟨_, rfl, _, rfl, a, u, o.1, row, rfl, ha, dp_same s1 hu, hom.1, hom.2, hrow, fun H2 s2 => ⟨_, rfl, ?_⟩⟩
    cases c : within o.1 row with
    | true =>
      refine iteT ⟨_, rfl, ?_⟩
      have e2 : wordOf (o :: os.drop (i + 1)) row = o.2 := if_pos c
      rw [← e2, ← e1]
      exact k H2 (s1.trans s2)
    | false =>
      refine iteF ?_
      have e2 : wordOf (o :: os.drop (i + 1)) row = wordOf (os.drop (i + 1)) row := if_neg (by rw [c]; decide)
      exact ⟨_, _, rfl, s1.trans s2, e1.trans e2⟩
  · rintro σ H1 ⟨f2, f3, rfl, s1, e1⟩
    rw [hyl, List.drop_length] at e1
    have k := k H1 s1
    rw [e1] at k
    exact k
end
end Q
set_option Elab.async false
set_option linter.all false
set_option maxRecDepth 100000
set_option maxHeartbeats 4000000
/-! ### k31: _law_all -/
namespace Q
open PySem L2 XD
theorem pi_rowK31 {X : Cx} {tg e : Expr} {te : TE} (K : PySem.W.Frag) (h : X.K = K) (he : PE X e te) : PI X tg e (iRow K te) := by
  subst h
  exact pi_row he
/-- a row of pairs, a tuple that is kept -/
def ZRow31 (K : PySem.W.Frag) (R : Hp) (v : V) (row : List Pr) : Prop := ∃ q zs, v = .ref q ∧ SqZ R q zs ∧ DpAll K R zs (row.map pD)
theorem ZRow31.same {K : PySem.W.Frag} {R R' : Hp} {v : V} {row : List Pr} (s : Same R R') (h : ZRow31 K R v row) : ZRow31 K R' v row := by
  obtain ⟨q, zs, e, a, b⟩ := h
  exact ⟨q, zs, e, a.same s, dps_same s b⟩
theorem ZRow31.dp {K : PySem.W.Frag} {R : Hp} {v : V} {row : List Pr} (h : ZRow31 K R v row) : Dp K R v (ruleD row) := by
  obtain ⟨q, zs, rfl, a, b⟩ := h
  exact .tup a.sqT b
theorem ZRow31.fz {K : PySem.W.Frag} {R : Hp} {v : V} {row : List Pr} (h : ZRow31 K R v row) : FaZ K R v (ruleD row) := by
  obtain ⟨q, zs, rfl, a, b⟩ := h
  exact ⟨q, zs, _, rfl, .inr a, rfl, b⟩
theorem noL_pairs31 : ∀ row : List Pr, noLs24 (row.map pD) = true
  | [] => by rw [List.map_nil, noLs24]
  | e :: row => by
    rw [List.map_cons, noLs24, noL_pairs31 row, noL24, noLs24, noLs24, noLs24, noL24, noL24] <;> rfl
theorem ZRow31.put {K : PySem.W.Frag} {R : Hp} {v : V} {row : List Pr} {D : Addr} {acc : List V} {o : HO} (h : ZRow31 K R v row) (hD : R D = some (.lst acc)) : ZRow31 K (L2.upd R D o) v row := by
  obtain ⟨q, zs, e, ⟨oq, hq, hn⟩, b⟩ := h
  have nq : q ≠ D := fun z => by
    rw [z, hD] at hq
    cases hq
  refine ⟨q, zs, e, ⟨oq, by rw [upd_ne nq]; exact hq, hn⟩, ?_⟩
  have g := dps_nl24 hD b (noL_pairs31 row)
  have g2 : DpAll K (rmL [D] (L2.upd R D o)) zs (row.map pD) := by
    rw [rm_put (List.mem_singleton.mpr rfl)]
    exact g
  exact dps_same rm_le g2
theorem prd_app31 {α β : Type} {T : α → β → Prop} : ∀ {xs : List α} {ys : List β} {zs : List α} {ws : List β}, Paired T xs ys → Paired T zs ws → Paired T (xs ++ zs) (ys ++ ws)
  | _, _, _, _, .nil, h => h
  | _, _, _, _, .cons a r, h => .cons a (prd_app31 r h)
/-- the law's own fillings -/
def free31 (bans : List (List Pr)) (row : List Pr) : Bool := bans.all fun l => !within l row
def lawAll (t : Tbl) (bans : List (List Pr)) : List (List Pr) := (chs t).filter (free31 bans)
/-- the law's book -/
def Book31 (K : PySem.W.Frag) (H : Hp) (B : Addr) (t : Tbl) (bans : List (List Pr)) : Prop := ∃ kvs vp vb, H B = some (.dK kvs) ∧ valV kvs (.inr "parts") = some vp ∧ valV kvs (.inr "bans") = some vb ∧ Dp K H vp (tabD t) ∧ Dp K H vb (rulesD bans)
theorem Book31.same {K : PySem.W.Frag} {H H' : Hp} {B : Addr} {t : Tbl} {bans : List (List Pr)} (s : Same H H') (h : Book31 K H B t bans) : Book31 K H' B t bans := by
  obtain ⟨kvs, vp, vb, a, b, c, d, e⟩ := h
  exact ⟨kvs, vp, vb, s _ _ a, b, c, dp_same s d, dp_same s e⟩
theorem asg_opLc31 {r : R2} {a : V} {j i : Nat} {w : TI} {g : TG} {tt : TT} {te : TE} {vs : List Nat} {D : Ends} {σ : L2.St} {H : Hp} (e : σ[j]? = some (some a)) (h : tLc w g tt te vs σ H fun y H2 => r a y H2 fun v H3 => D.nx (σ.set i (some v)) H3) : tAsg (tOp r (tVar j) (tLc w g tt te vs)) (gName i) D σ H := ⟨a, e, h⟩
theorem chs_rl31 : ∀ (t : Tbl) (rows : List (List Pr)) (m : Nat), (∀ r ∈ rows, r.length ≤ m) → ∀ r ∈ t.foldl wider rows, r.length ≤ m + t.length
  | [], rows, m, h => fun r hr => Nat.le_trans (h r hr) (Nat.le_add_right _ _)
  | e :: t, rows, m, h => fun r hr => by
    have := chs_rl31 t (wider rows e) (m + 1) (fun r hr => by
      obtain ⟨x, hx, h2⟩ := List.mem_flatMap.mp hr
      obtain ⟨v, hv, rfl⟩ := List.mem_map.mp h2
      rw [List.length_append, List.length_singleton]
      have := h x hx
      omega) r hr
    rw [List.length_cons]
    omega
theorem fact_pD31 (e : Pr) : factOf (pD e) = e := rfl
theorem facts_ruleD31 (l : List Pr) : factsOf (ruleD l) = l := by
  unfold factsOf
  show (l.map pD).map factOf = l
  rw [List.map_map]
  exact List.map_id l
theorem test_opLc31 {r : R2} {a : V} {w : TI} {g : TG} {tt : TT} {te : TE} {vs : List Nat} {σ : L2.St} {H : Hp} {R : Bool → Hp → Prop} (h : tLc w g tt te vs σ H fun y H2 => r a y H2 fun v H3 => ∃ b, v = .bl b ∧ R b H3) : tTest (tOp r (tC a) (tLc w g tt te vs)) σ H R := h
def spAll31 (K : PySem.W.Frag) : Sp := fun vs H Q _ => ∃ (B : Addr) (t : Tbl) (bans : List (List Pr)), vs = [.ref B] ∧ Book31 K H B t bans ∧ Vals31 t ∧ t.length ≤ 900 ∧ TStr t ∧ waysFrom 1 t ≤ 1000 ∧ (∀ l ∈ bans, RStr l ∧ l.length ≤ 1000) ∧ bans.length ≤ 1000 ∧
  ∀ L us H', Same H H' → H L = none → H' L = some (.lst us) → Paired (ZRow31 K H') us (lawAll t bans) → Q (.ref L) H'
abbrev nAl31 : List Str := ["book", "rows", "name", "values", "longer", "row", "value", "ban"]
abbrev scInn31 : Scope := { kind := .function, names := [(".0", .local), ("row", .cell), ("book", .cell)], isGenerator := false, isCoroutine := false }
section
variable {P : Program} {w : World} {K : PySem.W.Frag} {mg : Str → Option Value} {base : Heap}
theorem scAl31 : FnScope nAl31 ["book"] (defScope sLAll) := ⟨rfl, rfl, rfl, by decide +kernel, rfl, by decide +kernel, by decide +kernel⟩
theorem ok_all31 {f : Addr} {fd : FuncData} (F : Fun K "_law_all" "_law_all" sLAll f fd) (KI : Kn P w K mg base 1 "_law_is_in" ["lot", "filling"] (spIsIn31 K)) : FnOk P w K mg base CX0 2 f fd ["book"] (spAll31 K) := by
  obtain ⟨fI, fdI, GI, kI, bI, mI⟩ := KI.ex
  refine F.ok scAl31 (fun vs H Q E h => ?_) (fun cdv A outer s H vs Q E hr h => ?_)
  · obtain ⟨B, t, bans, rfl, _⟩ := h
    rfl
  have hu1 : (A.deeper (PyProof.Rows.envOfC "_law_all" (defScope sLAll) s.heap.objs.size f cdv)).units + 1 < cLine := by
    have := hr.un
    omega
  refine ⟨_, pss_cons (ps_set (i := 1) scAl31.nd rfl (.inl rfl) (pe_lst (pa_cons (pe_tupZ pa_nil) pa_nil)))
    (pss_cons (ps_for PassesOwn.never rfl (pi_row (pe_dget hu1 (pv 0) pe_str (fun _ _ => rfl))) (pg_row rfl (pgs_cons (pg_name (i := 2) scAl31.nd rfl (.inr rfl)) (pgs_cons (pg_name (i := 3) scAl31.nd rfl (.inl rfl)) pgs_nil)))
      (pss_cons (ps_set (i := 4) scAl31.nd rfl (.inl rfl) (pe_lst pa_nil))
    (pss_cons (ps_for PassesOwn.never rfl (pi_row (pv 1)) (pg_name (i := 5) scAl31.nd rfl (.inr rfl))
      (pss_one (ps_set (i := 4) scAl31.nd rfl (.inl rfl) (pe_op op_cat (pv 4) (pe_lc (own := [("value", 6)]) (g := gName 6) (tt := tYes) (by rfl) scAl31.nd (pi_row (pv 3)) (blkOk_by (N := nAl31) (sc := defScope sLAll) (by decide +kernel)) (fun _ _ _ _ _ => (pg_name (i := 6) scAl31.nd rfl (.inl rfl))) (fun _ _ _ _ _ => pts_nil) (fun _ _ _ _ _ => (pe_op (op_catZ K rfl) (pv 5) (pe_tupZ (pa_cons (pe_tupZ (pa_cons (pv 2) (pa_cons (pv 6) pa_nil))) pa_nil)))))))))
    (pss_one (ps_set (i := 1) scAl31.nd rfl (.inl rfl) (pv 4))))))
    (pss_one (ps_ret (pe_lc (own := [("row", 5)]) (g := gName 5) (by rfl) scAl31.nd (pi_row (pv 1)) (blkOk_by (N := nAl31) (sc := defScope sLAll) (by decide +kernel)) (fun _ _ _ _ _ => (pg_name (i := 5) scAl31.nd rfl (.inr rfl))) (fun _ _ _ _ _ => (pts_one (pt_cmpR (op_notK31 K rfl) pe_bl (pe_lc (own := [("ban", 7)]) (g := gName 7) (tt := tYes) (by rfl) scAl31.nd (pi_rowK31 K rfl (pe_dget hu1 (pv 0) pe_str (fun _ _ => rfl))) (blkOk_by (N := nAl31) (sc := scInn31) (by decide +kernel)) (fun _ _ _ _ _ => (pg_name (i := 7) scAl31.nd rfl (.inl rfl))) (fun _ _ _ _ _ => pts_nil) (fun _ _ _ _ _ => (pe_call GI hr (by rfl) mI kI bI .nil pass0 (pa_cons (pv 7) (pa_cons (pv 5) pa_nil))))) (by with_unfolding_all rfl)))) (fun _ _ _ _ _ => (pv 5)))))), ?_⟩
  obtain ⟨B, t, bans, rfl, hB, vt, lt, ts, wt, hb, lb, k⟩ := h
  try simp only [L2.start, gName, List.map_cons, List.map_nil, List.length_cons, List.length_nil, Nat.reduceAdd, Nat.reduceSub, List.replicate_succ, List.replicate_zero, List.cons_append, List.nil_append, List.set_cons_succ, List.set_cons_zero]
  obtain ⟨kvs, vp, vb, hB1, hB2, hB3, hP, hBn⟩ := hB
  refine ⟨by show 0 ≤ sizeLine; decide, fun z o hz ho => ⟨by show 1 ≤ sizeLine; decide, fun L hL => ?_⟩⟩
  have s1 := new_same hz (.frz o (.tup []))
  have hz1 := upd_same (H := H) (a := z) (o := .frz o (.tup []))
  have hL0 : H L = none := by
    cases c : H L with
    | none => rfl
    | some u =>
      rw [s1 _ _ c] at hL
      cases hL
  have hL1 : ∀ x u, H x = some u → x ≠ L := fun x u e => ne_of_none e hL0
  generalize L2.upd H z (.frz o (.tup [])) = H1 at hL s1 hz1
  have s2 := s1.trans (new_same hL (.lst [.ref z]))
  have hL2 := upd_same (H := H1) (a := L) (o := .lst [.ref z])
  have hz2 := new_same hL (.lst [.ref z]) _ _ hz1
  have pz : Paired (ZRow31 K (L2.upd H1 L (.lst [.ref z]))) [.ref z] ((t.take 0).foldl wider [[]]) := .cons ⟨z, [], rfl, ⟨o, hz2, ho⟩, .nil⟩ .nil
  generalize L2.upd H1 L (.lst [.ref z]) = H2 at s2 hL2 pz
  clear hz1 hz2 hL s1
  try simp only [gName, List.set_cons_succ, List.set_cons_zero]
  obtain ⟨q, pys, rfl, hq, hpys⟩ := dp_tup31 hP
  have lpy := dps_len hpys
  rw [List.length_map] at lpy
  have gP : DGet H2 B (.str "parts") (some (.ref q)) := by
    rw [← hB2]
    exact DGet.k (k := .inr "parts") (s2 _ _ hB1)
  refine seq_for ?_
  refine for_row (ys := pys) (H0 := H2) (fun i σ H' => ∃ (f2 f3 f4 f5 : Option V) (L : Addr) (us : List V), σ = [some (.ref B), some (.ref L), f2, f3, f4, f5, none, none] ∧ H' L = some (.lst us) ∧ H L = none ∧ Paired (ZRow31 K H') us ((t.take i).foldl wider [[]]) ∧ Same H2 H')
    (fun Q' z => ⟨_, rfl, B, _, rfl, gP, z⟩) (.inr (seqT_same s2 hq)) ⟨none, none, none, none, L, _, rfl, hL2, hL0, pz, Same.refl _⟩ (fun i σ H' h => by obtain ⟨_, _, _, _, _, _, _, _, _, _, s⟩ := h; exact s) ?_ ?_
  · clear pz hL2 hL0 hL1 z hz L H1
    rintro i x σ H3 hi ⟨f2, f3, f4, f5, L, us, rfl, hL, hL0, pz, s3⟩ hx
    have s03 := s2.trans s3
    obtain ⟨d, he, hx'⟩ := dps_get hpys hx
    rw [List.getElem?_map] at he
    obtain ⟨e, et, rfl⟩ := Option.map_eq_some_iff.mp he
    obtain ⟨n, ws⟩ := e
    obtain ⟨ev, vn, vv, rfl, hev, hvn, hvv⟩ := dp_two31 (dp_same s03 hx')
    cases hvn
    obtain ⟨q2, wvs, rfl, hq2, hws⟩ := dp_tup31 hvv
    have ew := dps_str hws
    subst ew
    clear he hx hx'
    have rl : (t.take (i + 1)).foldl wider [[]] = wider ((t.take i).foldl wider [[]]) (n, ws) := by rw [take_one et, List.foldl_append] <;> rfl
    have wl : ((t.take (i + 1)).foldl wider [[]]).length ≤ 1000 := by
      rw [chs_len]
      exact Nat.le_trans (ways_take t 1 (i + 1) fun e he => (vt e he).1) wt
    rw [rl] at wl ⊢
    have lws := (vt _ (List.mem_of_getElem? et)).2
    have rlen : ∀ row ∈ (t.take i).foldl wider [[]], row.length ≤ 900 := fun row hr => by
      have := chs_rl31 (t.take i) [[]] 0 (fun r h => by rw [List.mem_singleton.mp h]; exact Nat.le_refl _) row hr
      have l2 := List.length_take_le i t
      have l3 := List.length_take_le' i t
      omega
    generalize (t.take i).foldl wider [[]] = rows at pz wl rlen
    clear rl
    have lus := prd_len pz
    refine .inl ⟨ev, _, rfl, hev, rfl, .str n, _, rfl, .ref q2, [], rfl, rfl, ?_⟩
    try simp only [gName, List.set_cons_succ, List.set_cons_zero]
    refine ⟨by show 0 ≤ sizeLine; decide, fun M hM => ?_⟩
    have s4 := new_same hM (.lst [])
    have hM4 := upd_same (H := H3) (a := M) (o := .lst [])
    have hM0 : H M = none := by
      cases c : H M with
      | none => rfl
      | some u =>
        rw [s03 _ _ c] at hM
        cases hM
    have hL4 := s4 _ _ hL
    have hq4 := seqT_same s4 hq2
    have pz4 : Paired (ZRow31 K (L2.upd H3 M (.lst []))) us rows := prd_imp (fun _ _ h => h.same s4) pz
    generalize L2.upd H3 M (.lst []) = H4 at s4 hM4 hL4 hq4 pz4
    clear hM pz hL hvv hws hq2 hev
    have s34 := s3.trans s4
    try simp only [gName, List.set_cons_succ, List.set_cons_zero]
    refine seq_for ?_
    refine for_row (ys := us) (H0 := H4) (fun j σ H' => ∃ (f5 : Option V) (M : Addr) (vs : List V), σ = [some (.ref B), some (.ref L), some (.str n), some (.ref q2), some (.ref M), f5, none, none] ∧ H' M = some (.lst vs) ∧ H M = none ∧ Paired (ZRow31 K H') vs (wider (rows.take j) (n, ws)) ∧ Same H4 H')
      (fun Q' z => ⟨_, rfl, z⟩) (.inl (SqL.of hL4)) ⟨_, M, _, rfl, hM4, hM0, .nil, Same.refl _⟩ (fun j σ H' h => by obtain ⟨_, _, _, _, _, _, _, s⟩ := h; exact s) ?_ ?_
    · clear hM4 hM0 M
      rintro j y σ H5 hj ⟨f5, M, vs, rfl, hM, hM0, pv, s5⟩ hy
      obtain ⟨row, hrow, hyr⟩ := prd_at pz4 hy
      obtain ⟨qr, zs, rfl, hqr, hzs⟩ := hyr.same s5
      have wj : wider (rows.take (j + 1)) (n, ws) = wider (rows.take j) (n, ws) ++ ws.map fun v => row ++ [(n, v)] := by
        unfold wider
        rw [take_one hrow, List.flatMap_append, List.flatMap_cons, List.flatMap_nil, List.append_nil]
      have wlj : (wider (rows.take (j + 1)) (n, ws)).length ≤ 1000 := by
        refine Nat.le_trans ?_ wl
        unfold wider
        conv => rhs; rw [← List.take_append_drop (j + 1) rows]
        rw [List.flatMap_append, List.length_append]
        exact Nat.le_add_right _ _
      rw [wj] at wlj ⊢
      rw [List.length_append, List.length_map] at wlj
      have lv := prd_len pv
      try simp only [gName, List.set_cons_succ, List.set_cons_zero]
      refine asg_opLc31 (a := .ref M) rfl ?_
      refine lc_row (ys := ws.map V.str) (fun D k H' => ∃ cs, H' D = some (.lst cs) ∧ Paired (ZRow31 K H') cs ((ws.take k).map fun v => row ++ [(n, v)]) ∧ Same H5 H') (fun Q' z => ⟨_, rfl, z⟩) (.inr (seqT_same s5 hq4)) (fun D hD => ⟨[], upd_same, .nil, new_same hD _⟩) (fun D k H' _ hP => by obtain ⟨_, _, _, z⟩ := hP; exact z) (fun D k x H6 hD hk hP hx => ?_) (fun D H6 hD hP => ?_)
      · obtain ⟨cs, hc, pc, s6⟩ := hP
        rw [List.getElem?_map] at hx
        obtain ⟨wd, hw, rfl⟩ := Option.map_eq_some_iff.mp hx
        have lc := prd_len pc
        rw [List.length_map, List.length_take] at lc
        rw [List.length_map] at hk
        have hqr6 := hqr.same s6
        have hzs6 := dps_same s6 hzs
        refine ⟨rfl, ?_⟩
        unfold tYes
        refine iteT ⟨_, rfl, _, rfl, _, rfl, by show 2 ≤ sizeLine; decide, fun z1 o1 hz1 ho1 => ⟨by show 1 ≤ sizeLine; decide, fun z2 o2 hz2 ho2 => ?_⟩⟩
        have t1 := new_same hz1 (.frz o1 (.tup [V.str n, V.str wd]))
        have a1 := upd_same (H := H6) (a := z1) (o := .frz o1 (.tup [V.str n, V.str wd]))
        generalize L2.upd H6 z1 (.frz o1 (.tup [V.str n, V.str wd])) = H7 at t1 a1 hz2
        have t2 := new_same hz2 (.frz o2 (.tup [V.ref z1]))
        have a2 := upd_same (H := H7) (a := z2) (o := .frz o2 (.tup [V.ref z1]))
        have a12 := t2 _ _ a1
        generalize L2.upd H7 z2 (.frz o2 (.tup [V.ref z1])) = H8 at t2 a2 a12
        have t12 := t1.trans t2
        have dz1 : Dp K H8 (.ref z1) (pD (n, wd)) := .tup (.inl (.inr ⟨o1, a12⟩)) (.cons (.str _) (.cons (.str _) .nil))
        have lzr := dps_len hzs6
        have fin : ∀ (v : V) (H9 : Hp), Same H8 H9 → ZRow31 K H9 v (row ++ [(n, wd)]) → ∃ acc, H9 D = some (.lst acc) ∧ acc.length < sizeLine ∧ (∃ cs, L2.upd H9 D (.lst (acc ++ [v])) D = some (.lst cs) ∧ Paired (ZRow31 K (L2.upd H9 D (.lst (acc ++ [v])))) cs ((ws.take (k + 1)).map fun v => row ++ [(n, v)]) ∧ Same H5 (L2.upd H9 D (.lst (acc ++ [v])))) := fun v H9 t9 hv => by
          have hD9 := (t12.trans t9) _ _ hc
          refine ⟨cs, hD9, small1000 (by omega), cs ++ [v], upd_same, ?_, fun x u ex => ?_⟩
          · rw [take_one hw, List.map_append]
            exact prd_snoc (prd_imp (fun _ _ h => (h.same (t12.trans t9)).put hD9) pc) (hv.put hD9)
          · rw [upd_ne (ne_of_none ex hD)]
            exact t9 _ _ (t12 _ _ (s6 _ _ ex))
        refine ⟨qr, z2, zs, [V.ref z1], rfl, rfl, (hqr6.same t12).sqT, .inl (.inr ⟨o2, a2⟩), ?_, fun e => ?_, (fun _ e => by cases e), fun ne _ p o hp ho => ?_⟩
        · have : zs.length < sizeLine := small1000 (by rw [lzr, List.length_map]; have := rlen row (List.mem_of_getElem? hrow); omega)
          show zs.length + 1 ≤ sizeLine
          omega
        · refine fin _ H8 (Same.refl _) ⟨z2, [V.ref z1], rfl, ⟨o2, a2, ho2⟩, ?_⟩
          have er : row = [] := by
            cases row with
            | nil => rfl
            | cons p r =>
              rw [e] at hzs
              cases hzs
          rw [er]
          exact .cons dz1 .nil
        · have t3 := new_same hp (.frz o (.tup (zs ++ [V.ref z1])))
          refine fin _ _ t3 ⟨p, _, rfl, ⟨o, upd_same, ho⟩, ?_⟩
          rw [List.map_append]
          exact dps_app (dps_same (t12.trans t3) hzs6) (.cons (dp_same t3 dz1) .nil)
      · obtain ⟨cs, hc, pc, s6⟩ := hP
        rw [List.length_map, List.take_length] at pc
        have lc := prd_len pc
        rw [List.length_map] at lc
        have hM6 := s6 _ _ hM
        have big : 1001 < sizeLine := by decide
        refine ⟨M, D, vs, cs, rfl, rfl, hM6, hc, by omega, fun p hp => ?_⟩
        have s7 := new_same hp (.lst (vs ++ cs))
        refine ⟨_, p, vs ++ cs, rfl, upd_same, ?_, ?_, s5.trans (s6.trans s7)⟩
        · cases c : H p with
          | none => rfl
          | some u =>
            rw [(s03.trans (s4.trans (s5.trans s6))) _ _ c] at hp
            cases hp
        · exact prd_app31 (prd_imp (fun _ _ h => h.same (s6.trans s7)) pv) (prd_imp (fun _ _ h => h.same s7) pc)
    · rintro σ H5 ⟨f5, M, vs, rfl, hM, hM0, pv, s5⟩
      rw [lus, List.take_length] at pv
      refine ⟨_, rfl, _, _, _, _, M, vs, rfl, hM, hM0, pv, s34.trans s5⟩
  · rintro σ H3 ⟨f2, f3, f4, f5, L, us, rfl, hL, hL0, pz, s3⟩
    rw [lpy, List.take_length] at pz
    have s03 := s2.trans s3
    have lus := prd_len pz
    have l1000 : (chs t).length ≤ 1000 := by
      have e : (chs t).length = waysFrom 1 t := chs_len t [[]]
      rw [e]
      exact wt
    have pz : Paired (ZRow31 K H3) us (chs t) := pz
    have cstr := chs_str ts
    unfold lawAll at k
    generalize chs t = rows at pz l1000 cstr k
    have lus := prd_len pz
    obtain ⟨qb, bvs, rfl, hqb, hbvs⟩ := dp_tup31 hBn
    have gB : ∀ H', Same H3 H' → DGet H' B (.str "bans") (some (.ref qb)) := fun H' s => by
      rw [← hB3]
      exact DGet.k (k := .inr "bans") (s _ _ (s03 _ _ hB1))
    refine lc_row (ys := us) (fun D i H' => ∃ cs, H' D = some (.lst cs) ∧ Paired (ZRow31 K H') cs ((rows.take i).filter (free31 bans)) ∧ Same H3 H') (fun Q' z => ⟨_, rfl, z⟩) (.inl (SqL.of hL)) (fun D hD => ⟨[], upd_same, .nil, new_same hD _⟩) (fun D i H' _ hP => by obtain ⟨_, _, _, z⟩ := hP; exact z) (fun D i x H4 hD hi hP hx => ?_) (fun D H4 hD hP => ?_)
    · obtain ⟨cs, hc, pc, s4⟩ := hP
      obtain ⟨row, hrow, hxr⟩ := prd_at pz hx
      have lc := prd_len pc
      have lf := List.length_filter_le (free31 bans) (rows.take i)
      rw [List.length_take] at lf
      have hx4 := hxr.same s4
      refine ⟨rfl, ?_⟩
      refine test_opLc31 (bools31 (fun d => within (factsOf d) row) (fun Q' z => ⟨_, rfl, B, _, rfl, gB H4 s4, z⟩) (.inr (seqT_same (s03.trans s4) hqb)) (dps_same (s03.trans s4) hbvs) (by rw [List.length_map]; omega) (fun y d H5 R hm hy s5 kk => ⟨rfl, ?_⟩) fun E2 H5 s5 hE => ?_)
      · obtain ⟨l, hl, rfl⟩ := List.mem_map.mp hm
        have hl2 := hb l hl
        refine ⟨_, rfl, _, rfl, _, _, l, row, rfl, hy, (hx4.same s5).dp, hl2.1, hl2.2, cstr row (List.mem_of_getElem? hrow), fun H6 s6 => ?_⟩
        have kk : R (.bl (within (factsOf (ruleD l)) row)) H6 := kk H6 s6
        rw [facts_ruleD31] at kk
        exact kk
      · refine ⟨E2, _, rfl, .inl (SqL.of hE), rfl, bl_flat31 _, _, rfl, ?_⟩
        rw [if_pos rfl, inV_t31]
        have ef : (((bans.map ruleD).map fun d => within (factsOf d) row).all (!·)) = free31 bans row := by
          rw [List.map_map, List.all_map]
          unfold free31
          refine congrArg (fun f => bans.all f) (funext fun l => ?_)
          show (!within (factsOf (ruleD l)) row) = _
          rw [facts_ruleD31]
        rw [ef, take_one hrow, List.filter_append]
        have hD5 := s5 _ _ hc
        cases c : free31 bans row with
        | true =>
          refine iteT ⟨_, rfl, cs, hD5, small1000 (by omega), cs ++ [x], upd_same, ?_, fun z u ez => ?_⟩
          · rw [List.filter_cons_of_pos c, List.filter_nil]
            exact prd_snoc (prd_imp (fun _ _ h => (h.same s5).put hD5) pc) ((hx4.same s5).put hD5)
          · rw [upd_ne (ne_of_none ez hD)]
            exact s5 _ _ (s4 _ _ ez)
        | false =>
          refine iteF ⟨cs, hD5, ?_, s4.trans s5⟩
          rw [List.filter_cons_of_neg (by rw [c]; decide), List.filter_nil, List.append_nil]
          exact prd_imp (fun _ _ h => h.same s5) pc
    · obtain ⟨cs, hc, pc, s4⟩ := hP
      rw [lus, List.take_length] at pc
      refine k D cs H4 (s03.trans s4) ?_ hc pc
      cases c : H D with
      | none => rfl
      | some u =>
        rw [s03 _ _ c] at hD
        cases hD
end
end Q
set_option Elab.async false
set_option linter.all false
set_option maxRecDepth 100000
set_option maxHeartbeats 4000000
/-! ### outcomes, what they are -/
namespace Q
open PySem L2 XD
def isOut (t : Tbl) (p : PyData) : Bool := match pairOf p with
  | some (a, b) => areFacts t a && isWord b
  | none => false
def isOuts (t : Tbl) (d : PyData) : Bool := match rowOf d with
  | some ps => decide (ps.length ≤ 30) && ps.all (isOut t)
  | none => false
def outOf (p : PyData) : Out := match pairOf p with
  | some (a, .str w) => (factsOf a, w)
  | _ => ([], Str.empty)
def outsOf (d : PyData) : List Out := match rowOf d with
  | some ps => ps.map outOf
  | none => []
def OOk (d : PyData) : Prop := ∀ ps, rowOf d = some ps → ∀ p ∈ ps, ∀ a b, pairOf p = some (a, b) → FOk a ∧ Short b
theorem pair_row31 {g a b : PyData} (h : pairOf g = some (a, b)) : rowOf g = some [a, b] := by
  obtain ⟨a', b', e, r⟩ := pair_yes (pair_isPair h)
  rw [h] at e
  cases e
  exact r
theorem tupled_pair31 {f a b : PyData} (h : pairOf f = some (a, b)) : tupled24 f = .tuple [tupled24 a, tupled24 b] := by
  rw [tupled_row24 (pair_row31 h)] <;> rfl
theorem go_tupled31 {t : Tbl} : ∀ {fs : List PyData} {seen : List Str}, goFacts t seen fs = true → fs.map tupled24 = (fs.map factOf).map pD ∧ ∀ f ∈ fs, deep24 1 f = true
  | [], _, _ => ⟨rfl, fun f h => absurd h List.not_mem_nil⟩
  | f :: fs, seen, g => by
    obtain ⟨n, w, ws, e1, e2, e3, e4, e5⟩ := go_cons g
    obtain ⟨i1, i2⟩ := go_tupled31 e5
    have ef : factOf f = (n, w) := by
      unfold factOf
      rw [e1]
    refine ⟨?_, fun x hx => ?_⟩
    · rw [List.map_cons, List.map_cons, List.map_cons, i1, ef, tupled_pair31 e1, tupled_no24 (d := .str n) rfl, tupled_no24 (d := .str w) rfl]
    · rcases List.mem_cons.mp hx with rfl | hx
      · unfold deep24
        rw [pair_row31 e1] <;> rfl
      · exact i2 x hx
theorem facts_tupled31 {t : Tbl} {a : PyData} (h : areFacts t a = true) : tupled24 a = ruleD (factsOf a) := by
  cases er : rowOf a with
  | none =>
    unfold areFacts at h
    rw [er] at h
    cases h
  | some fs =>
    obtain ⟨h1, h2⟩ := facts_go er h
    rw [tupled_row24 er, (go_tupled31 h2).1]
    unfold factsOf
    rw [er] <;> rfl
theorem deep_up31 : ∀ {n : Nat} {d : PyData}, deep24 n d = true → deep24 (n + 1) d = true
  | 0, d, h => by
    unfold deep24
    unfold deep24 at h
    cases e : rowOf d with
    | none => rfl
    | some xs => rw [e] at h; cases h
  | n + 1, d, h => by
    unfold deep24
    unfold deep24 at h
    cases e : rowOf d with
    | none => rfl
    | some xs =>
      rw [e] at h
      have h : (decide (xs.length ≤ 100000) && xs.all (deep24 n)) = true := h
      rw [Bool.and_eq_true] at h
      show (decide (xs.length ≤ 100000) && xs.all (deep24 (n + 1))) = true
      rw [h.1, Bool.true_and]
      exact List.all_eq_true.mpr fun x hx => deep_up31 (List.all_eq_true.mp h.2 x hx)
theorem deep_row31 {n : Nat} {d : PyData} {xs : List PyData} (e : rowOf d = some xs) (hl : xs.length ≤ 100000) (h : ∀ x ∈ xs, deep24 n x = true) : deep24 (n + 1) d = true := by
  unfold deep24
  rw [e]
  show (decide (xs.length ≤ 100000) && xs.all (deep24 n)) = true
  rw [decide_eq_true hl, Bool.true_and]
  exact List.all_eq_true.mpr h
theorem facts_deep31 {t : Tbl} {a : PyData} (h : areFacts t a = true) (ht : t.length ≤ 1000) : deep24 2 a = true := by
  cases er : rowOf a with
  | none =>
    unfold areFacts at h
    rw [er] at h
    cases h
  | some fs =>
    obtain ⟨h1, h2⟩ := facts_go er h
    exact deep_row31 er (by omega) (go_tupled31 h2).2
theorem facts_str31 {t : Tbl} {a : PyData} (h : areFacts t a = true) (hs : TStr t) : RStr (factsOf a) ∧ (factsOf a).length ≤ t.length := by
  cases er : rowOf a with
  | none =>
    unfold areFacts at h
    rw [er] at h
    cases h
  | some fs =>
    obtain ⟨h1, h2⟩ := facts_go er h
    have ef : factsOf a = fs.map factOf := by
      unfold factsOf
      rw [er]
    rw [ef, List.length_map]
    refine ⟨?_, h1⟩
    clear er h1 ef h
    generalize ([] : List Str) = seen at h2
    induction fs generalizing seen with
    | nil => exact fun e he => absurd he List.not_mem_nil
    | cons f fs ih =>
      obtain ⟨n, w, ws, e1, e2, e3, e4, e5⟩ := go_cons h2
      have ef : factOf f = (n, w) := by
        unfold factOf
        rw [e1]
      intro e he
      rw [List.map_cons, ef] at he
      rcases List.mem_cons.mp he with rfl | he
      · exact ⟨(hs _ (look_mem e2)).1, (hs _ (look_mem e2)).2 _ e3⟩
      · exact ih _ e5 e he
theorem out_of31 {t : Tbl} {p : PyData} (h : isOut t p = true) : ∃ (a : PyData) (x : Str), pairOf p = some (a, .str x) ∧ areFacts t a = true ∧ word x = true := by
  unfold isOut at h
  cases e : pairOf p with
  | none =>
    rw [e] at h
    cases h
  | some ab =>
    obtain ⟨a, b⟩ := ab
    rw [e] at h
    have h : (areFacts t a && isWord b) = true := h
    rw [Bool.and_eq_true] at h
    cases b with
    | str x => exact ⟨a, x, rfl, h.1, h.2⟩
    | _ => cases h.2
theorem outs_row31 {t : Tbl} {d : PyData} (h : isOuts t d = true) : ∃ ps, rowOf d = some ps ∧ ps.length ≤ 30 ∧ ∀ p ∈ ps, isOut t p = true := by
  unfold isOuts at h
  cases e : rowOf d with
  | none =>
    rw [e] at h
    cases h
  | some ps =>
    rw [e] at h
    have h : (decide (ps.length ≤ 30) && ps.all (isOut t)) = true := h
    rw [Bool.and_eq_true] at h
    exact ⟨ps, rfl, of_decide_eq_true h.1, List.all_eq_true.mp h.2⟩
theorem outs_tupled31 {t : Tbl} {d : PyData} (h : isOuts t d = true) : tupled24 d = outsD (outsOf d) := by
  obtain ⟨ps, e, hl, hp⟩ := outs_row31 h
  rw [tupled_row24 e]
  unfold outsOf outsD
  rw [e]
  show _ = PyData.tuple ((ps.map outOf).map outD)
  rw [List.map_map]
  congr 1
  refine List.map_congr_left fun p hm => ?_
  obtain ⟨a, x, e1, e2, e3⟩ := out_of31 (hp p hm)
  have eo : outOf p = (factsOf a, x) := by
    unfold outOf
    rw [e1]
  rw [tupled_pair31 e1, facts_tupled31 e2, tupled_no24 (d := .str x) rfl, Function.comp_apply, eo] <;> rfl
theorem outs_deep31 {t : Tbl} {d : PyData} (h : isOuts t d = true) (ht : t.length ≤ 1000) : deep24 4 d = true := by
  obtain ⟨ps, e, hl, hp⟩ := outs_row31 h
  refine deep_row31 e (by omega) fun p hm => ?_
  obtain ⟨a, x, e1, e2, e3⟩ := out_of31 (hp p hm)
  refine deep_row31 (pair_row31 e1) (Nat.le_of_ble_eq_true rfl) fun y hy => ?_
  rcases List.mem_cons.mp hy with rfl | hy
  · exact facts_deep31 e2 ht
  · rw [List.mem_singleton.mp hy] <;> rfl
theorem outs_str31 {t : Tbl} {d : PyData} (h : isOuts t d = true) (hs : TStr t) (ht : t.length ≤ 1000) : OStr (outsOf d) := by
  obtain ⟨ps, e, hl, hp⟩ := outs_row31 h
  unfold outsOf
  rw [e]
  intro o ho
  obtain ⟨p, hm, rfl⟩ := List.mem_map.mp ho
  obtain ⟨a, x, e1, e2, e3⟩ := out_of31 (hp p hm)
  have eo : outOf p = (factsOf a, x) := by
    unfold outOf
    rw [e1]
  obtain ⟨g1, g2⟩ := facts_str31 e2 hs
  rw [eo]
  exact ⟨g1, Nat.le_trans g2 ht⟩
end Q
set_option Elab.async false
set_option linter.all false
set_option maxRecDepth 100000
set_option maxHeartbeats 4000000
/-! ### check_outcomes -/
namespace Q
open PySem L2 XD
def bad31 (CV : Addr) (i : Int) (H : Hp) (E : XK) : Prop := ∀ dd H', Same H H' → H' dd = none → E (.ref CV) (some dd) (L2.upd H' dd (.xd [("at", .int i)]))
def spCheckO (K : PySem.W.Frag) (C CV : Addr) : Sp := fun vs H Q E => ∃ (x pf pr : Addr) (t : Tbl) (v : V) (d : PyData), vs = [.ref x, v] ∧ FormAt C H x pf pr ∧ TabAt K H pf t ∧ Dp K H v d ∧ OOk d ∧ (∀ ds, rowOf d = some ds → ds.length ≤ 100000) ∧ (isOuts t d = false → bad31 CV 1 H E) ∧ (isOuts t d = true → ∀ H', Same H H' → Q .non H')
abbrev nCo31 : List Str := ["form", "outcomes", "pair"]
section
variable {P : Program} {w : World} {K : PySem.W.Frag} {mg : Str → Option Value} {base : Heap}
theorem scCo31 : FnScope nCo31 ["form", "outcomes"] (defScope sCheckOutcomes) := ⟨rfl, rfl, rfl, by decide +kernel, rfl, by decide +kernel, by decide +kernel⟩
theorem ok_checkO {f C CV : Addr} {fd : FuncData} (F : Fun K "check_outcomes" "check_outcomes" sCheckOutcomes f fd) (T : Bb mg) (Z : Fk P w K mg base C) (R : Bv K mg CV) (mo : ∃ t, mg "MOST_OUTCOMES" = some (.int 30 t))
    (KR : Kn P w K mg base 1 "is_row" ["thing"] (spIsRow K)) (KP : Kn P w K mg base 2 "is_pair" ["thing"] (spIsPair K)) (KW : Kn P w K mg base 2 "is_word" ["thing"] (spIsWord K)) (KA : Kn P w K mg base 3 "are_facts" ["fields", "facts"] (spAreFacts K)) : FnOk P w K mg base (L2N.CX P w) 4 f fd ["form", "outcomes"] (spCheckO K C CV) := by
  obtain ⟨fR, fdR, GR, kR, bR, mR⟩ := KR.ex
  obtain ⟨fP, fdP, GP, kP, bP, mP⟩ := KP.ex
  obtain ⟨fW, fdW, GW, kW, bW, mW⟩ := KW.ex
  obtain ⟨fA, fdA, GA, kA, bA, mA⟩ := KA.ex
  obtain ⟨fG, fdG, GG, bG, mG⟩ := Z.gf
  obtain ⟨fIv, qv, XV⟩ := R.v
  obtain ⟨tO, m_MOST_OUTCOMES⟩ := mo
  refine Fun_okN F scCo31 (fun vs H Q E h => ?_) (fun cdv A outer s H vs Q E hr h => ?_)
  · obtain ⟨x, pf, pr, t, v, d, rfl, _⟩ := h
    rfl
  have hr1 := hr.mono (show 1 ≤ 3 by decide)
  have hr2 := hr.mono (show 2 ≤ 3 by decide)
  refine ⟨_, pss_cons (ps_if (PW.pt (pw_or (pt_not (pt_val (pe_call GR hr1 (by rfl) mR kR bR .nil pass0 (pa_cons (pv 1) pa_nil)))) (pw_or1 (pt_cmpR op_gt (pe_callB call_len_seq (by rfl) T.len PySem.boot_len (pa_cons (pv 1) pa_nil)) (pe_glob (v := .int 30) (by rfl) m_MOST_OUTCOMES ⟨_, rfl⟩) (nomark _))))) (pss_one (L2N.ps_raise rfl (L2N.takes_of rfl rfl rfl rfl) (XM.pmk XV R.gv hr (pa_cons pe_int pa_nil)))) pss_nil)
    (pss_one (ps_if (pt_not (pt_val (pe_callB (cr_all (by rfl)) rfl T.all (by decide +kernel) (pa_cons (pe_lc (own := [("pair", 2)]) (g := gName 2) (tt := tYes) (by rfl) scCo31.nd (pi_row (pv 1)) (blkOk_by (N := nCo31) (sc := defScope sCheckOutcomes) (by decide +kernel)) (fun _ _ _ _ _ => (pg_name (i := 2) scCo31.nd rfl (.inl rfl))) (fun _ _ _ _ _ => pts_nil) (fun _ _ _ _ _ => (pe_and (pe_call GP hr2 (by rfl) mP kP bP .nil pass0 (pa_cons (pv 2) pa_nil)) (pe_and (pe_call GA hr (by rfl) mA kA bA .nil pass0 (pa_cons (pe_meth0 (pv 0) Z.fc.cl mG GG hr1 bG .nil pass0) (pa_cons (pe_ix (ix_both K rfl) (pv 2) pe_int (fun _ _ => rfl)) pa_nil))) (pe_one (pe_call GW hr2 (by rfl) mW kW bW .nil pass0 (pa_cons (pe_ix (ix_both K rfl) (pv 2) pe_int (fun _ _ => rfl)) pa_nil))))))) pa_nil)))) (pss_one (L2N.ps_raise rfl (L2N.takes_of rfl rfl rfl rfl) (XM.pmk XV R.gv hr (pa_cons pe_int pa_nil)))) pss_nil)), ?_⟩
  obtain ⟨x, pf, pr, t, v, d, rfl, ⟨dx, hx⟩, hT, hd, ho, h5, kno, kyes⟩ := h
  try simp only [L2.start, gName, List.map_cons, List.map_nil, List.length_cons, List.length_nil, Nat.reduceAdd, Nat.reduceSub, List.replicate_succ, List.replicate_zero, List.cons_append, List.nil_append, List.set_cons_succ, List.set_cons_zero]
  refine ⟨_, rfl, v, d, rfl, hd, fun H1 s1 => ⟨_, rfl, ?_⟩⟩
  cases er : rowOf d with
  | none =>
    have e1 : isRow d = false := by unfold isRow; rw [er] <;> rfl
    have bad : isOuts t d = false := by unfold isOuts; rw [er]
    rw [e1]
    exact iteT (iteT ⟨_, rfl, fun dd hdd => kno bad dd H1 s1 hdd⟩)
  | some ps =>
    have e1 : isRow d = true := by unfold isRow; rw [er] <;> rfl
    have eO : isOuts t d = (decide (ps.length ≤ 30) && ps.all (isOut t)) := by unfold isOuts; rw [er]
    rw [e1]
    obtain ⟨q, ys, rfl, hq, hys⟩ := row_len (dp_same s1 hd) er
    have ly := dps_len hys
    refine iteF ⟨_, rfl, q, ys, rfl, hq, _, _, rfl, rfl, _, rfl, ?_⟩
    by_cases c : ¬ ps.length ≤ 30
    · rw [decide_eq_false c, Bool.false_and] at eO
      exact iteDT (by omega) ⟨_, rfl, fun dd hdd => kno eO dd H1 s1 hdd⟩
    have c := Decidable.not_not.mp c
    rw [decide_eq_true c, Bool.true_and] at eO
    refine iteDF (by omega) (nxt ?_)
    refine all_row24 (isOut t) (fun Q' z => ⟨_, rfl, z⟩) (hq.imp id id) hys (by omega) (fun y e H2 R hm hy s2 kk => ⟨rfl, ?_⟩) fun H2 s2 => ⟨_, rfl, ?_⟩
    · refine ⟨_, rfl, y, e, rfl, hy, fun H3 s3 => ⟨_, rfl, ?_⟩⟩
      cases ep : isPair e with
      | false =>
        have eo : isOut t e = false := by unfold isOut; rw [pair_no ep]
        rw [eo] at kk
        exact iteF (kk H3 s3)
      | true =>
        obtain ⟨a, b, e2, e3⟩ := pair_yes ep
        obtain ⟨fo, sh⟩ := ho ps er e hm a b e2
        have eo : isOut t e = (areFacts t a && isWord b) := by unfold isOut; rw [e2]
        rw [eo] at kk
        obtain ⟨r, va, vb, rfl, hr_, hva, hvb⟩ := pair_at (dp_same s3 hy) e2
        have s13 := s1.trans (s2.trans s3)
        refine iteT ⟨_, rfl, x, dx, _, rfl, s13 _ _ hx, noF, x, pf, pr, rfl, ⟨dx, s13 _ _ hx⟩, _, rfl, ix_row hr_ (by rfl) ⟨pf, t, va, a, rfl, hT.same s13, hva, fo, fun H4 s4 => ⟨_, rfl, ?_⟩⟩⟩
        cases ea : areFacts t a with
        | false =>
          rw [ea, Bool.false_and] at kk
          exact iteF (kk H4 (s3.trans s4))
        | true =>
          rw [ea, Bool.true_and] at kk
          exact iteT ⟨_, rfl, ix_row (sq_same s4 hr_) (by rfl) ⟨vb, b, rfl, dp_same s4 hvb, sh, fun H5 s5 => kk H5 (s3.trans (s4.trans s5))⟩⟩
    · cases ea : ps.all (isOut t) with
      | false =>
        rw [ea] at eO
        exact iteT ⟨_, rfl, fun dd hdd => kno eO dd H2 (s1.trans s2) hdd⟩
      | true =>
        rw [ea] at eO
        exact iteF (kyes eO H2 (s1.trans s2))
end
end Q
set_option Elab.async false
set_option linter.all false
set_option maxRecDepth 100000
set_option maxHeartbeats 4000000
/-! ### is_filling, outcome -/
namespace Q
open PySem L2 XD
/-- what is known of a def that may raise -/
structure Ke31 (P : Program) (w : World) (K : PySem.W.Frag) (mg : Str → Option Value) (base : Heap) (k : Nat) (x : Str) (ps : List Str) (sp : Sp) : Prop where
  ex : ∃ f fd, FnOk P w K mg base (L2N.CX P w) k f fd ps sp ∧ PySem.W.keepIn K (.ref f) = true ∧ Binds K fd ps [] ∧ mg x = some (.ref f)
def isFill (t : Tbl) (rs : List (List Pr)) (d : PyData) : Bool := areFacts t d && decide (factsOf d ∈ fills rs (factsOf d) t)
structure Frm (K : PySem.W.Frag) (C : Addr) (H : Hp) (x pf pr : Addr) (t : Tbl) (rs : List (List Pr)) : Prop where
  fa : FormAt C H x pf pr
  tf : TabAt K H pf t
  rf : RulesAt K H pr rs
  ok : FormOk t rs
theorem Frm.same {K : PySem.W.Frag} {C : Addr} {H H' : Hp} {x pf pr : Addr} {t : Tbl} {rs : List (List Pr)} (s : Same H H') (h : Frm K C H x pf pr t rs) : Frm K C H' x pf pr t rs := by
  obtain ⟨dx, hx⟩ := h.fa
  exact ⟨⟨dx, s _ _ hx⟩, h.tf.same s, rulesAtS s h.rf, h.ok⟩
/-- what is handed in as facts -/
structure Fcs (K : PySem.W.Frag) (H : Hp) (t : Tbl) (v : V) (d : PyData) : Prop where
  dp : Dp K H v d
  fo : FOk d
  fz : areFacts t d = true → FaZ K H v d
theorem Fcs.same {K : PySem.W.Frag} {H H' : Hp} {t : Tbl} {v : V} {d : PyData} (s : Same H H') (h : Fcs K H t v d) : Fcs K H' t v d := ⟨dp_same s h.dp, h.fo, fun z => by
  obtain ⟨q, zs, gs, e, a, b, c⟩ := h.fz z
  exact ⟨q, zs, gs, e, a.elim (fun z => .inl (s.seq z)) (fun z => .inr (z.same s)), b, dps_same s c⟩⟩
def spIsFill (K : PySem.W.Frag) (C : Addr) : Sp := fun vs H Q E => ∃ (x pf pr : Addr) (t : Tbl) (rs : List (List Pr)) (v : V) (d : PyData), vs = [.ref x, v] ∧ Frm K C H x pf pr t rs ∧ Fcs K H t v d ∧ ∀ H', Same H H' → Q (.bl (isFill t rs d)) H'
/-- outcomes that are handed in -/
structure Ocs (K : PySem.W.Frag) (H : Hp) (v : V) (d : PyData) : Prop where
  dp : Dp K H v d
  oo : OOk d
  le : ∀ ds, rowOf d = some ds → ds.length ≤ 100000
theorem Ocs.same {K : PySem.W.Frag} {H H' : Hp} {v : V} {d : PyData} (s : Same H H') (h : Ocs K H v d) : Ocs K H' v d := ⟨dp_same s h.dp, h.oo, h.le⟩
def spOutc (K : PySem.W.Frag) (C CV : Addr) : Sp := fun vs H Q E => ∃ (x pf pr : Addr) (t : Tbl) (rs : List (List Pr)) (vo v : V) (o d : PyData), vs = [.ref x, vo, v] ∧ Frm K C H x pf pr t rs ∧ Ocs K H vo o ∧ Fcs K H t v d ∧
  (isOuts t o = false → bad31 CV 1 H E) ∧ (isOuts t o = true → isFill t rs d = false → bad31 CV 2 H E) ∧ (isOuts t o = true → isFill t rs d = true → ∀ H', Same H H' → Q (.str (wordOf (outsOf o) (factsOf d))) H')
abbrev nIf31 : List Str := ["form", "thing"]
abbrev nOc31 : List Str := ["form", "outcomes", "filling"]
theorem fills_str31 {t : Tbl} {rs : List (List Pr)} (O : FormOk t rs) {f row : List Pr} (h : row ∈ fills rs f t) : RStr row := by
  rw [fills_eq O.nd O.rq] at h
  exact chs_str O.ts row (List.mem_filter.mp h).1
theorem any_rows31 (rows : List (List Pr)) (p : List Pr) : ((rows.map ruleD).any fun z => PyData.eqv z (ruleD p)) = decide (p ∈ rows) := by
  rw [List.any_map, Bool.eq_iff_iff, List.any_eq_true, decide_eq_true_iff]
  constructor
  · rintro ⟨x, hx, e⟩
    have e2 : PyData.eqv (ruleD x) (ruleD p) = true := e
    rw [eqv_rule] at e2
    rw [← of_decide_eq_true e2]
    exact hx
  · intro h
    refine ⟨p, h, ?_⟩
    show PyData.eqv (ruleD p) (ruleD p) = true
    rw [eqv_rule]
    exact decide_eq_true rfl
section
variable {P : Program} {w : World} {K : PySem.W.Frag} {mg : Str → Option Value} {base : Heap}
theorem scIf31 : FnScope nIf31 ["form", "thing"] (defScope sIsFilling) := ⟨rfl, rfl, rfl, by decide +kernel, rfl, by decide +kernel, by decide +kernel⟩
theorem scOc31 : FnScope nOc31 ["form", "outcomes", "filling"] (defScope sOutcome) := ⟨rfl, rfl, rfl, by decide +kernel, rfl, by decide +kernel, by decide +kernel⟩
theorem ok_isfill {f C : Addr} {fd : FuncData} (F : Fun K "is_filling" "is_filling" sIsFilling f fd) (Z : Fk P w K mg base C) (KA : Kn P w K mg base 3 "are_facts" ["fields", "facts"] (spAreFacts K)) (KW : Kn P w K mg base 3 "rows_that_fit" ["form", "facts"] (spRowsFit K C))
    (KI : Kn P w K mg base 6 "in_tuples" ["thing"] (spInT24 K 4)) : FnOk P w K mg base CX0 7 f fd ["form", "thing"] (spIsFill K C) := by
  obtain ⟨fA, fdA, GA, kA, bA, mA⟩ := KA.ex
  obtain ⟨fW, fdW, GW, kW, bW, mW⟩ := KW.ex
  obtain ⟨fI, fdI, GI, kI, bI, mI⟩ := KI.ex
  obtain ⟨fG, fdG, GG, bG, mG⟩ := Z.gf
  refine F.ok scIf31 (fun vs H Q E h => ?_) (fun cdv A outer s H vs Q E hr h => ?_)
  · obtain ⟨x, pf, pr, t, rs, v, d, rfl, _⟩ := h
    rfl
  have hr1 := hr.mono (show 1 ≤ 6 by decide)
  have hr3 := hr.mono (show 3 ≤ 6 by decide)
  have hu2 : (A.deeper (PyProof.Rows.envOfC "is_filling" (defScope sIsFilling) s.heap.objs.size f cdv)).units + 65 < cLine := by
    have := hr.un
    omega
  refine ⟨_, pss_one (ps_ret (pe_and (pe_call GA hr3 (by rfl) mA kA bA .nil pass0 (pa_cons (pe_meth0 (pv 0) Z.fc.cl mG GG hr1 bG .nil pass0) (pa_cons (pv 1) pa_nil))) (pe_one (pe_cmpR (op_inDT31 K rfl hu2) (pe_call GI hr (by rfl) mI kI bI .nil pass0 (pa_cons (pv 1) pa_nil)) (pe_call GW hr3 (by rfl) mW kW bW .nil pass0 (pa_cons (pv 0) (pa_cons (pv 1) pa_nil))) (by with_unfolding_all rfl))))), ?_⟩
  obtain ⟨x, pf, pr, t, rs, v, d, rfl, Fr, Fc, k⟩ := h
  obtain ⟨dx, hx⟩ := Fr.fa
  try simp only [L2.start, gName, List.map_cons, List.map_nil, List.length_cons, List.length_nil, Nat.reduceAdd, Nat.reduceSub, List.replicate_succ, List.replicate_zero, List.cons_append, List.nil_append, List.set_cons_succ, List.set_cons_zero]
  refine ⟨_, rfl, x, dx, _, rfl, hx, noF, x, pf, pr, rfl, ⟨dx, hx⟩, _, rfl, pf, t, v, d, rfl, Fr.tf, Fc.dp, Fc.fo, fun H1 s1 => ⟨_, rfl, ?_⟩⟩
  cases ea : areFacts t d with
  | false =>
    have e : isFill t rs d = false := by unfold isFill; rw [ea] <;> rfl
    rw [e] at k
    exact iteF (k H1 s1)
  | true =>
    have e : isFill t rs d = decide (factsOf d ∈ fills rs (factsOf d) t) := by unfold isFill; rw [ea, Bool.true_and]
    have h1000 : t.length ≤ 1000 := by
      obtain ⟨_, _, _, _, _, h⟩ := Fr.tf
      exact h
    have Fr1 := Fr.same s1
    refine iteT ⟨_, rfl, v, d, rfl, dp_same s1 Fc.dp, deep_up31 (deep_up31 (facts_deep31 ea h1000)), fun r H2 s2 hr2 => ?_⟩
    have Fr2 := Fr1.same s2
    refine ⟨_, rfl, _, rfl, x, pf, pr, v, t, rs, d, rfl, Fr2.fa, Fr2.tf, Fr2.rf, Fr2.ok, ea, (Fc.same (s1.trans s2)).fz ea, fun z H3 s3 hz => ?_⟩
    rw [facts_tupled31 ea] at hr2
    refine ⟨_, _, dp_same s3 hr2, hz.dp, rule_shaped (facts_str31 ea Fr.ok.ts).1, rules_shaped (fun r hr => fills_str31 Fr.ok hr), ?_⟩
    rw [any_rows31, ← e]
    exact k H3 (s1.trans (s2.trans s3))
theorem ok_outcome {f C CV : Addr} {fd : FuncData} (F : Fun K "outcome" "outcome" sOutcome f fd) (Z : Fk P w K mg base C) (R : Bv K mg CV) (KC : Ke31 P w K mg base 4 "check_outcomes" ["form", "outcomes"] (spCheckO K C CV)) (KF : Kn P w K mg base 7 "is_filling" ["form", "thing"] (spIsFill K C))
    (KI : Kn P w K mg base 6 "in_tuples" ["thing"] (spInT24 K 4)) (KO : Kn P w K mg base 1 "outcome_of" ["outcomes", "filling"] (spOo31 K)) : FnOk P w K mg base (L2N.CX P w) 8 f fd ["form", "outcomes", "filling"] (spOutc K C CV) := by
  obtain ⟨fC, fdC, GC, kC, bC, mC⟩ := KC.ex
  obtain ⟨fF, fdF, GF, kF, bF, mF⟩ := KF.ex
  obtain ⟨fI, fdI, GI, kI, bI, mI⟩ := KI.ex
  obtain ⟨fO, fdO, GO, kO, bO, mO⟩ := KO.ex
  obtain ⟨fIv, qv, XV⟩ := R.v
  refine Fun_okN F scOc31 (fun vs H Q E h => ?_) (fun cdv A outer s H vs Q E hr h => ?_)
  · obtain ⟨x, pf, pr, t, rs, vo, v, o, d, rfl, _⟩ := h
    rfl
  have hr1 := hr.mono (show 1 ≤ 7 by decide)
  have hr4 := hr.mono (show 4 ≤ 7 by decide)
  have hr6 := hr.mono (show 6 ≤ 7 by decide)
  refine ⟨_, pss_cons (ps_expr (pe_call GC hr4 (by rfl) mC kC bC .nil (L2N.passes_call (L2N.takes_of rfl rfl rfl rfl) (fun _ _ _ _ h => h)) (pa_cons (pv 0) (pa_cons (pv 1) pa_nil))))
    (pss_cons (ps_if (pt_not (pt_val (pe_call GF hr (by rfl) mF kF bF .nil pass0 (pa_cons (pv 0) (pa_cons (pv 2) pa_nil))))) (pss_one (L2N.ps_raise rfl (L2N.takes_of rfl rfl rfl rfl) (XM.pmk XV R.gv hr (pa_cons pe_int pa_nil)))) pss_nil)
    (pss_one (ps_ret (pe_call GO hr1 (by rfl) mO kO bO .nil pass0 (pa_cons (pe_call GI hr6 (by rfl) mI kI bI .nil pass0 (pa_cons (pv 1) pa_nil)) (pa_cons (pe_call GI hr6 (by rfl) mI kI bI .nil pass0 (pa_cons (pv 2) pa_nil)) pa_nil)))))), ?_⟩
  obtain ⟨x, pf, pr, t, rs, vo, v, o, d, rfl, Fr, Oc, Fc, k1, k2, k3⟩ := h
  try simp only [L2.start, gName, List.map_cons, List.map_nil, List.length_cons, List.length_nil, Nat.reduceAdd, Nat.reduceSub, List.replicate_succ, List.replicate_zero, List.cons_append, List.nil_append, List.set_cons_succ, List.set_cons_zero]
  have h1000 : t.length ≤ 1000 := by
    obtain ⟨_, _, _, _, _, h⟩ := Fr.tf
    exact h
  refine ⟨_, rfl, _, rfl, x, pf, pr, t, vo, o, rfl, Fr.fa, Fr.tf, Oc.dp, Oc.oo, Oc.le, fun e => k1 e, fun eo H1 s1 => ?_⟩
  refine ⟨_, rfl, _, rfl, x, pf, pr, t, rs, v, d, rfl, Fr.same s1, Fc.same s1, fun H2 s2 => ⟨_, rfl, ?_⟩⟩
  cases ef : isFill t rs d with
  | false => exact iteT ⟨_, rfl, fun dd hdd => k2 eo ef dd H2 (s1.trans s2) hdd⟩
  | true =>
    have ea : areFacts t d = true := by
      unfold isFill at ef
      rw [Bool.and_eq_true] at ef
      exact ef.1
    refine iteF (nxt ?_)
    refine ⟨_, rfl, vo, o, rfl, dp_same (s1.trans s2) Oc.dp, outs_deep31 eo h1000, fun r H3 s3 hr3 => ?_⟩
    refine ⟨_, rfl, v, d, rfl, dp_same (s1.trans (s2.trans s3)) Fc.dp, deep_up31 (deep_up31 (facts_deep31 ea h1000)), fun r2 H4 s4 hr4_ => ?_⟩
    rw [outs_tupled31 eo] at hr3
    rw [facts_tupled31 ea] at hr4_
    exact ⟨_, _, _, _, rfl, dp_same s4 hr3, hr4_, outs_str31 eo Fr.ok.ts h1000, (facts_str31 ea Fr.ok.ts).1, fun H5 s5 => k3 eo ef H5 (s1.trans (s2.trans (s3.trans (s4.trans s5))))⟩
end
end Q
set_option Elab.async false
set_option linter.all false
set_option maxRecDepth 100000
set_option maxHeartbeats 4000000
/-! ### k31: data with tuples for lists; what lists do not hide -/
namespace Q
open PySem L2 XD
/-! what is the same in tuples -/
theorem row_of31 {d : PyData} {es : List PyData} (h : tupled24 d = .tuple es) : ∃ ds, rowOf d = some ds ∧ ds.map tupled24 = es := by
  cases d with
  | list ds =>
    rw [tupled24, tupleds_map24] at h
    exact ⟨ds, rfl, PyData.tuple.inj h⟩
  | tuple ds =>
    rw [tupled24, tupleds_map24] at h
    exact ⟨ds, rfl, PyData.tuple.inj h⟩
  | none => rw [tupled24] at h; cases h
  | bool b => rw [tupled24] at h; cases h
  | int i => rw [tupled24] at h; cases h
  | str x => rw [tupled24] at h; cases h
  | dict x => rw [tupled24] at h; cases h
theorem str_of31 {d : PyData} {x : Str} (h : tupled24 d = .str x) : d = .str x := by
  cases d with
  | list ds => rw [tupled24] at h; cases h
  | tuple ds => rw [tupled24] at h; cases h
  | none => rw [tupled24] at h; cases h
  | bool b => rw [tupled24] at h; cases h
  | int i => rw [tupled24] at h; cases h
  | str y => rw [tupled24] at h; exact h
  | dict x => rw [tupled24] at h; cases h
theorem two_of31 {d a b : PyData} (h : tupled24 d = .tuple [a, b]) : ∃ x y, pairOf d = some (x, y) ∧ tupled24 x = a ∧ tupled24 y = b := by
  obtain ⟨ds, e, hm⟩ := row_of31 h
  cases ds with
  | nil => cases hm
  | cons x ds =>
    cases ds with
    | nil => cases hm
    | cons y ds =>
      cases ds with
      | cons z ds => cases hm
      | nil =>
        obtain ⟨h1, h2⟩ := List.cons.inj hm
        obtain ⟨h2, _⟩ := List.cons.inj h2
        refine ⟨x, y, ?_, h1, h2⟩
        unfold pairOf
        rw [e]
theorem strs_of31 : ∀ {ds : List PyData} {ws : List Str}, ds.map tupled24 = ws.map PyData.str → ds = ws.map PyData.str
  | [], [], _ => rfl
  | [], _ :: _, h => by cases h
  | _ :: _, [], h => by cases h
  | d :: ds, w :: ws, h => by
    obtain ⟨h1, h2⟩ := List.cons.inj h
    rw [List.map_cons, str_of31 h1, strs_of31 h2]
theorem prd_of31 {α : Type} {f : α → PyData} {T : PyData → α → Prop} (g : ∀ d e, tupled24 d = f e → T d e) : ∀ {ds : List PyData} {es : List α}, ds.map tupled24 = es.map f → Paired T ds es
  | [], [], _ => .nil
  | [], _ :: _, h => by cases h
  | _ :: _, [], h => by cases h
  | d :: ds, e :: es, h => by
    obtain ⟨h1, h2⟩ := List.cons.inj h
    exact .cons (g d e h1) (prd_of31 g h2)
theorem ftab31 {d : PyData} {t : Tbl} (h : tupled24 d = tabD t) : FTab t d := by
  obtain ⟨fs, e, hm⟩ := row_of31 h
  refine ⟨fs, e, prd_of31 (fun f x hx => ?_) hm⟩
  obtain ⟨n, b, h1, h2, h3⟩ := two_of31 hx
  obtain ⟨ws, h4, h5⟩ := row_of31 h3
  rw [str_of31 h2] at h1
  refine ⟨b, h1, ?_⟩
  rw [h4, strs_of31 h5]
theorem frule31 {d : PyData} {l : List Pr} (h : tupled24 d = ruleD l) : FRule l d := by
  obtain ⟨fs, e, hm⟩ := row_of31 h
  refine ⟨fs, e, prd_of31 (f := pD) (fun f x hx => ?_) hm⟩
  obtain ⟨n, b, h1, h2, h3⟩ := two_of31 hx
  rw [str_of31 h2, str_of31 h3] at h1
  exact h1
theorem frules31 {d : PyData} {rs : List (List Pr)} (h : tupled24 d = rulesD rs) : FRules rs d := by
  obtain ⟨fs, e, hm⟩ := row_of31 h
  exact ⟨fs, e, prd_of31 (f := ruleD) (T := fun f r => FRule r f) (fun f x hx => frule31 hx) hm⟩
theorem hand31 {K : PySem.W.Frag} {H : Hp} {t : Tbl} {rs : List (List Pr)} {vF vR : V} {dF dR : PyData} (hF : Dz K H vF dF) (hR : Dz K H vR dR) (eF : tupled24 dF = tabD t) (eR : tupled24 dR = rulesD rs) : Hand K H t rs vF vR dF dR := by
  have fr := frules31 eR
  obtain ⟨rds, e, hm⟩ := row_of31 eR
  refine ⟨hF.dp, hR.dp, ftab31 eF, fr, hR.rz e fun rd hr => ?_⟩
  have : tupled24 rd ∈ rs.map ruleD := by
    rw [← hm]
    exact List.mem_map_of_mem hr
  obtain ⟨l, hl, el⟩ := List.mem_map.mp this
  obtain ⟨gs, eg, _⟩ := frule31 el.symm
  exact ⟨gs, eg⟩
/-! what stands beside lists -/
def AllL31 (S : List Addr) (H : Hp) : Prop := ∀ x ∈ S, (∃ acc, H x = some (.lst acc)) ∨ ∃ kvs, H x = some (.dK kvs)
theorem Fl31.all {a b : Addr} {H : Hp} (F : Fl31 b H a) : AllL31 [a, b] H := fun x hx => by
  obtain ⟨ns, p, r, m, c, d, F⟩ := F
  rcases List.mem_cons.mp hx with e | e
  · exact e ▸ .inl ⟨_, F.at_⟩
  · exact (List.mem_singleton.mp e) ▸ .inl ⟨_, F.ls⟩
section
variable {K : PySem.W.Frag} {S : List Addr} {H : Hp} (A : AllL31 S H)
include A
theorem obj_nl31 {x : Addr} {o : HO} (h : H x = some o) (n : ∀ l, o ≠ .lst l) (n2 : ∀ l, o ≠ .dK l) : rmL S H x = some o := (rm_at fun z => by
  rcases A x z with ⟨acc, e⟩ | ⟨acc, e⟩
  · rw [h] at e
    exact n _ (Option.some.inj e)
  · rw [h] at e
    exact n2 _ (Option.some.inj e)).trans h
theorem sqT_nl31 {q : Addr} {xs : List V} (h : SqT K H q xs) : SqT K (rmL S H) q xs := by
  rcases h with (h | ⟨o, h⟩) | h
  · exact .inl (.inl (obj_nl31 A h (fun l z => by cases z) (fun l z => by cases z)))
  · exact .inl (.inr ⟨o, obj_nl31 A h (fun l z => by cases z) (fun l z => by cases z)⟩)
  · exact .inr h
theorem sqZ_nl31 {q : Addr} {xs : List V} (h : SqZ H q xs) : SqZ (rmL S H) q xs := by
  obtain ⟨o, h, n⟩ := h
  exact ⟨o, obj_nl31 A h (fun l z => by cases z) (fun l z => by cases z), n⟩
mutual
theorem dp_nl31 : ∀ {v : V} {d : PyData}, Dp K H v d → noL24 d = true → Dp K (rmL S H) v d
  | _, _, .non, _ => .non
  | _, _, .bl b, _ => .bl b
  | _, _, .int i, _ => .int i
  | _, _, .str x, _ => .str x
  | _, _, .lst h a, n => by
    rw [noL24] at n
    cases n
  | _, _, .tup h a, n => .tup (sqT_nl31 A h) (dps_nl31 a (by rw [noL24] at n; exact n))
theorem dps_nl31 : ∀ {vs : List V} {ds : List PyData}, DpAll K H vs ds → noLs24 ds = true → DpAll K (rmL S H) vs ds
  | _, _, .nil, _ => .nil
  | _, _, .cons h t, n => by
    rw [noLs24, Bool.and_eq_true] at n
    exact .cons (dp_nl31 h n.1) (dps_nl31 t n.2)
end
theorem tabR_nl31 : ∀ {ps : List Addr} {kvs : List (Key × V)} {t : Tbl}, TabR K H ps kvs t → TabR K (rmL S H) ps kvs t
  | _, _, _, .nil => .nil
  | _, _, _, .cons h1 h2 h3 r => .cons (sqT_nl31 A h1) (sqT_nl31 A h2) h3 (tabR_nl31 r)
theorem form_nl31 {C x pf pr : Addr} (h : FormAt C H x pf pr) : FormAt C (rmL S H) x pf pr := by
  obtain ⟨dx, e⟩ := h
  exact ⟨dx, obj_nl31 A e (fun l z => by cases z) (fun l z => by cases z)⟩
theorem tab_nl31 {pf : Addr} {t : Tbl} (h : TabAt K H pf t) : TabAt K (rmL S H) pf t := by
  obtain ⟨ps, kvs, a, b, c⟩ := h
  exact ⟨ps, kvs, sqZ_nl31 A a, tabR_nl31 A b, c⟩
theorem rules_nl31 {pr : Addr} {rs : List (List Pr)} (h : RulesAt K H pr rs) : RulesAt K (rmL S H) pr rs := by
  obtain ⟨ps, a, b⟩ := h
  refine ⟨ps, sqZ_nl31 A a, prd_imp (fun q r hr => ?_) b⟩
  obtain ⟨qs, c, d⟩ := hr
  exact ⟨qs, sqZ_nl31 A c, prd_imp (fun _ _ z => sqT_nl31 A z) d⟩
end
/-- a list that changes is none of data without lists -/
theorem dps_put31 {K : PySem.W.Frag} {R : Hp} {D : Addr} {acc : List V} {o : HO} {vs : List V} {ds : List PyData} (h : DpAll K R vs ds) (hD : R D = some (.lst acc)) (n : noLs24 ds = true) : DpAll K (L2.upd R D o) vs ds := by
  have g := dps_nl24 hD h n
  have g2 : DpAll K (rmL [D] (L2.upd R D o)) vs ds := by
    rw [rm_put (List.mem_singleton.mpr rfl)]
    exact g
  exact dps_same rm_le g2
theorem bs_upd31 {a b D : Addr} {H : Hp} {o : HO} (n : D ∉ [a, b]) : Bs31 a b (L2.upd H D o) = L2.upd (Bs31 a b H) D o := by
  funext x
  by_cases h : x ∈ [a, b]
  · have e1 : Bs31 a b (L2.upd H D o) x = none := if_pos h
    have e2 : Bs31 a b H x = none := if_pos h
    have nx : x ≠ D := fun z => n (z ▸ h)
    rw [e1, upd_ne nx, e2]
  · have e1 : Bs31 a b (L2.upd H D o) x = L2.upd H D o x := rm_at h
    rw [e1]
    by_cases e : x = D
    · rw [e, upd_same, upd_same]
    · have e2 : Bs31 a b H x = H x := rm_at h
      rw [upd_ne e, upd_ne e, e2]
theorem noL_strs31 : ∀ ws : List Str, noLs24 (ws.map PyData.str) = true
  | [] => by rw [List.map_nil, noLs24]
  | w :: ws => by rw [List.map_cons, noLs24, noL_strs31 ws, noL24] <;> rfl
theorem noL_entry31 (e : Str × List Str) : noL24 (entryD e) = true := by
  unfold entryD
  rw [noL24, noLs24, noLs24, noLs24, noL24, noL24, noL_strs31] <;> rfl
theorem noLs_map31 {α : Type} {f : α → PyData} (h : ∀ x, noL24 (f x) = true) : ∀ l : List α, noLs24 (l.map f) = true
  | [] => by rw [List.map_nil, noLs24]
  | x :: l => by rw [List.map_cons, noLs24, noLs_map31 h l, h] <;> rfl
theorem noL_tab31 (t : Tbl) : noL24 (tabD t) = true := by
  unfold tabD
  rw [noL24]
  exact noLs_map31 noL_entry31 t
theorem noL_rule31 (l : List Pr) : noL24 (ruleD l) = true := by
  show noL24 (.tuple (l.map pD)) = true
  rw [noL24]
  exact noL_pairs31 l
theorem noL_rules31 (rs : List (List Pr)) : noL24 (rulesD rs) = true := by
  unfold rulesD
  rw [noL24]
  exact noLs_map31 noL_rule31 rs
theorem noL_out31 (o : Out) : noL24 (outD o) = true := by
  unfold outD
  rw [noL24, noLs24, noLs24, noLs24, noL_rule31, noL24] <;> rfl
theorem noL_outs31 (os : List Out) : noL24 (outsD os) = true := by
  unfold outsD
  rw [noL24]
  exact noLs_map31 noL_out31 os
theorem deep_strs31 {n : Nat} {ws : List Str} (h : ws.length ≤ 100000) : deep24 (n + 1) (.tuple (ws.map PyData.str)) = true := deep_row31 rfl (by rw [List.length_map]; exact h) fun x hx => by
  obtain ⟨w, _, rfl⟩ := List.mem_map.mp hx
  cases n <;> rfl
theorem deep_tab31 {t : Tbl} (h : t.length ≤ 100000) (hv : ∀ e ∈ t, e.2.length ≤ 100000) : deep24 4 (tabD t) = true := deep_row31 rfl (by rw [List.length_map]; exact h) fun x hx => by
  obtain ⟨e, he, rfl⟩ := List.mem_map.mp hx
  refine deep_row31 rfl (Nat.le_of_ble_eq_true rfl) fun y hy => ?_
  rcases List.mem_cons.mp hy with rfl | hy
  · rfl
  · rw [List.mem_singleton.mp hy]
    exact deep_strs31 (hv e he)
theorem deep_pD31 (n : Nat) (e : Pr) : deep24 (n + 1) (pD e) = true := deep_row31 rfl (Nat.le_of_ble_eq_true rfl) fun y hy => by
  rcases List.mem_cons.mp hy with rfl | hy
  · cases n <;> rfl
  · rw [List.mem_singleton.mp hy]
    cases n <;> rfl
theorem deep_rule31 {n : Nat} {l : List Pr} (h : l.length ≤ 100000) : deep24 (n + 2) (ruleD l) = true := deep_row31 (xs := l.map pD) rfl (by rw [List.length_map]; exact h) fun x hx => by
  obtain ⟨e, he, rfl⟩ := List.mem_map.mp hx
  exact deep_pD31 n e
theorem deep_rules31 {rs : List (List Pr)} (h : rs.length ≤ 100000) (hv : ∀ l ∈ rs, l.length ≤ 100000) : deep24 4 (rulesD rs) = true := deep_row31 rfl (by rw [List.length_map]; exact h) fun x hx => by
  obtain ⟨l, hl, rfl⟩ := List.mem_map.mp hx
  exact deep_rule31 (n := 1) (hv l hl)
theorem deep_outs31 {os : List Out} (h : os.length ≤ 100000) (hv : ∀ o ∈ os, o.1.length ≤ 100000) : deep24 4 (outsD os) = true := deep_row31 rfl (by rw [List.length_map]; exact h) fun x hx => by
  obtain ⟨o, ho, rfl⟩ := List.mem_map.mp hx
  refine deep_row31 rfl (Nat.le_of_ble_eq_true rfl) fun y hy => ?_
  rcases List.mem_cons.mp hy with rfl | hy
  · exact deep_rule31 (n := 0) (hv o ho)
  · rw [List.mem_singleton.mp hy] <;> rfl
/-! the book -/
structure Bk31 (K : PySem.W.Frag) (C : Addr) (R : Hp) (B x pf pr : Addr) (t : Tbl) (bans : List (List Pr)) : Prop where
  bk : ∃ kvs vp vb, R B = some (.dK kvs) ∧ valV kvs (.inr "parts") = some vp ∧ valV kvs (.inr "bans") = some vb ∧ valV kvs (.inr "form") = some (.ref x) ∧ Dp K R vp (tabD t) ∧ Dp K R vb (rulesD bans)
  fr : Frm K C R x pf pr t (once (bans.map (bySeq t)))
  gd : Good t bans
  t4 : t.length ≤ 4
theorem Bk31.same {K : PySem.W.Frag} {C : Addr} {R R' : Hp} {B x pf pr : Addr} {t : Tbl} {bans : List (List Pr)} (s : Same R R') (h : Bk31 K C R B x pf pr t bans) : Bk31 K C R' B x pf pr t bans := by
  obtain ⟨kvs, vp, vb, a, b, c, d, e, f⟩ := h.bk
  exact ⟨⟨kvs, vp, vb, s _ _ a, b, c, d, dp_same s e, dp_same s f⟩, h.fr.same s, h.gd, h.t4⟩
end Q
set_option Elab.async false
set_option linter.all false
set_option maxRecDepth 100000
set_option maxHeartbeats 4000000
/-! ### dicts of written keys -/
namespace Q
open PySem L2 XD
abbrev kz (ks : List Key) (vs : List V) : List (Key × V) := ks.zip vs
theorem kz_val : ∀ {ks : List Key} {vs : List V} {i : Nat} {k : Key} {v : V}, ks.Nodup → ks[i]? = some k → vs[i]? = some v → valV (kz ks vs) k = some v
  | [], _, _, _, _, _, h, _ => by cases h
  | k0 :: ks, [], _, _, _, _, _, h => by cases h
  | k0 :: ks, v0 :: vs, 0, k, v, _, h, g => by
    cases h
    cases g
    exact valV_pos rfl
  | k0 :: ks, v0 :: vs, i + 1, k, v, nd, h, g => by
    have h : ks[i]? = some k := h
    have n : ¬ (k0, v0).1 = k := fun z => by
      have z : k0 = k := z
      subst z
      exact (List.nodup_cons.mp nd).1 (List.mem_of_getElem? h)
    show valV ((k0, v0) :: kz ks vs) k = some v
    rw [valV_neg n]
    exact kz_val (List.nodup_cons.mp nd).2 h g
theorem putK_eq {k : Key} {v y : V} {r : List (Key × V)} (h : k ∉ r.map (·.1)) : putK ((k, v) :: r) k y = (k, y) :: r := by
  have e : (((k, v) :: r).any fun kv => decide (kv.1 = k)) = true := by
    rw [List.any_cons, decide_eq_true rfl, Bool.true_or]
  unfold putK
  rw [if_pos e, List.map_cons, if_pos rfl]
  congr 1
  refine (List.map_congr_left fun p hp => ?_).trans (List.map_id r)
  have n : ¬ p.1 = k := fun z => h (by rw [← z]; exact List.mem_map_of_mem hp)
  rw [if_neg n]
  rfl
theorem putK_ne {k0 k : Key} {v y : V} {r : List (Key × V)} (h : ¬ k0 = k) : putK ((k0, v) :: r) k y = (k0, v) :: putK r k y := by
  unfold putK
  rw [List.any_cons, decide_eq_false h, Bool.false_or]
  by_cases e : (r.any fun kv => decide (kv.1 = k)) = true
  · rw [if_pos e, if_pos e, List.map_cons, if_neg h]
  · rw [if_neg e, if_neg e, List.cons_append]
theorem zip_fst : ∀ {ks : List Key} {vs : List V} {k : Key}, k ∈ (kz ks vs).map (·.1) → k ∈ ks
  | [], _, _, h => by cases h
  | _ :: _, [], _, h => by cases h
  | k0 :: ks, v0 :: vs, k, h => by
    rcases List.mem_cons.mp h with h | h
    · exact List.mem_cons.mpr (.inl h)
    · exact List.mem_cons_of_mem _ (zip_fst h)
theorem kz_put : ∀ {ks : List Key} {vs : List V} {i : Nat} {k : Key} {y : V}, ks.Nodup → ks[i]? = some k → i < vs.length → putK (kz ks vs) k y = kz ks (vs.set i y)
  | [], _, _, _, _, _, h, _ => by cases h
  | k0 :: ks, [], _, _, _, _, _, h => absurd h (Nat.not_lt_zero _)
  | k0 :: ks, v0 :: vs, 0, k, y, nd, h, _ => by
    cases h
    exact putK_eq fun z => (List.nodup_cons.mp nd).1 (zip_fst z)
  | k0 :: ks, v0 :: vs, i + 1, k, y, nd, h, g => by
    have h : ks[i]? = some k := h
    have n : ¬ k0 = k := fun z => by
      subst z
      exact (List.nodup_cons.mp nd).1 (List.mem_of_getElem? h)
    show putK ((k0, v0) :: kz ks vs) k y = (k0, v0) :: kz ks (vs.set i y)
    rw [putK_ne n, kz_put (List.nodup_cons.mp nd).2 h (Nat.lt_of_succ_lt_succ g)]
theorem valV_none : ∀ {r : List (Key × V)} {k : Key}, k ∉ r.map (·.1) → valV r k = none
  | [], _, _ => valV_nil
  | p :: r, k, h => by
    rw [valV_neg fun z => h (by rw [← z]; exact List.mem_cons_self)]
    exact valV_none fun z => h (List.mem_cons_of_mem _ z)
theorem merge_app : ∀ {more acc : List (Key × V)}, ((acc ++ more).map (·.1)).Nodup → mergeK acc more = acc ++ more
  | [], acc, _ => (List.append_nil acc).symm
  | p :: r, acc, nd => by
    have n : p.1 ∉ acc.map (·.1) := fun z => by
      rw [List.map_append, List.nodup_append] at nd
      exact nd.2.2 _ z _ List.mem_cons_self rfl
    show mergeK (putK acc p.1 p.2) r = _
    rw [putK_new _ (valV_none n)]
    have e : (acc ++ [(p.1, p.2)]) ++ r = acc ++ p :: r := by rw [List.append_assoc] <;> rfl
    rw [merge_app (by rw [e]; exact nd), e]
theorem zip_keys : ∀ {ks : List Key} {vs : List V}, vs.length = ks.length → (kz ks vs).map (·.1) = ks
  | [], _, _ => rfl
  | _ :: _, [], h => by cases h
  | k0 :: ks, v0 :: vs, h => congrArg (k0 :: ·) (zip_keys (Nat.succ.inj h))
theorem kz_merge {ks : List Key} {vs : List V} (nd : ks.Nodup) (h : vs.length = ks.length) : mergeK [] (kz ks vs) = kz ks vs := merge_app (by rw [List.nil_append, zip_keys h]; exact nd)
theorem kz_get {H : Hp} {a : Addr} {ks : List Key} {vs : List V} {i : Nat} {k : Key} {v : V} (h : H a = some (.dK (kz ks vs))) (nd : ks.Nodup) (hk : ks[i]? = some k) (hv : vs[i]? = some v) : DGet H a (kV k) (some v) := by
  rw [← kz_val nd hk hv]
  exact DGet.k h
theorem kz_dput {H : Hp} {a : Addr} {ks : List Key} {vs : List V} {i : Nat} {k : Key} {y : V} (h : H a = some (.dK (kz ks vs))) (nd : ks.Nodup) (hk : ks[i]? = some k) (hi : i < vs.length) (hl : ks.length ≤ 1000) : DPut H a (kV k) y (upd H a (.dK (kz ks (vs.set i y)))) := by
  rw [← kz_put nd hk hi]
  exact DPut.k h (small1000 (by rw [List.length_zip]; omega))
end Q
set_option Elab.async false
set_option linter.all false
set_option maxRecDepth 100000
set_option maxHeartbeats 4000000
/-! ### k31: _law_book -/
namespace Q
open PySem L2 XD
theorem sl_toI31 {K : PySem.W.Frag} {p : Addr} {us : List V} {i : Int} {n : Nat} {H : Hp} {Q : VK} (e : i = (n : Int)) (h : H p = some (.lst us)) (k : ∀ q, H q = none → Q (.ref q) (L2.upd H q (.lst (us.take n)))) : rSlB K (.ref p) none (some i) H Q := by
  rw [e]
  exact sl_to31 h k
theorem asg_tupLc31 {r : List V → Hp → VK → Prop} {i : Nat} {w : TI} {g : TG} {tt : TT} {te : TE} {vs : List Nat} {u : TS} {D : Ends} {σ : L2.St} {H : Hp} (h : tLc w g tt te vs σ H fun v H1 => r [v] H1 fun y H2 => u D (σ.set i (some y)) H2) : tSeq (tAsg (tCB r (tCons (tLc w g tt te vs) tNil)) (gName i)) u D σ H := h
theorem ways_few31 {m : Nat} : ∀ {t : Tbl} (k : Nat), (∀ e ∈ t, e.2.length ≤ m) → waysFrom k t ≤ k * m ^ t.length
  | [], k, _ => by
    show k ≤ k * m ^ 0
    rw [Nat.pow_zero, Nat.mul_one]
    exact Nat.le_refl _
  | e :: t, k, h => by
    show waysFrom (k * e.2.length) t ≤ _
    refine Nat.le_trans (ways_few31 _ fun x hx => h x (List.mem_cons_of_mem _ hx)) ?_
    rw [List.length_cons, Nat.pow_succ, Nat.mul_assoc, Nat.mul_comm (m ^ t.length) m]
    exact Nat.mul_le_mul_left _ (Nat.mul_le_mul_right _ (h e List.mem_cons_self))
theorem ints_31 : ∀ {n : Nat} {j : Nat} {y : V}, ((List.range n).map fun (k : Nat) => V.int ((k : Nat) : Int))[j]? = some y → ∃ k : Nat, k < n ∧ y = .int k := fun {n j y} h => by
  rw [List.getElem?_map] at h
  obtain ⟨k, hk, rfl⟩ := Option.map_eq_some_iff.mp h
  exact ⟨k, List.mem_range.mp (List.mem_of_getElem? hk), rfl⟩
theorem off_upd31 {a b D : Addr} {H : Hp} {o : HO} (h : H D = none) : Same (Bs31 a b H) (Bs31 a b (L2.upd H D o)) := rm_same (new_same h o)
def kk31 : List Key := [.inr "parts", .inr "bans", .inr "form"]
theorem kk31_nd : kk31.Nodup := by decide +kernel
def spBook31 (K : PySem.W.Frag) (C : Addr) : Sp := fun vs H Q _ => ∃ (a b : Addr) (m w : Nat), vs = [.ref a, .int m, .int w] ∧ Fl31 b H a ∧ 1 ≤ m ∧ m ≤ 4 ∧ 1 ≤ w ∧ w ≤ 5 ∧ w ^ m ≤ 1000 ∧
  ∀ (B x pf pr : Addr) (t : Tbl) (bans : List (List Pr)) (H' : Hp), Bk31 K C (Bs31 a b H') B x pf pr t bans → Fl31 b H' a → Same (Bs31 a b H) (Bs31 a b H') → Q (.ref B) H'
abbrev nBo31 : List Str := ["st", "most", "values", "pool", "names", "name", "parts", "bans", "turn", "ban"]
section
variable {P : Program} {w : World} {K : PySem.W.Frag} {mg : Str → Option Value} {base : Heap}
theorem scBo31 : FnScope nBo31 ["st", "most", "values"] (defScope sLBook) := ⟨rfl, rfl, rfl, by decide +kernel, rfl, by decide +kernel, by decide +kernel⟩
theorem ok_book31 {f fi C CV CM : Addr} {fd fdi : FuncData} (F : Fun K "_law_book" "_law_book" sLBook f fd) (T : Be31 mg) (M : Mk K C fi) (GF : FnOk P w K mg base (L2N.CX P w) 6 fi fdi ["self", "fields", "rules"] (spInit K C CV CM)) (bF : Binds K fdi ["self", "fields", "rules"] []) (gF : mg "Form" = some (.ref C))
    (KD : Kn P w K mg base 2 "_law_draw" ["st", "many"] spDraw31) (KO : Kn P w K mg base 3 "_law_one" ["st", "row"] (spOne31 K)) (KU : Kn P w K mg base 3 "_law_turned" ["st", "row"] (spTurn31 K)) (KW : Kn P w K mg base 4 "_law_words" ["st", "many"] (spWords31 K))
    (KL : Kn P w K mg base 4 "_law_lot" ["st", "parts", "many"] (spLot31 K)) (KI : Kn P w K mg base 7 "_law_listed" ["st", "value"] (spLis31 K 4)) : FnOk P w K mg base CX0 8 f fd ["st", "most", "values"] (spBook31 K C) := by
  obtain ⟨fD, fdD, GD, kD, bD, mD⟩ := KD.ex
  obtain ⟨fO, fdO, GO, kO, bO, mO⟩ := KO.ex
  obtain ⟨fU, fdU, GU, kU, bU, mU⟩ := KU.ex
  obtain ⟨fW, fdW, GW, kW, bW, mW⟩ := KW.ex
  obtain ⟨fL, fdL, GL, kL, bL, mL⟩ := KL.ex
  obtain ⟨fI, fdI, GI, kI, bI, mI⟩ := KI.ex
  refine F.ok scBo31 (fun vs H Q E h => ?_) (fun cdv A outer s H vs Q E hr h => ?_)
  · obtain ⟨a, b, m, w, rfl, _⟩ := h
    rfl
  have hr2 := hr.mono (show 2 ≤ 7 by decide)
  have hr3 := hr.mono (show 3 ≤ 7 by decide)
  have hr4 := hr.mono (show 4 ≤ 7 by decide)
  have vt_ : PySem.bootBuiltins "tuple" = some (.type "tuple") := by decide +kernel
  refine ⟨_, pss_cons (ps_set (i := 3) scBo31.nd rfl (.inr rfl) (pe_call GW hr4 (by rfl) mW kW bW .nil pass0 (pa_cons (pv 0) (pa_cons pe_int pa_nil))))
    (pss_cons (ps_set (i := 4) scBo31.nd rfl (.inl rfl) (pe_slice (sl_bothK K rfl) (pe_call GU hr3 (by rfl) mU kU bU .nil pass0 (pa_cons (pv 0) (pa_cons (pv 3) pa_nil))) po_none (po_some (pe_op op_add pe_int (pe_call GD hr2 (by rfl) mD kD bD .nil pass0 (pa_cons (pv 0) (pa_cons (pv 1) pa_nil)))))))
    (pss_cons (ps_set (i := 6) scBo31.nd rfl (.inl rfl) (pe_callTy (call_tupK K rfl) (by rfl) T.tup vt_ (pa_cons (pe_lc (own := [("name", 5)]) (g := gName 5) (tt := tYes) (by rfl) scBo31.nd (pi_row (pv 4)) (blkOk_by (N := nBo31) (sc := defScope sLBook) (by decide +kernel)) (fun _ _ _ _ _ => (pg_name (i := 5) scBo31.nd rfl (.inl rfl))) (fun _ _ _ _ _ => pts_nil) (fun _ _ _ _ _ => (pe_tupZ (pa_cons (pv 5) (pa_cons (pe_callTy (call_tupK K rfl) (by rfl) T.tup vt_ (pa_cons (pe_slice (sl_bothK K rfl) (pe_call GU hr3 (by rfl) mU kU bU .nil pass0 (pa_cons (pv 0) (pa_cons (pv 3) pa_nil))) po_none (po_some (pe_op op_add pe_int (pe_call GD hr2 (by rfl) mD kD bD .nil pass0 (pa_cons (pv 0) (pa_cons (pv 2) pa_nil)))))) pa_nil)) pa_nil))))) pa_nil)))
    (pss_cons (ps_set (i := 7) scBo31.nd rfl (.inl rfl) (pe_lst pa_nil))
    (pss_cons (ps_for PassesOwn.never rfl (pi_range1 rfl T.range (pa_cons (pe_call GO hr3 (by rfl) mO kO bO .nil pass0 (pa_cons (pv 0) (pa_cons (pe_lst (pa_cons pe_int (pa_cons pe_int (pa_cons pe_int (pa_cons pe_int (pa_cons pe_int pa_nil)))))) pa_nil))) pa_nil)) (pg_name (i := 8) scBo31.nd rfl (.inl rfl))
      (pss_cons (ps_set (i := 9) scBo31.nd rfl (.inl rfl) (pe_call GL hr4 (by rfl) mL kL bL .nil pass0 (pa_cons (pv 0) (pa_cons (pv 6) (pa_cons (pe_op op_add pe_int (pe_call GD hr2 (by rfl) mD kD bD .nil pass0 (pa_cons (pv 0) (pa_cons pe_int pa_nil)))) pa_nil)))))
    (pss_one (ps_if (PW.pt (pw_or (pt_cmpR op_gt (pe_callB call_len_seq (by rfl) T.len PySem.boot_len (pa_cons (pv 9) pa_nil)) pe_int (nomark _)) (pw_or1 (pt_cmpR op_eq (pe_call GD hr2 (by rfl) mD kD bD .nil pass0 (pa_cons (pv 0) (pa_cons pe_int pa_nil))) pe_int (nomark _))))) (pss_one (ps_expr (pe_bm PySem.F.plainAttrs_list PySem.F.slot_list_append PySem.F.type_list_append mt_append (pv 7) (pa_cons (pv 9) pa_nil)))) pss_nil))))
    (pss_one (ps_ret (pe_disp (pps_cons pe_str (pv 6) (pps_cons pe_str (pe_callTy (call_tupK K rfl) (by rfl) T.tup vt_ (pa_cons (pv 7) pa_nil)) (pps_cons pe_str (pe_make M GF hr (by rfl) gF bF .nil passF (pa_cons (pe_call GI hr (by rfl) mI kI bI .nil pass0 (pa_cons (pv 0) (pa_cons (pv 6) pa_nil))) (pa_cons (pe_call GI hr (by rfl) mI kI bI .nil pass0 (pa_cons (pv 0) (pa_cons (pe_callTy (call_tupK K rfl) (by rfl) T.tup vt_ (pa_cons (pv 7) pa_nil)) pa_nil))) pa_nil))) pps_nil))) rfl rfl (by simp) (by decide)))))))), ?_⟩
  obtain ⟨a, b, m, w, rfl, Fl, m1, m4, w1, w5, wm, k⟩ := h
  try simp only [L2.start, gName, List.map_cons, List.map_nil, List.length_cons, List.length_nil, Nat.reduceAdd, Nat.reduceSub, List.replicate_succ, List.replicate_zero, List.cons_append, List.nil_append, List.set_cons_succ, List.set_cons_zero]
  refine ⟨_, rfl, a, b, 8, rfl, Fl, by decide, fun p ws H1 hp hp1 lws wd F1 s1 => ?_⟩
  have np : p ∉ [a, b] := flo31.out Fl hp
  try simp only [gName, List.set_cons_succ, List.set_cons_zero]
  refine ⟨_, rfl, _, rfl, a, b, p, ws.map V.str, rfl, F1, .inl (SqL.of ((rm_at np).trans hp1)), by rw [List.length_map]; omega, fun p2 zs H2 hp2 hz2 pm F2 s2 => ?_⟩
  obtain ⟨ns, pmn, rfl⟩ := perm_map31 pm ws rfl
  have np2 : p2 ∉ [a, b] := flo31.out F1 hp2
  refine ⟨_, rfl, _, rfl, a, b, m, rfl, F2, m1, by omega, fun r H3 hr3_ F3 s3 => ⟨_, _, rfl, rfl, _, rfl, sl_toI31 (n := 1 + r) (by omega) (at31 s3 np2 hz2) fun L hL => ?_⟩⟩
  have nL : L ∉ [a, b] := flo31.out F3 hL
  rw [← List.map_take]
  have F4 := flo31.off (o := .lst ((ns.take (1 + r)).map V.str)) nL F3
  have s4 : Same (Bs31 a b H) (Bs31 a b (L2.upd H3 L (.lst ((ns.take (1 + r)).map V.str)))) := ((s1.trans s2).trans s3).trans (off_upd31 hL)
  have hp4 := at31 ((s2.trans s3).trans (off_upd31 (o := .lst ((ns.take (1 + r)).map V.str)) hL)) np hp1
  have hL4 := upd_same (H := H3) (a := L) (o := .lst ((ns.take (1 + r)).map V.str))
  have nnd : (ns.take (1 + r)).Nodup := (List.take_sublist _ _).nodup (pmn.nodup_iff.mpr wd.1)
  have nwd : ∀ x ∈ ns.take (1 + r), word x = true := fun x hx => wd.2 x (pmn.mem_iff.mp (List.mem_of_mem_take hx))
  have nln : (ns.take (1 + r)).length = 1 + r := by
    have := pmn.length_eq
    rw [List.length_take]
    omega
  generalize ns.take (1 + r) = nm at F4 s4 hp4 hL4 nnd nwd nln
  generalize L2.upd H3 L (.lst (nm.map V.str)) = H4 at F4 s4 hp4 hL4
  clear s1 s2 s3 F1 F2 F3 hp hp1 hp2 hz2 pm pmn np2 hL
  try simp only [gName, List.set_cons_succ, List.set_cons_zero]
  refine asg_tupLc31 ?_
  refine lc_rowL31 (ys := nm.map V.str) (fun D i H' => ∃ us t, H' D = some (.lst us) ∧ DpAll K (Bs31 a b H') us (t.map entryD) ∧ t.map (·.1) = nm.take i ∧ (∀ e ∈ t, Wds31 e.2 ∧ 1 ≤ e.2.length ∧ e.2.length ≤ w) ∧ Fl31 b H' a ∧ Same (Bs31 a b H4) (Bs31 a b H'))
    (fun Q' z => ⟨_, rfl, z⟩) hL4 (fun D hD => ⟨[], [], upd_same, .nil, rfl, fun e h => absurd h List.not_mem_nil, flo31.off (flo31.out F4 hD) F4, off_upd31 hD⟩) (fun D i H' hD ⟨_, _, _, _, _, _, _, s⟩ => at31 s nL hL4) (fun D i x H5 hD hi hP hx => ?_) (fun D H5 hD hP => ?_)
  · obtain ⟨us, t, g1, g2, g3, g4, F5, s5⟩ := hP
    have nD : D ∉ [a, b] := flo31.out F4 hD
    rw [List.getElem?_map] at hx
    obtain ⟨nx, hnx, rfl⟩ := Option.map_eq_some_iff.mp hx
    have lu := dps_len g2
    have l3 := congrArg List.length g3
    rw [List.length_map, List.length_take] at l3
    rw [List.length_map] at lu
    refine ⟨rfl, ?_⟩
    unfold tYes
    have hp5 := at31 s5 np hp4
    refine iteT ⟨_, rfl, _, rfl, _, rfl, a, b, p, ws.map V.str, rfl, F5, .inl (SqL.of ((rm_at np).trans hp5)), by rw [List.length_map]; omega, fun p3 zs3 H6 hp3 hz3 pm3 F6 s6 => ⟨_, rfl, _, rfl, a, b, w, rfl, F6, w1, by omega, fun r2 H7 hr7 F7 s7 => ⟨_, _, rfl, rfl, _, rfl, ?_⟩⟩⟩
    obtain ⟨vs3, pmv, rfl⟩ := perm_map31 pm3 ws rfl
    have np3 : p3 ∉ [a, b] := flo31.out F5 hp3
    refine sl_toI31 (n := 1 + r2) (by omega) (at31 s7 np3 hz3) fun q hq => ⟨q, _, rfl, .inl ⟨SqL.of upd_same, fun z o hz ho => ⟨by show 2 ≤ sizeLine; decide, fun z2 o2 hz2 ho2 => ?_⟩⟩⟩
    rw [← List.map_take] at hz hz2 ⊢
    have vnd : Wds31 (vs3.take (1 + r2)) := ⟨(List.take_sublist _ _).nodup (pmv.nodup_iff.mpr wd.1), fun x hx => wd.2 x (pmv.mem_iff.mp (List.mem_of_mem_take hx))⟩
    have vln : (vs3.take (1 + r2)).length = 1 + r2 := by
      have := pmv.length_eq
      rw [List.length_take]
      omega
    generalize vs3.take (1 + r2) = vals at hz hz2 vnd vln ⊢
    have nq : q ∉ [a, b] := flo31.out F7 hq
    have F8 := flo31.off (o := .lst (vals.map V.str)) nq F7
    have s8 := (s6.trans s7).trans (off_upd31 (o := .lst (vals.map V.str)) hq)
    generalize L2.upd H7 q (.lst (vals.map V.str)) = H8 at hz hz2 F8 s8 ⊢
    have nz : z ∉ [a, b] := flo31.out F8 hz
    have F9 := flo31.off (o := .frz o (.tup (vals.map V.str))) nz F8
    have s9 := s8.trans (off_upd31 (o := .frz o (.tup (vals.map V.str))) hz)
    have e9 : Bs31 a b (L2.upd H8 z (.frz o (.tup (vals.map V.str)))) z = some (.frz o (.tup (vals.map V.str))) := (rm_at nz).trans upd_same
    generalize L2.upd H8 z (.frz o (.tup (vals.map V.str))) = H9 at hz2 F9 s9 e9 ⊢
    have nz2 : z2 ∉ [a, b] := flo31.out F9 hz2
    have F10 := flo31.off (o := .frz o2 (.tup [V.str nx, V.ref z])) nz2 F9
    have t10 := off_upd31 (a := a) (b := b) (o := .frz o2 (.tup [V.str nx, V.ref z])) hz2
    have s10 := s9.trans t10
    have e10 : Bs31 a b (L2.upd H9 z2 (.frz o2 (.tup [V.str nx, V.ref z]))) z2 = some (.frz o2 (.tup [V.str nx, V.ref z])) := (rm_at nz2).trans upd_same
    have e9 := t10 _ _ e9
    have ent : Dp K (Bs31 a b (L2.upd H9 z2 (.frz o2 (.tup [V.str nx, V.ref z])))) (.ref z2) (entryD (nx, vals)) := .tup (.inl (.inr ⟨o2, e10⟩)) (.cons (.str nx) (.cons (.tup (.inl (.inr ⟨o, e9⟩)) (dps_strs vals)) .nil))
    generalize L2.upd H9 z2 (.frz o2 (.tup [V.str nx, V.ref z])) = H10 at F10 s10 ent ⊢
    have gD := at31 s10 nD g1
    have gDB : Bs31 a b H10 D = some (.lst us) := (rm_at nD).trans gD
    refine ⟨us, gD, small1000 (by omega), us ++ [.ref z2], t ++ [(nx, vals)], upd_same, ?_, by rw [List.map_append, g3, take_one hnx] <;> rfl, fun e he => ?_, flo31.off nD F10, off31 (s5.trans s10) hD⟩
    · rw [bs_upd31 nD, List.map_append]
      refine dps_put31 (dps_app (dps_same s10 g2) (.cons ent .nil)) gDB ?_
      rw [← List.map_singleton, ← List.map_append]
      exact noLs_map31 noL_entry31 _
    · rcases List.mem_append.mp he with he | he
      · exact g4 e he
      · rw [List.mem_singleton.mp he]
        exact ⟨vnd, (by show 1 ≤ vals.length; omega), (by show vals.length ≤ w; omega)⟩
  · obtain ⟨us, t, g1, g2, g3, g4, F5, s5⟩ := hP
    rw [List.length_map, List.take_length] at g3
    have l3 := congrArg List.length g3
    rw [List.length_map] at l3
    refine ⟨D, us, rfl, .inl ⟨SqL.of g1, fun z o hz ho => ?_⟩⟩
    have nz : z ∉ [a, b] := flo31.out F5 hz
    have F6 := flo31.off (o := .frz o (.tup us)) nz F5
    have s6 := (s4.trans s5).trans (off_upd31 (o := .frz o (.tup us)) hz)
    have dpt : Dp K (Bs31 a b (L2.upd H5 z (.frz o (.tup us)))) (.ref z) (tabD t) := .tup (.inl (.inr ⟨o, (rm_at nz).trans upd_same⟩)) (dps_same (off_upd31 hz) g2)
    have tk : TabOk t := ⟨by omega, by omega, by rw [g3]; exact ⟨nnd, nwd⟩, fun e he => ⟨(g4 e he).1, (g4 e he).2.1, by have := (g4 e he).2.2; omega⟩⟩
    have tw : waysFrom 1 t ≤ 1000 := by
      have h1 := ways_few31 (m := w) 1 (fun e he => (g4 e he).2.2)
      have h2 : w ^ t.length ≤ w ^ m := Nat.pow_le_pow_right w1 (by omega)
      omega
    have t4 : t.length ≤ 4 := by omega
    have nd : (t.map (·.1)).Nodup := by rw [g3]; exact nnd
    have vt : Vals31 t := fun e he => ⟨(g4 e he).2.1, by have := (g4 e he).2.2; omega⟩
    generalize L2.upd H5 z (.frz o (.tup us)) = H6 at F6 s6 dpt
    clear g1 g2 g3 g4 F5 s5 hD hz nz F4 s4 hL4 hp4
    try simp only [gName, List.set_cons_succ, List.set_cons_zero]
    refine ⟨by show 0 ≤ sizeLine; decide, fun N hN => ?_⟩
    have nN : N ∉ [a, b] := flo31.out F6 hN
    have F7 := flo31.off (o := .lst []) nN F6
    have s7 := off_upd31 (a := a) (b := b) (o := .lst []) hN
    have hN7 := upd_same (H := H6) (a := N) (o := .lst [])
    generalize L2.upd H6 N (.lst []) = H7 at F7 s7 hN7
    try simp only [gName, List.set_cons_succ, List.set_cons_zero]
    refine ⟨_, rfl, by show 5 ≤ sizeLine; decide, fun M hM => ?_⟩
    have nM : M ∉ [a, b] := flo31.out F7 hM
    have F8 := flo31.off (o := .lst ((List.range 5).map fun (k : Nat) => V.int ((k : Nat) : Int))) nM F7
    have s8 := s7.trans (off_upd31 (o := .lst ((List.range 5).map fun (k : Nat) => V.int ((k : Nat) : Int))) hM)
    have hN8 := new_same hM (.lst ((List.range 5).map fun (k : Nat) => V.int ((k : Nat) : Int))) _ _ hN7
    have hM8 : Bs31 a b (L2.upd H7 M (.lst ((List.range 5).map fun (k : Nat) => V.int ((k : Nat) : Int)))) M = some (.lst ((List.range 5).map fun (k : Nat) => V.int ((k : Nat) : Int))) := (rm_at nM).trans upd_same
    refine ⟨a, b, M, (List.range 5).map fun (k : Nat) => V.int ((k : Nat) : Int), rfl, F8, .inl (SqL.of hM8), by decide, by decide, fun j y H9 hy F9 s9 => ?_⟩
    obtain ⟨n, hn, rfl⟩ := ints_31 hy
    have hN9 := at31 s9 nN hN8
    replace s9 := s8.trans s9
    clear hN7 hN8 hM8 hM F8 s8 F7 s7 nM hy
    refine ⟨_, rfl, j31a _, j31b (by omega), ?_⟩
    rw [Int.toNat_natCast]
    refine for_range (lo := 0) (n := n) (fun i σ H' => ∃ (f8 f9 : Option V) (us : List V) (bs : List (List Pr)), σ = [some (.ref a), some (.int m), some (.int w), some (.ref p), some (.ref L), none, some (.ref z), some (.ref N), f8, f9] ∧ H' N = some (.lst us) ∧ DpAll K (Bs31 a b H') us (bs.map ruleD) ∧ bs.length ≤ i ∧ (∀ l ∈ bs, Ban t 4 l) ∧ Fl31 b H' a ∧ Same (Bs31 a b H6) (Bs31 a b H'))
      ⟨none, none, [], [], rfl, hN9, .nil, Nat.le_refl _, fun l h => absurd h List.not_mem_nil, F9, s9⟩ ?_ ?_
    · rintro i σ H10 hi ⟨f8, f9, us, bs, rfl, g1, g2, g3, g4, F10, s10⟩
      have lu := dps_len g2
      rw [List.length_map] at lu
      try simp only [gName, List.set_cons_succ, List.set_cons_zero]
      refine ⟨_, rfl, _, rfl, _, rfl, a, b, 3, rfl, F10, by decide, by decide, fun r H11 hr11 F11 s11 => ⟨_, _, rfl, rfl, ?_⟩⟩
      refine ⟨a, b, [a, b], .ref z, t, 1 + r, by show [V.ref a, V.ref z, V.int ((1 : Int) + (r : Int))] = _; rw [show ((1 : Int) + (r : Int)) = ((1 + r : Nat) : Int) by omega], F11, List.mem_cons_self, List.mem_cons_of_mem _ List.mem_cons_self, flo31.alive F11, dp_same (s10.trans s11) dpt, by omega, nd, vt, fun v l H12 hv fz hl F12 s12 => ?_⟩
      have t12 := s11.trans s12
      have g1' := at31 t12 nN g1
      have g2' := dps_same t12 g2
      have s12 := s10.trans t12
      have bl : Ban t 4 l := ⟨by have := hl.ln; omega, by have := hl.ln; omega, hl.nd, hl.of⟩
      clear t12 g1 g2
      have app : ∀ (H13 : Hp), Fl31 b H13 a → Same (Bs31 a b H12) (Bs31 a b H13) → ∀ (o : HO), o = .lst (us ++ [v]) → ∃ (f8 f9 : Option V) (us' : List V) (bs' : List (List Pr)), [some (V.ref a), some (.int m), some (.int w), some (.ref p), some (.ref L), none, some (.ref z), some (.ref N), some (.int (0 + (i : Int))), some v] = [some (.ref a), some (.int m), some (.int w), some (.ref p), some (.ref L), none, some (.ref z), some (.ref N), f8, f9] ∧ L2.upd H13 N o N = some (.lst us') ∧ DpAll K (Bs31 a b (L2.upd H13 N o)) us' (bs'.map ruleD) ∧ bs'.length ≤ i + 1 ∧ (∀ l ∈ bs', Ban t 4 l) ∧ Fl31 b (L2.upd H13 N o) a ∧ Same (Bs31 a b H6) (Bs31 a b (L2.upd H13 N o)) := by
        rintro H13 F13 s13 o rfl
        have gN := at31 s13 nN g1'
        have gNB : Bs31 a b H13 N = some (.lst us) := (rm_at nN).trans gN
        refine ⟨_, _, us ++ [v], bs ++ [l], rfl, upd_same, ?_, by rw [List.length_append, List.length_singleton]; omega, fun x hx => ?_, flo31.off nN F13, ?_⟩
        · rw [bs_upd31 nN, List.map_append]
          refine dps_put31 (dps_app (dps_same s13 g2') (.cons (dp_same s13 hv) .nil)) gNB ?_
          rw [← List.map_append]
          exact noLs_map31 noL_rule31 _
        · rcases List.mem_append.mp hx with hx | hx
          · exact g4 x hx
          · rw [List.mem_singleton.mp hx]
            exact bl
        · exact off31 (s12.trans s13) hN
      try simp only [gName, List.set_cons_succ, List.set_cons_zero]
      obtain ⟨q, ys, rfl, hq, hys⟩ := dp_tup31 hv
      have lyl := dps_len hys
      refine ⟨_, rfl, q, ys, rfl, .inr (seqT_same rm_le hq), _, _, rfl, rfl, _, rfl, iteB (fun e => ?_) (fun e => ?_)⟩
      · refine ⟨_, rfl, .inl ⟨rfl, _, SqL.of g1'⟩, _, rfl, N, _, _, rfl, rfl, g1', small1000 (by omega), app H12 F12 (Same.refl _) _ rfl⟩
      · refine ⟨_, rfl, a, b, 5, rfl, F12, by decide, by decide, fun r2 H13 hr13 F13 s13 => ⟨rfl, _, rfl, iteB (fun e => ?_) (fun e => nxt ?_)⟩⟩
        · have g13 := at31 s13 nN g1'
          exact ⟨_, rfl, .inl ⟨rfl, _, SqL.of g13⟩, _, rfl, N, _, _, rfl, rfl, g13, small1000 (by omega), app H13 F13 s13 _ rfl⟩
        · exact ⟨_, _, us, bs, rfl, at31 s13 nN g1', dps_same s13 g2', by omega, g4, F13, s12.trans s13⟩
    · rintro σ H10 ⟨f8, f9, us, bs, rfl, g1, g2, g3, g4, F10, s10⟩
      have lu := dps_len g2
      rw [List.length_map] at lu
      refine fun B hB => ?_
      have nB : B ∉ [a, b] := flo31.out F10 hB
      have nBN : N ≠ B := fun e => by
        rw [e, hB] at g1
        cases g1
      have FB := flo31.off (o := .dK []) nB F10
      have sB := off_upd31 (a := a) (b := b) (o := .dK []) hB
      have gB := upd_same (H := H10) (a := B) (o := .dK [])
      have g1B := new_same hB (.dK []) _ _ g1
      generalize L2.upd H10 B (.dK []) = HB at FB sB gB g1B
      refine ⟨_, rfl, _, rfl, N, us, rfl, .inl ⟨SqL.of g1B, fun z1 o1 hz1 ho1 => ?_⟩⟩
      have nz1 : z1 ∉ [a, b] := flo31.out FB hz1
      have F11 := flo31.off (o := .frz o1 (.tup us)) nz1 FB
      have s11 := sB.trans (off_upd31 (a := a) (b := b) (o := .frz o1 (.tup us)) hz1)
      have g1C := new_same hz1 (.frz o1 (.tup us)) _ _ g1B
      have gBC := new_same hz1 (.frz o1 (.tup us)) _ _ gB
      have dz1 : Dp K (Bs31 a b (L2.upd HB z1 (.frz o1 (.tup us)))) (.ref z1) (rulesD bs) := .tup (.inl (.inr ⟨o1, (rm_at nz1).trans upd_same⟩)) (dps_same s11 g2)
      generalize L2.upd HB z1 (.frz o1 (.tup us)) = H11 at F11 s11 g1C gBC dz1
      refine ⟨_, rfl, _, rfl, a, b, [a, b], .ref z, tabD t, rfl, F11, List.mem_cons_self, List.mem_cons_of_mem _ List.mem_cons_self, flo31.alive F11, dp_same (s10.trans s11) dpt, noL_tab31 t, deep_tab31 (by omega) (fun e he => by have := (vt e he).2; omega), fun r1 e1 H12 dr1 te1 F12 s12 => ?_⟩
      have g1D := at31 s12 nN g1C
      have gBD := at31 s12 nB gBC
      refine ⟨_, rfl, _, rfl, N, us, rfl, .inl ⟨SqL.of g1D, fun z2 o2 hz2 ho2 => ?_⟩⟩
      have nz2 : z2 ∉ [a, b] := flo31.out F12 hz2
      have F13 := flo31.off (o := .frz o2 (.tup us)) nz2 F12
      have t13 := off_upd31 (a := a) (b := b) (o := .frz o2 (.tup us)) hz2
      have gBE := new_same hz2 (.frz o2 (.tup us)) _ _ gBD
      have dz2 : Dp K (Bs31 a b (L2.upd H12 z2 (.frz o2 (.tup us)))) (.ref z2) (rulesD bs) := .tup (.inl (.inr ⟨o2, (rm_at nz2).trans upd_same⟩)) (dps_same (s11.trans (s12.trans t13)) g2)
      generalize L2.upd H12 z2 (.frz o2 (.tup us)) = H13 at F13 t13 gBE dz2
      refine ⟨a, b, [a, b], .ref z2, rulesD bs, rfl, F13, List.mem_cons_self, List.mem_cons_of_mem _ List.mem_cons_self, flo31.alive F13, dz2, noL_rules31 bs, deep_rules31 (by omega) (fun l hl => by have := (g4 l hl).hi; omega), fun r2 e2 H14 dr2 te2 F14 s14 => ?_⟩
      have gBF := at31 s14 nB gBE
      have gd : Good t bs := ⟨tk, g4, by omega, tw⟩
      have hand : Hand K H14 t bs r1 r2 e1 e2 := hand31 ((dr1.same (t13.trans s14)).same rm_le) (dr2.same rm_le) te1 te2
      refine fun x dx hx hdx hne => init_good gd hand hx hdx hne fun pf pr H15 s15 f1 f2 f3 => ⟨rfl, ?_⟩
      have gBG := s15 _ _ gBF
      refine ⟨gBG, kz kk31 [.ref z, .ref z1, .ref x], rfl, by show 3 ≤ 15; decide, ?_⟩
      rw [kz_merge kk31_nd rfl]
      have F15 : Fl31 b H15 a := flo31.same s15 F14
      have s610 : Same (Bs31 a b H10) (Bs31 a b H15) := s11.trans (s12.trans (t13.trans (s14.trans (rm_same s15))))
      have dptF := dp_same rm_le (dp_same (s10.trans s610) dpt)
      have dz1F := dp_same rm_le (dp_same (s12.trans (t13.trans (s14.trans (rm_same s15)))) dz1)
      have all : AllL31 [B, a, b] H15 := fun y hy => by
        rcases List.mem_cons.mp hy with e | hy
        · exact e ▸ .inr ⟨_, gBG⟩
        · exact F15.all y hy
      have back : Same (rmL [B, a, b] H15) (Bs31 a b (L2.upd H15 B (.dK (kz kk31 [.ref z, .ref z1, .ref x])))) := by
        have e : rmL [B, a, b] (L2.upd H15 B (.dK (kz kk31 [.ref z, .ref z1, .ref x]))) = rmL [B, a, b] H15 := rm_put List.mem_cons_self
        rw [← e]
        exact rm_sub fun y hy => List.mem_cons_of_mem _ hy
      refine k B x pf pr t bs _ ⟨⟨kz kk31 [.ref z, .ref z1, .ref x], .ref z, .ref z1, (rm_at nB).trans upd_same, kz_val (i := 0) kk31_nd rfl rfl, kz_val (i := 1) kk31_nd rfl rfl, kz_val (i := 2) kk31_nd rfl rfl, dp_same back (dp_nl31 all dptF (noL_tab31 t)), dp_same back (dp_nl31 all dz1F (noL_rules31 bs))⟩, Frm.same back ⟨form_nl31 all f1, tab_nl31 all f2, rules_nl31 all f3, form_ok gd⟩, gd, t4⟩ (flo31.off nB F15) (s6.trans (s10.trans (off31 s610 hB)))
end
end Q
set_option Elab.async false
set_option linter.all false
set_option maxRecDepth 100000
set_option maxHeartbeats 4000000
/-! ### k31: _law_pairs -/
namespace Q
open PySem L2 XD
theorem op_neDK31 {X : Cx} (K : PySem.W.Frag) (h : X.K = K) (hu : X.A.units + 64 < cLine) : OpR X (compareOp .NotEq) (rNeD K) := by
  subst h
  exact op_neD hu
theorem words_31 : ∀ x ∈ (["x", "y", "zzzzzzzz", "none"] : List Str), word x = true := by decide +kernel
theorem few_31 {y : V} (h : y ∈ [V.int 0, V.int 1, V.int 1, V.int 2, V.int 2, V.int 3]) : ∃ k : Nat, k ≤ 3 ∧ y = .int k := by
  simp only [List.mem_cons, List.not_mem_nil, or_false] at h
  rcases h with rfl | rfl | rfl | rfl | rfl | rfl
  · exact ⟨0, by decide, rfl⟩
  · exact ⟨1, by decide, rfl⟩
  · exact ⟨1, by decide, rfl⟩
  · exact ⟨2, by decide, rfl⟩
  · exact ⟨2, by decide, rfl⟩
  · exact ⟨3, by decide, rfl⟩
/-- outcomes of the form -/
structure Outs31 (t : Tbl) (m : Nat) (os : List Out) : Prop where
  ln : os.length ≤ m
  ok : ∀ o ∈ os, o.1.length ≤ t.length ∧ (o.1.map (·.1)).Nodup ∧ (∀ e ∈ o.1, ∃ ws, (e.1, ws) ∈ t ∧ e.2 ∈ ws) ∧ word o.2 = true
/-- a list of words -/
def Wl31 (R : Hp) (v : V) : Prop := ∃ (q : Addr) (ws : List Str), v = .ref q ∧ R q = some (.lst (ws.map V.str)) ∧ 1 ≤ ws.length ∧ ws.length ≤ 100 ∧ ∀ x ∈ ws, word x = true
theorem Wl31.same {R R' : Hp} {v : V} (s : Same R R') (h : Wl31 R v) : Wl31 R' v := by
  obtain ⟨q, ws, a, b, c⟩ := h
  exact ⟨q, ws, a, s _ _ b, c⟩
def spPairs31 (K : PySem.W.Frag) (C : Addr) : Sp := fun vs H Q _ => ∃ (a b B x pf pr : Addr) (t : Tbl) (bans : List (List Pr)) (m : Nat), vs = [.ref a, .ref B, .int m] ∧ Fl31 b H a ∧ Bk31 K C (Bs31 a b H) B x pf pr t bans ∧ m ≤ 20 ∧
  ∀ (v : V) (os : List Out) (H' : Hp), Dp K (Bs31 a b H') v (outsD os) → Outs31 t m os → Fl31 b H' a → Same (Bs31 a b H) (Bs31 a b H') → Q v H'
abbrev nPa31 : List Str := ["st", "book", "most", "words", "pairs", "turn", "pair"]
section
variable {P : Program} {w : World} {K : PySem.W.Frag} {mg : Str → Option Value} {base : Heap}
theorem scPa31 : FnScope nPa31 ["st", "book", "most"] (defScope sLPairs) := ⟨rfl, rfl, rfl, by decide +kernel, rfl, by decide +kernel, by decide +kernel⟩
theorem ok_pairs31 {f C : Addr} {fd : FuncData} (F : Fun K "_law_pairs" "_law_pairs" sLPairs f fd) (T : Be31 mg)
    (KD : Kn P w K mg base 2 "_law_draw" ["st", "many"] spDraw31) (KO : Kn P w K mg base 3 "_law_one" ["st", "row"] (spOne31 K)) (KW : Kn P w K mg base 4 "_law_words" ["st", "many"] (spWords31 K))
    (KL : Kn P w K mg base 4 "_law_lot" ["st", "parts", "many"] (spLot31 K)) : FnOk P w K mg base CX0 5 f fd ["st", "book", "most"] (spPairs31 K C) := by
  obtain ⟨fD, fdD, GD, kD, bD, mD⟩ := KD.ex
  obtain ⟨fO, fdO, GO, kO, bO, mO⟩ := KO.ex
  obtain ⟨fW, fdW, GW, kW, bW, mW⟩ := KW.ex
  obtain ⟨fL, fdL, GL, kL, bL, mL⟩ := KL.ex
  refine F.ok scPa31 (fun vs H Q E h => ?_) (fun cdv A outer s H vs Q E hr h => ?_)
  · obtain ⟨a, b, B, x, pf, pr, t, bans, m, rfl, _⟩ := h
    rfl
  have hr2 := hr.mono (show 2 ≤ 4 by decide)
  have hr3 := hr.mono (show 3 ≤ 4 by decide)
  have vt_ : PySem.bootBuiltins "tuple" = some (.type "tuple") := by decide +kernel
  have hu1 : (A.deeper (PyProof.Rows.envOfC "_law_pairs" (defScope sLPairs) s.heap.objs.size f cdv)).units + 1 < cLine := by
    have := hr.un
    omega
  have hu : (A.deeper (PyProof.Rows.envOfC "_law_pairs" (defScope sLPairs) s.heap.objs.size f cdv)).units + 64 < cLine := by
    have := hr.un
    omega
  refine ⟨_, pss_cons (ps_set (i := 3) scPa31.nd rfl (.inl rfl) (pe_call GO hr3 (by rfl) mO kO bO .nil pass0 (pa_cons (pv 0) (pa_cons (pe_lst (pa_cons (pe_lst (pa_cons pe_str (pa_cons pe_str pa_nil))) (pa_cons (pe_lst (pa_cons pe_str (pa_cons pe_str (pa_cons pe_str pa_nil)))) (pa_cons (pe_lst (pa_cons pe_str (pa_cons pe_str pa_nil))) (pa_cons (pe_call GW hr (by rfl) mW kW bW .nil pass0 (pa_cons (pv 0) (pa_cons pe_int pa_nil))) pa_nil))))) pa_nil))))
    (pss_cons (ps_set (i := 4) scPa31.nd rfl (.inl rfl) (pe_lst pa_nil))
    (pss_cons (ps_for PassesOwn.never rfl (pi_range1 rfl T.range (pa_cons (pe_call GD hr2 (by rfl) mD kD bD .nil pass0 (pa_cons (pv 0) (pa_cons (pe_op op_add (pv 2) pe_int) pa_nil))) pa_nil)) (pg_name (i := 5) scPa31.nd rfl (.inl rfl))
      (pss_one (ps_expr (pe_bm PySem.F.plainAttrs_list PySem.F.slot_list_append PySem.F.type_list_append mt_append (pv 4) (pa_cons (pe_tupZ (pa_cons (pe_call GL hr (by rfl) mL kL bL .nil pass0 (pa_cons (pv 0) (pa_cons (pe_dget hu1 (pv 1) pe_str (fun _ _ => rfl)) (pa_cons (pe_call GO hr3 (by rfl) mO kO bO .nil pass0 (pa_cons (pv 0) (pa_cons (pe_lst (pa_cons pe_int (pa_cons pe_int (pa_cons pe_int (pa_cons pe_int (pa_cons pe_int (pa_cons pe_int pa_nil))))))) pa_nil))) pa_nil)))) (pa_cons (pe_call GO hr3 (by rfl) mO kO bO .nil pass0 (pa_cons (pv 0) (pa_cons (pv 3) pa_nil))) pa_nil))) pa_nil)))))
    (pss_cons (ps_if (pt_cmpR op_gt (pe_call GD hr2 (by rfl) mD kD bD .nil pass0 (pa_cons (pv 0) (pa_cons pe_int pa_nil))) pe_int (nomark _)) (pss_one (ps_setLc (i := 4) (own := [("pair", 6)]) (g := gName 6) (by rfl) scPa31.nd rfl rfl (sw_true rfl rfl rfl (by decide +kernel)) (pi_row (pv 4)) (blkOk_by (N := nPa31) (sc := defScope sLPairs) (by decide +kernel)) (fun _ _ _ _ _ => (pg_name (i := 6) scPa31.nd rfl (.inl rfl))) (fun _ _ _ _ _ => (pts_one (pt_cmpR (op_neDK31 K rfl hu) (pe_ix (ix_both K rfl) (pv 6) pe_int (fun _ _ => rfl)) (pe_tupZ pa_nil) (nomark _)))) (fun _ _ _ _ _ => (pv 6)))) pss_nil)
    (pss_one (ps_ret (pe_callTy (call_tupK K rfl) (by rfl) T.tup vt_ (pa_cons (pv 4) pa_nil))))))), ?_⟩
  obtain ⟨a, b, B, x, pf, pr, t, bans, m, rfl, Fl, W, hm, k⟩ := h
  try simp only [L2.start, gName, List.map_cons, List.map_nil, List.length_cons, List.length_nil, Nat.reduceAdd, Nat.reduceSub, List.replicate_succ, List.replicate_zero, List.cons_append, List.nil_append, List.set_cons_succ, List.set_cons_zero]
  obtain ⟨kvs, vp, vb, hB1, hB2, hB3, hB4, dP, dB⟩ := W.bk
  have gP : ∀ H', Same (Bs31 a b H) (Bs31 a b H') → DGet H' B (.str "parts") (some vp) := fun H' s => by
    rw [← hB2]
    exact DGet.k (k := .inr "parts") (rm_le _ _ (s _ _ hB1))
  have tk := W.gd.tb
  have nd := tk.nm.1
  have vt : Vals31 t := fun e he => ⟨(tk.vs e he).2.1, by have := (tk.vs e he).2.2; omega⟩
  have t4 := W.t4
  -- the words
  refine ⟨_, rfl, by show 2 ≤ sizeLine; decide, fun q1 h1 => ⟨by show 3 ≤ sizeLine; decide, fun q2 h2 => ⟨by show 2 ≤ sizeLine; decide, fun q3 h3 => ?_⟩⟩⟩
  have n1 : q1 ∉ [a, b] := flo31.out Fl h1
  have F1 := flo31.off (o := .lst [V.str "x", V.str "y"]) n1 Fl
  have s1 := off_upd31 (a := a) (b := b) (o := .lst [V.str "x", V.str "y"]) h1
  have g1 : Bs31 a b (L2.upd H q1 (.lst [V.str "x", V.str "y"])) q1 = some (.lst [V.str "x", V.str "y"]) := (rm_at n1).trans upd_same
  generalize L2.upd H q1 (.lst [V.str "x", V.str "y"]) = H1 at h2 h3 F1 s1 g1
  have n2 : q2 ∉ [a, b] := flo31.out F1 h2
  have F2 := flo31.off (o := .lst [V.str "x", V.str "y", V.str "zzzzzzzz"]) n2 F1
  have t2 := off_upd31 (a := a) (b := b) (o := .lst [V.str "x", V.str "y", V.str "zzzzzzzz"]) h2
  have g2 : Bs31 a b (L2.upd H1 q2 (.lst [V.str "x", V.str "y", V.str "zzzzzzzz"])) q2 = some (.lst [V.str "x", V.str "y", V.str "zzzzzzzz"]) := (rm_at n2).trans upd_same
  have g1 := t2 _ _ g1
  generalize L2.upd H1 q2 (.lst [V.str "x", V.str "y", V.str "zzzzzzzz"]) = H2 at h3 F2 t2 g2 g1
  have n3 : q3 ∉ [a, b] := flo31.out F2 h3
  have F3 := flo31.off (o := .lst [V.str "none", V.str "x"]) n3 F2
  have t3 := off_upd31 (a := a) (b := b) (o := .lst [V.str "none", V.str "x"]) h3
  have g3 : Bs31 a b (L2.upd H2 q3 (.lst [V.str "none", V.str "x"])) q3 = some (.lst [V.str "none", V.str "x"]) := (rm_at n3).trans upd_same
  have g1 := t3 _ _ g1
  have g2 := t3 _ _ g2
  have s3 := s1.trans (t2.trans t3)
  generalize L2.upd H2 q3 (.lst [V.str "none", V.str "x"]) = H3 at F3 s3 g3 g2 g1
  clear t2 t3 s1 F1 F2 h2 h3 h1
  refine ⟨_, rfl, a, b, 4, rfl, F3, by decide, fun q4 ws4 H4 h4 h44 l4 w4 F4 s4 => ⟨by show 4 ≤ sizeLine; decide, fun LL hLL => ?_⟩⟩
  have n4 : q4 ∉ [a, b] := flo31.out F3 h4
  have g4 : Bs31 a b H4 q4 = some (.lst (ws4.map V.str)) := (rm_at n4).trans h44
  have nLL : LL ∉ [a, b] := flo31.out F4 hLL
  have F5 := flo31.off (o := .lst [.ref q1, .ref q2, .ref q3, .ref q4]) nLL F4
  have t5 := off_upd31 (a := a) (b := b) (o := .lst [.ref q1, .ref q2, .ref q3, .ref q4]) hLL
  have gLL : Bs31 a b (L2.upd H4 LL (.lst [.ref q1, .ref q2, .ref q3, .ref q4])) LL = some (.lst [.ref q1, .ref q2, .ref q3, .ref q4]) := (rm_at nLL).trans upd_same
  have wl : ∀ y ∈ [V.ref q1, V.ref q2, V.ref q3, V.ref q4], Wl31 (Bs31 a b (L2.upd H4 LL (.lst [.ref q1, .ref q2, .ref q3, .ref q4]))) y := fun y hy => by
    simp only [List.mem_cons, List.not_mem_nil, or_false] at hy
    rcases hy with rfl | rfl | rfl | rfl
    · exact ⟨q1, ["x", "y"], rfl, t5 _ _ (s4 _ _ g1), by decide, by decide, by decide +kernel⟩
    · exact ⟨q2, ["x", "y", "zzzzzzzz"], rfl, t5 _ _ (s4 _ _ g2), by decide, by decide, by decide +kernel⟩
    · exact ⟨q3, ["none", "x"], rfl, t5 _ _ (s4 _ _ g3), by decide, by decide, by decide +kernel⟩
    · exact ⟨q4, ws4, rfl, t5 _ _ g4, by omega, by omega, w4.2⟩
  have s5 := s3.trans (s4.trans t5)
  generalize L2.upd H4 LL (.lst [.ref q1, .ref q2, .ref q3, .ref q4]) = H5 at F5 gLL wl s5
  refine ⟨a, b, LL, _, rfl, F5, .inl (SqL.of gLL), Nat.le_of_ble_eq_true rfl, Nat.le_of_ble_eq_true rfl, fun j y H6 hy F6 s6 => ?_⟩
  have hw : Wl31 (Bs31 a b H6) y := (wl y (List.mem_of_getElem? hy)).same s6
  have s6 := s5.trans s6
  clear wl gLL F5 s5 t5 g4 h44 h4 F4 s4 g1 g2 g3 F3 s3 hy hLL nLL
  try simp only [gName, List.set_cons_succ, List.set_cons_zero]
  refine ⟨by show 0 ≤ sizeLine; decide, fun N hN => ?_⟩
  have nN : N ∉ [a, b] := flo31.out F6 hN
  have F7 := flo31.off (o := .lst []) nN F6
  have s7 := off_upd31 (a := a) (b := b) (o := .lst []) hN
  have hN7 := upd_same (H := H6) (a := N) (o := .lst [])
  generalize L2.upd H6 N (.lst []) = H7 at F7 s7 hN7
  try simp only [gName, List.set_cons_succ, List.set_cons_zero]
  refine ⟨_, rfl, _, rfl, _, _, rfl, rfl, a, b, m + 1, rfl, F7, by omega, by omega, fun n H8 hn F8 s8 => ⟨_, rfl, j31a _, j31b (by omega), ?_⟩⟩
  have hN8 := at31 s8 nN hN7
  have s8 := s7.trans s8
  clear F7 s7 hN7
  rw [Int.toNat_natCast]
  refine for_range (lo := 0) (n := n) (fun i σ H' => ∃ (f5 : Option V) (us : List V) (os : List Out), σ = [some (.ref a), some (.ref B), some (.int m), some y, some (.ref N), f5, none] ∧ H' N = some (.lst us) ∧ DpAll K (Bs31 a b H') us (os.map outD) ∧ Outs31 t i os ∧ Fl31 b H' a ∧ Same (Bs31 a b H6) (Bs31 a b H'))
    ⟨none, [], [], rfl, hN8, .nil, ⟨Nat.le_refl _, fun o h => absurd h List.not_mem_nil⟩, F8, s8⟩ ?_ ?_
  · rintro i σ H9 hi ⟨f5, us, os, rfl, g1, g2, g3, F9, s9⟩
    have lu := dps_len g2
    rw [List.length_map] at lu
    have lo := g3.ln
    try simp only [gName, List.set_cons_succ, List.set_cons_zero]
    refine ⟨_, rfl, .inl ⟨rfl, _, SqL.of g1⟩, _, rfl, _, rfl, B, vp, rfl, gP H9 (s6.trans s9), _, rfl, by show 6 ≤ sizeLine; decide, fun M hM => ?_⟩
    have nM : M ∉ [a, b] := flo31.out F9 hM
    have F10 := flo31.off (o := .lst [V.int 0, V.int 1, V.int 1, V.int 2, V.int 2, V.int 3]) nM F9
    have s10 := off_upd31 (a := a) (b := b) (o := .lst [V.int 0, V.int 1, V.int 1, V.int 2, V.int 2, V.int 3]) hM
    have gM : Bs31 a b (L2.upd H9 M (.lst [V.int 0, V.int 1, V.int 1, V.int 2, V.int 2, V.int 3])) M = some (.lst [V.int 0, V.int 1, V.int 1, V.int 2, V.int 2, V.int 3]) := (rm_at nM).trans upd_same
    have g1A := new_same hM (.lst [V.int 0, V.int 1, V.int 1, V.int 2, V.int 2, V.int 3]) _ _ g1
    generalize L2.upd H9 M (.lst [V.int 0, V.int 1, V.int 1, V.int 2, V.int 2, V.int 3]) = H10 at F10 s10 gM g1A
    refine ⟨a, b, M, _, rfl, F10, .inl (SqL.of gM), by decide, by decide, fun j y2 H11 hy2 F11 s11 => ?_⟩
    obtain ⟨k2, hk2, rfl⟩ := few_31 (List.mem_of_getElem? hy2)
    have t11 := s10.trans s11
    refine ⟨a, b, [a, b], vp, t, k2, rfl, F11, List.mem_cons_self, List.mem_cons_of_mem _ List.mem_cons_self, flo31.alive F11, dp_same (s6.trans (s9.trans t11)) dP, by omega, nd, vt, fun r l H12 hr12 _ hl F12 s12 => ?_⟩
    have t12 := t11.trans s12
    obtain ⟨q, ws, ey, hq, w1, w100, hws⟩ := hw.same (s9.trans t12)
    refine ⟨_, rfl, _, by rw [ey] <;> rfl, a, b, q, ws.map V.str, rfl, F12, .inl (SqL.of hq), by rw [List.length_map]; omega, by rw [List.length_map]; omega, fun j3 y3 H13 hy3 F13 s13 => ⟨by show 2 ≤ sizeLine; decide, fun z o hz ho => ?_⟩⟩
    rw [List.getElem?_map] at hy3
    obtain ⟨wd, hwd, rfl⟩ := Option.map_eq_some_iff.mp hy3
    have t13 := t12.trans s13
    have nz : z ∉ [a, b] := flo31.out F13 hz
    have F14 := flo31.off (o := .frz o (.tup [r, V.str wd])) nz F13
    have u14 := off_upd31 (a := a) (b := b) (o := .frz o (.tup [r, V.str wd])) hz
    have t14 := t13.trans u14
    have e14 : Bs31 a b (L2.upd H13 z (.frz o (.tup [r, V.str wd]))) z = some (.frz o (.tup [r, V.str wd])) := (rm_at nz).trans upd_same
    have ent : Dp K (Bs31 a b (L2.upd H13 z (.frz o (.tup [r, V.str wd])))) (.ref z) (outD (l, wd)) := .tup (.inl (.inr ⟨o, e14⟩)) (.cons (dp_same (s13.trans u14) hr12) (.cons (.str wd) .nil))
    generalize L2.upd H13 z (.frz o (.tup [r, V.str wd])) = H14 at F14 t14 ent
    have g14 := at31 t14 nN g1
    have g14B : Bs31 a b H14 N = some (.lst us) := (rm_at nN).trans g14
    refine ⟨N, us, .ref z, rfl, rfl, g14, small1000 (by omega), _, us ++ [.ref z], os ++ [(l, wd)], rfl, upd_same, ?_, ⟨by rw [List.length_append, List.length_singleton]; omega, fun e he => ?_⟩, flo31.off nN F14, off31 (s9.trans t14) hN⟩
    · rw [bs_upd31 nN, List.map_append]
      refine dps_put31 (dps_app (dps_same t14 g2) (.cons ent .nil)) g14B ?_
      rw [← List.map_singleton, ← List.map_append]
      exact noLs_map31 noL_out31 _
    · rcases List.mem_append.mp he with he | he
      · exact g3.ok e he
      · rw [List.mem_singleton.mp he]
        exact ⟨(by show l.length ≤ t.length; have := hl.ln; omega), hl.nd, hl.of, hws wd (List.mem_of_getElem? hwd)⟩
  · rintro σ H9 ⟨f5, us, os, rfl, g1, g2, g3, F9, s9⟩
    dsimp only
    refine seq_cut (fun σ H' => ∃ (N : Addr) (us : List V) (os : List Out), σ = [some (.ref a), some (.ref B), some (.int m), some y, some (.ref N), f5, none] ∧ H' N = some (.lst us) ∧ DpAll K (Bs31 a b H') us (os.map outD) ∧ Outs31 t m os ∧ Fl31 b H' a ∧ Same (Bs31 a b H6) (Bs31 a b H')) ?_ (fun join => ?_)
    · rintro σ H10 ⟨N, us, os, rfl, g1, g2, g3, F10, s10⟩
      refine ⟨_, rfl, N, us, rfl, .inl ⟨SqL.of g1, fun z o hz ho => ?_⟩⟩
      have nz : z ∉ [a, b] := flo31.out F10 hz
      exact k _ os _ (.tup (.inl (.inr ⟨o, (rm_at nz).trans upd_same⟩)) (dps_same (off_upd31 hz) g2)) g3 (flo31.off nz F10) (s6.trans (s10.trans (off_upd31 hz)))
    · have lo := g3.ln
      have g3 : Outs31 t m os := ⟨by omega, g3.ok⟩
      have lu := dps_len g2
      rw [List.length_map] at lu
      refine ⟨_, rfl, a, b, 3, rfl, F9, by decide, by decide, fun r H10 hr10 F10 s10 => ⟨_, _, rfl, rfl, _, rfl, iteB (fun e => ?_) (fun e => nxt (join _ _ ⟨N, us, os, rfl, at31 s10 nN g1, dps_same s10 g2, g3, F10, s9.trans s10⟩))⟩⟩
      have g10 := at31 s10 nN g1
      have g20 := dps_same rm_le (dps_same s10 g2)
      refine lc_row (ys := us) (fun D i H' => ∃ cs, H' D = some (.lst cs) ∧ DpAll K H' cs (((os.take i).filter fun o => !decide (o.1 = [])).map outD) ∧ Same H10 H') (fun Q' z => ⟨_, rfl, z⟩) (.inl (SqL.of g10)) (fun D hD => ⟨[], upd_same, .nil, new_same hD _⟩) (fun D i H' _ hP => by obtain ⟨_, _, _, z⟩ := hP; exact z) (fun D i x H11 hD hi hP hx => ?_) (fun D H11 hD hP => ?_)
      · obtain ⟨cs, c1, c2, s11⟩ := hP
        obtain ⟨d, he, hx'⟩ := dps_get g20 hx
        rw [List.getElem?_map] at he
        obtain ⟨o, eo, rfl⟩ := Option.map_eq_some_iff.mp he
        have hx1 := dp_same s11 hx'
        have lc := dps_len c2
        rw [List.length_map] at lc
        have lf := List.length_filter_le (fun o : Out => !decide (o.1 = [])) (os.take i)
        rw [List.length_take] at lf
        obtain ⟨qp, va, vb2, rfl, hqp, hva, hvb⟩ := dp_two31 hx1
        refine ⟨rfl, ?_⟩
        have ok := g3.ok o (List.mem_of_getElem? eo)
        have rs : RStr o.1 := fun e he => by
          obtain ⟨ws, h1, h2⟩ := ok.2.2.1 e he
          exact ⟨word_ok (tk.nm.2 _ (List.mem_map.mpr ⟨_, h1, rfl⟩)), word_ok ((tk.vs _ h1).1.2 _ h2)⟩
        refine ⟨_, rfl, ix_row (.inr hqp) (by rfl) ⟨by show 0 ≤ sizeLine; decide, fun z oz hz hoz => ⟨ruleD o.1, .tuple [], dp_same (new_same hz _) hva, .tup (.inl (.inr ⟨oz, upd_same⟩)) .nil, rule_shaped rs, by decide +kernel, _, rfl, ?_⟩⟩⟩
        have ee : PyData.eqv (ruleD o.1) (.tuple []) = decide (o.1 = []) := eqv_rule o.1 []
        rw [ee, take_one eo, List.filter_append]
        have s12 := new_same hz (.frz oz (.tup []))
        have cD := s12 _ _ c1
        cases c : decide (o.1 = []) with
        | false =>
          refine iteT ⟨_, rfl, cs, cD, small1000 (by omega), cs ++ [.ref qp], upd_same, ?_, fun y u ey => ?_⟩
          · rw [List.filter_cons_of_pos (by rw [c] <;> rfl), List.filter_nil, List.map_append]
            refine dps_put31 (dps_app (dps_same s12 c2) (.cons (dp_same s12 hx1) .nil)) cD ?_
            rw [← List.map_append]
            exact noLs_map31 noL_out31 _
          · rw [upd_ne (ne_of_none ey hD)]
            exact s12 _ _ (s11 _ _ ey)
        | true =>
          refine iteF ⟨cs, cD, ?_, s11.trans s12⟩
          rw [List.filter_cons_of_neg (by rw [c]; decide), List.filter_nil, List.append_nil]
          exact dps_same s12 c2
      · obtain ⟨cs, c1, c2, s11⟩ := hP
        rw [lu, List.take_length] at c2
        have F11 : Fl31 b H11 a := flo31.same s11 F10
        refine join _ _ ⟨D, cs, os.filter fun o => !decide (o.1 = []), rfl, c1, dps_nl31 F11.all c2 (noLs_map31 noL_out31 _), ⟨Nat.le_trans (List.length_filter_le _ _) g3.ln, fun o ho => g3.ok o (List.mem_filter.mp ho).1⟩, F11, s9.trans (s10.trans (rm_same s11))⟩
end
end Q
set_option Elab.async false
set_option linter.all false
set_option maxRecDepth 100000
/-! l.count(x), a list of flat values (HandS.SetFor has whole numbers alone). -/
namespace L2
open PySem PySem.Spec PyProof.Rows
def rCntF (K : PySem.W.Frag) : V → List V → Hp → VK → Prop := fun x xs H Q => ∃ (p : Addr) (ys : List V) (y : V), x = .ref p ∧ xs = [y] ∧ SqL K H p ys ∧ flatV y = true ∧ ys.all flatV = true ∧ Q (.int (ys.countP fun z => eqV z y : Nat)) H
theorem count_eqU {x : V} : ∀ {xs : List V} {us : List Value}, Vals xs us → xs.all flatV = true → us.countP (eqU x) = xs.countP fun y => eqV y x
  | _, _, .nil, _ => rfl
  | y :: xs, u :: us, .cons r t, f => by
    rw [List.all_cons, Bool.and_eq_true] at f
    rw [List.countP_cons, List.countP_cons, eqU_of r f.1, count_eqU t f.2]
theorem mt_lcountF {X : Cx} (K : PySem.W.Frag) (hK : X.K = K) : MtR X "list.count" (rCntF K) := by
  subst hK
  intro pins s σ H x xs v us Q I rx rxs h
  obtain ⟨p, ys, y, rfl, rfl, hs, fy, fys, q⟩ := h
  cases rx
  obtain ⟨u, rfl, ru⟩ := rxs.one
  obtain ⟨its, rv, ⟨⟨cls, dd, data, sl⟩, n, ho, hc, hdn, hd⟩, hlen⟩ := I.list hs
  simp only at hc hd
  subst hc hd
  refine call_meets PySem.F.slot_list_count ⟨_, ho, rfl⟩ PySem.F.entry_list_count (PySem.F.args_list_count_2 _ _)
    (SeqAt.list_countAt p its.toArray n dd sl u (eqU y)) ⟨ho, fun u' hu' => mem_eqAt ru fy rv fys u' (by simpa using hu'), ?_⟩
  refine ⟨.int (ys.countP fun z => eqV z y : Nat), H, I.tok _, ⟨s.toks, ?_⟩, q⟩
  show Value.int ((its.toArray.toList.countP (eqU y) : Nat) : Int) s.toks = _
  rw [show its.toArray.toList = its by simp, count_eqU rv fys]
end L2
set_option Elab.async false
set_option linter.all false
set_option maxRecDepth 100000
set_option maxHeartbeats 4000000
/-! ### settled -/
namespace Q
open PySem L2 XD
def oneWord : List Str → Option Str
  | [] => none
  | w :: ws => if ws.all (fun x => decide (x = w)) = true then some w else none
def optV : Option Str → V
  | some w => .str w
  | none => .non
def spSettled (K : PySem.W.Frag) (C CV : Addr) : Sp := fun vs H Q E => ∃ (x pf pr : Addr) (t : Tbl) (rs : List (List Pr)) (vo v : V) (o d : PyData), vs = [.ref x, vo, v] ∧ Frm K C H x pf pr t rs ∧ Ocs K H vo o ∧ Fcs K H t v d ∧
  (isOuts t o = false → bad31 CV 1 H E) ∧ (isOuts t o = true → areFacts t d = false → bad31 CV 2 H E) ∧ (isOuts t o = true → areFacts t d = true → ∀ H', Same H H' → Q (optV (oneWord ((fills rs (factsOf d) t).map (wordOf (outsOf o))))) H')
theorem all_flat31 : ∀ ws : List Str, (ws.map V.str).all flatV = true
  | [] => rfl
  | w :: ws => by rw [List.map_cons, List.all_cons, all_flat31 ws] <;> rfl
theorem count_le31 (w : Str) (ws : List Str) : ((ws.map V.str).countP fun z => eqV z (.str w)) = ws.countP fun x => decide (x = w) := by
  rw [List.countP_map]
  refine congrArg (fun f => ws.countP f) (funext fun x => ?_)
  show (x == w) = decide (x = w)
  rw [Bool.eq_iff_iff, decide_eq_true_iff]
  exact beq_iff_eq
theorem count_all31 (w : Str) (ws : List Str) : decide (V.int ((((w :: ws).map V.str).countP fun z => eqV z (.str w) : Nat) : Int) = V.int (((w :: ws).map V.str).length : Int)) = ws.all fun x => decide (x = w) := by
  rw [count_le31, List.length_map, Bool.eq_iff_iff, decide_eq_true_iff, List.countP_cons, if_pos (decide_eq_true rfl), List.length_cons]
  constructor
  · intro h
    have h : ((ws.countP fun x => decide (x = w)) + 1 : Nat) = ws.length + 1 := by
      have := V.int.inj h
      omega
    have := List.countP_eq_length.mp (Nat.succ.inj h)
    exact List.all_eq_true.mpr this
  · intro h
    rw [List.countP_eq_length.mpr (List.all_eq_true.mp h)]
theorem fills_len31 {t : Tbl} {rs : List (List Pr)} (O : FormOk t rs) {f : List Pr} : (fills rs f t).length ≤ 1000 := by
  rw [fills_eq O.nd O.rq]
  refine Nat.le_trans (List.length_filter_le _ _) ?_
  have := chs_len t [[]]
  have e : (chs t).length = waysFrom 1 t := this
  rw [e]
  exact O.ws
theorem lc_tup31 {K : PySem.W.Frag} {p : Addr} {ys : List V} {g : TG} {tt : TT} {te : TE} {vs : List Nat} {σ : L2.St} {H : Hp} {Q : VK} (Pv : Addr → Nat → Hp → Prop) (hq : SqT K H p ys)
    (h0 : ∀ D, H D = none → Pv D 0 (upd H D (.lst []))) (hG : ∀ D i H', H D = none → Pv D i H' → Same H H')
    (hs : ∀ D i x H', H D = none → i < ys.length → Pv D i H' → ys[i]? = some x → g x (wipe σ vs) H' fun σ2 H2 => wipe σ2 vs = wipe σ vs ∧ tt σ2 H2 fun b H3 =>
      if b = true then te σ2 H3 fun y H4 => ∃ acc, H4 D = some (.lst acc) ∧ acc.length < sizeLine ∧ Pv D (i + 1) (upd H4 D (.lst (acc ++ [y]))) else Pv D (i + 1) H3)
    (hd : ∀ D H', H D = none → Pv D ys.length H' → Q (.ref D) H') : tLc (iTup K (tC (.ref p))) g tt te vs σ H Q := by
  refine ⟨p, rfl, ⟨ys, hq⟩, fun D hD => lc_it walk_tup (Pv D) (h0 D hD) (fun i H' _ hP => seqT_same (hG D i H' hD hP) hq) (fun i x H1 H2 hi hP hY => ?_) (fun H' hP => hd D H' hD hP)⟩
  obtain ⟨rfl, hx⟩ := hY
  exact hs D i x H2 hD hi hP hx
theorem lc_callT31 {K : PySem.W.Frag} {spG : Sp} {E : XK} {ta : TA} {g : TG} {tt : TT} {te : TE} {vs : List Nat} {σ : L2.St} {H : Hp} {Q : VK} (h : ta σ H fun xs H1 => spG (xs ++ []) H1 (fun v H2 => tLc (iTup K (tC v)) g tt te vs σ H2 Q) E) : tLc (iRow K (tCall spG [] E ta)) g tt te vs σ H Q := .inr h
abbrev nSt31 : List Str := ["form", "outcomes", "facts", "kept", "row", "words"]
section
variable {P : Program} {w : World} {K : PySem.W.Frag} {mg : Str → Option Value} {base : Heap}
theorem scSt31 : FnScope nSt31 ["form", "outcomes", "facts"] (defScope sSettled) := ⟨rfl, rfl, rfl, by decide +kernel, rfl, by decide +kernel, by decide +kernel⟩
theorem ok_settled {f C CV : Addr} {fd : FuncData} (F : Fun K "settled" "settled" sSettled f fd) (Z : Fk P w K mg base C) (R : Bv K mg CV) (Tn : mg "len" = none) (KC : Ke31 P w K mg base 4 "check_outcomes" ["form", "outcomes"] (spCheckO K C CV)) (KA : Kn P w K mg base 3 "are_facts" ["fields", "facts"] (spAreFacts K)) (KG : Ke31 P w K mg base 4 "fillings" ["form", "facts"] (spFillings K C CV))
    (KI : Kn P w K mg base 6 "in_tuples" ["thing"] (spInT24 K 4)) (KO : Kn P w K mg base 1 "outcome_of" ["outcomes", "filling"] (spOo31 K)) : FnOk P w K mg base (L2N.CX P w) 7 f fd ["form", "outcomes", "facts"] (spSettled K C CV) := by
  obtain ⟨fC, fdC, GC, kC, bC, mC⟩ := KC.ex
  obtain ⟨fA, fdA, GA, kA, bA, mA⟩ := KA.ex
  obtain ⟨fL, fdL, GL, kL, bL, mL⟩ := KG.ex
  obtain ⟨fI, fdI, GI, kI, bI, mI⟩ := KI.ex
  obtain ⟨fO, fdO, GO, kO, bO, mO⟩ := KO.ex
  obtain ⟨fG, fdG, GG, bG, mG⟩ := Z.gf
  obtain ⟨fIv, qv, XV⟩ := R.v
  refine Fun_okN F scSt31 (fun vs H Q E h => ?_) (fun cdv A outer s H vs Q E hr h => ?_)
  · obtain ⟨x, pf, pr, t, rs, vo, v, o, d, rfl, _⟩ := h
    rfl
  have hr1 := hr.mono (show 1 ≤ 6 by decide)
  have hr3 := hr.mono (show 3 ≤ 6 by decide)
  have hr4 := hr.mono (show 4 ≤ 6 by decide)
  refine ⟨_, pss_cons (ps_expr (pe_call GC hr4 (by rfl) mC kC bC .nil (L2N.passes_call (L2N.takes_of rfl rfl rfl rfl) (fun _ _ _ _ h => h)) (pa_cons (pv 0) (pa_cons (pv 1) pa_nil))))
    (pss_cons (ps_if (pt_not (pt_val (pe_call GA hr3 (by rfl) mA kA bA .nil pass0 (pa_cons (pe_meth0 (pv 0) Z.fc.cl mG GG hr1 bG .nil pass0) (pa_cons (pv 2) pa_nil))))) (pss_one (L2N.ps_raise rfl (L2N.takes_of rfl rfl rfl rfl) (XM.pmk XV R.gv hr (pa_cons pe_int pa_nil)))) pss_nil)
    (pss_cons (ps_set (i := 3) scSt31.nd rfl (.inr rfl) (pe_call GI hr (by rfl) mI kI bI .nil pass0 (pa_cons (pv 1) pa_nil)))
    (pss_cons (ps_setLc (i := 5) (own := [("row", 4)]) (g := gName 4) (tt := tYes) (by rfl) scSt31.nd rfl rfl (sw_true rfl rfl rfl (by decide +kernel)) (pi_row (pe_call GL hr4 (by rfl) mL kL bL .nil (L2N.passes_call (L2N.takes_of rfl rfl rfl rfl) (fun _ _ _ _ h => h)) (pa_cons (pv 0) (pa_cons (pv 2) pa_nil)))) (blkOk_by (N := nSt31) (sc := defScope sSettled) (by decide +kernel)) (fun _ _ _ _ _ => (pg_name (i := 4) scSt31.nd rfl (.inl rfl))) (fun _ _ _ _ _ => pts_nil) (fun _ _ _ _ _ => (pe_call GO hr1 (by rfl) mO kO bO .nil pass0 (pa_cons (pv 3) (pa_cons (pv 4) pa_nil)))))
    (pss_one (ps_ret (pe_ifExp (PW.pt (pw_and (pt_truth (pv 5) (fun _ => rfl)) (pw_and1 (pt_cmpR op_eq (pe_bm PySem.F.plainAttrs_list PySem.F.slot_list_count PySem.F.type_list_count (mt_lcountF K rfl) (pv 5) (pa_cons (pe_ix (ix_both K rfl) (pv 5) pe_int (fun _ _ => rfl)) pa_nil)) (pe_callB call_len_seq (by rfl) Tn PySem.boot_len (pa_cons (pv 5) pa_nil)) (nomark _))))) (pe_ix (ix_both K rfl) (pv 5) pe_int (fun _ _ => rfl)) pe_non)))))), ?_⟩
  obtain ⟨x, pf, pr, t, rs, vo, v, o, d, rfl, Fr, Oc, Fc, k1, k2, k3⟩ := h
  try simp only [L2.start, gName, List.map_cons, List.map_nil, List.length_cons, List.length_nil, Nat.reduceAdd, Nat.reduceSub, List.replicate_succ, List.replicate_zero, List.cons_append, List.nil_append, List.set_cons_succ, List.set_cons_zero]
  obtain ⟨dx, hx⟩ := Fr.fa
  have h1000 : t.length ≤ 1000 := by
    obtain ⟨_, _, _, _, _, h⟩ := Fr.tf
    exact h
  refine ⟨_, rfl, _, rfl, x, pf, pr, t, vo, o, rfl, Fr.fa, Fr.tf, Oc.dp, Oc.oo, Oc.le, fun e => k1 e, fun eo H1 s1 => ?_⟩
  have Fr1 := Fr.same s1
  have Fc1 := Fc.same s1
  refine ⟨_, rfl, x, dx, _, rfl, s1 _ _ hx, noF, x, pf, pr, rfl, ⟨dx, s1 _ _ hx⟩, _, rfl, pf, t, v, d, rfl, Fr1.tf, Fc1.dp, Fc1.fo, fun H2 s2 => ⟨_, rfl, ?_⟩⟩
  cases ea : areFacts t d with
  | false => exact iteT ⟨_, rfl, fun dd hdd => k2 eo ea dd H2 (s1.trans s2) hdd⟩
  | true =>
    refine iteF (nxt ?_)
    refine ⟨_, rfl, vo, o, rfl, dp_same (s1.trans s2) Oc.dp, outs_deep31 eo h1000, fun r H3 s3 hr3_ => ?_⟩
    rw [outs_tupled31 eo] at hr3_
    have s13 := s1.trans (s2.trans s3)
    have Fr3 := Fr.same s13
    have Fc3 := Fc.same s13
    have k3 := k3 eo ea
    have os31 := outs_str31 eo Fr.ok.ts h1000
    generalize outsOf o = os at hr3_ k3 os31
    try simp only [gName, List.set_cons_succ, List.set_cons_zero]
    refine asg_lcX (lc_callT31 ?_)
    refine ⟨_, rfl, _, rfl, x, pf, pr, v, t, rs, d, rfl, Fr3.fa, Fr3.tf, Fr3.rf, Fr3.ok, Fc3.dp, Fc3.fo, Fc3.fz, (fun e => by rw [ea] at e; cases e), fun _ z H4 s4 hz => ?_⟩
    obtain ⟨vs, hz1, hz2⟩ := hz
    have rowS : ∀ row ∈ fills rs (factsOf d) t, RStr row := fun row hr => fills_str31 Fr.ok hr
    have rowN : (fills rs (factsOf d) t).length ≤ 1000 := fills_len31 Fr.ok
    generalize fills rs (factsOf d) t = rows at hz2 k3 rowS rowN
    have hvl := prd_len hz2
    have s14 := s13.trans s4
    have hr4_ := dp_same s4 hr3_
    refine lc_tup31 (ys := vs) (fun D i H' => H' D = some (.lst (((rows.take i).map (wordOf os)).map V.str)) ∧ Same H4 H') hz1 (fun D hD => ⟨upd_same, new_same hD _⟩) (fun D i H' hD hP => hP.2) (fun D i y H5 hD hi hP hy => ?_) (fun D H5 hD hP => ?_)
    · obtain ⟨hL, s5⟩ := hP
      obtain ⟨row, hrow, hrw⟩ := prd_at hz2 hy
      obtain ⟨p, rfl, hlot⟩ := hrw.lot
      refine ⟨rfl, ?_⟩
      unfold tYes
      refine iteT ⟨_, rfl, _, rfl, _, _, _, _, rfl, dp_same s5 hr4_, dp_same s5 hlot.dp, os31, rowS row (List.mem_of_getElem? hrow), fun H6 s6 => ⟨_, s6 _ _ hL, small1000 ?_, ?_, fun b u e => ?_⟩⟩
      · rw [List.length_map, List.length_map, List.length_take]
        omega
      · rw [upd_same, take_one hrow, List.map_append, List.map_append] <;> rfl
      · rw [upd_ne (ne_of_none e hD)]
        exact s6 _ _ (s5 _ _ e)
    · obtain ⟨hL, s5⟩ := hP
      rw [List.take_of_length_le (by omega)] at hL
      have k4 := k3 H5 (s14.trans s5)
      cases hw : rows.map (wordOf os) with
      | nil =>
        rw [hw] at hL k4
        exact ⟨_, rfl, false, .inl ⟨_, SqL.of hL, rfl⟩, iteF (iteF k4)⟩
      | cons w0 ws =>
        have wl : (w0 :: ws).length ≤ 1000 := by rw [← hw, List.length_map]; exact rowN
        rw [hw] at hL k4
        have e0 : atI ((w0 :: ws).map V.str) 0 = some (V.str w0) := at_of (j := 0) rfl rfl
        refine ⟨_, rfl, true, .inl ⟨_, SqL.of hL, rfl⟩, iteT ⟨_, rfl, .inl ⟨rfl, _, SqL.of hL⟩, _, rfl, ix_row (.inl (SqL.of hL)) e0 ⟨D, _, _, rfl, rfl, SqL.of hL, rfl, all_flat31 _, _, rfl, D, _, rfl, .inl (SqL.of hL), rfl, _, rfl, ?_⟩⟩⟩
        have ec : decide (V.int ((((w0 :: ws).map V.str).countP fun z => eqV z (.str w0) : Nat) : Int) = V.int (((w0 :: ws).map V.str).length : Int)) = ws.all fun x => decide (x = w0) := count_all31 w0 ws
        rw [ec]
        cases c : ws.all (fun x => decide (x = w0)) with
        | false =>
          have e : oneWord (w0 :: ws) = none := if_neg (by rw [c]; decide)
          rw [e] at k4
          exact iteF k4
        | true =>
          have e : oneWord (w0 :: ws) = some w0 := if_pos c
          rw [e] at k4
          exact iteT ⟨_, rfl, ix_row (.inl (SqL.of hL)) e0 k4⟩
end
end Q
set_option Elab.async false
set_option linter.all false
set_option maxRecDepth 100000
set_option maxHeartbeats 4000000
/-! Within an except suite: isinstance of what was caught (it has its own dict); all(..) of a list of truths; a list comprehension over a range. -/
namespace XH
open PySem PySem.Spec PySem.W PySem.Calls PyProof.Rows
section
variable {prog : Program} {w : World} {A : Around} {E : Value → Shared → Prop} {s : Shared} {K : Frag} {x D : Addr} {ox : Obj} {od : Option Obj}
/-- what the class says, so that isinstance asks its instances rightly -/
structure ClsQ (K : Frag) (D : Addr) : Prop where
  hg : findIn K (.ref D) "__getattribute__" = some (some (.builtin "BaseException.__getattribute__"))
  hk : findIn K (.ref D) "__getattr__" = some none
  hs : subIn K (.ref D) (.type "BaseException") = some true
  hd : hasDictIn K D = true
  ha : findIn K (.ref D) "__class__" = some (some (.builtin "object.__class__"))
  hn : specialIn K (.builtin "object.__class__") "__get__" = some (some (.builtin "getset_descriptor.__get__"))
  ht : takesIn K (.builtin "object.__class__") = some true
  hm : mroIn K D (.type "object") = some true
theorem class_found (T : ClsQ K D) : findObj K D od "__class__" = some (.bind (.builtin "getset_descriptor.__get__") (.builtin "object.__class__")) := by
  obtain ⟨cd, hc, _⟩ := any_some T.hd
  have h1 := T.hn
  have h2 := T.ht
  unfold findObj
  rw [hc, Option.bind_some, T.ha, Option.bind_some]
  simp [h1, h2]
theorem asked_class (T : ClsQ K D) {Q : Option Value → Shared → Prop} (X : K.In s.heap) (I : InstAt s.heap x ox D od)
    (h : Q (some (.ref D)) { s with toks := s.toks + 1 }) : wpAny (model prog w) A (getAttr? (.ref x) "__class__") Q E s := by
  have hf := class_found (od := od) T
  obtain ⟨hp, g, d, t, os⟩ := s
  have ty := I.type (M := model prog w)
  have l1 := looks_findIn (M := model prog w) X T.hg
  have l2 := looks_findIn (M := model prog w) X T.hk
  have l3 := looks_find (M := model prog w) X I hf
  have sub : Looks (model prog w) hp (isInstance (.ref x) (.type "BaseException")) true := ty.andThen (looks_subIn X T.hs)
  have no0 : (false && onTheHeap (Value.builtin "BaseException.__getattribute__")) = false := rfl
  have no2 : (Value.builtin "BaseException.__getattribute__" == Value.builtin "object.__getattribute__") = false := by
    decide +kernel
  have no1 : (onTheHeap (Value.ref D) && Value.builtin "BaseException.__getattribute__" == Value.builtin "object.__getattribute__") = false := by
    rw [no2]
    rfl
  unfold getAttr? getAttrBy? getAttrBy
  refine wpAny_bind (wpAny_mkText (wpAny_bind (wpAny_attempt (wpAny_holding (wpAny_bind (ty.at (wpAny_bind (l1.at ?_))))))))
  show wpAny _ _ (if (onTheHeap (Value.ref D) && Value.builtin "BaseException.__getattribute__" == Value.builtin "object.__getattribute__") = true then _ else _) _ _ _
  rw [no1, if_neg Bool.false_ne_true]
  unfold getAttrByItsOwn hookBefore
  refine wpAny_bind ?_
  rw [if_pos (show onTheHeap (Value.ref D) = true from rfl)]
  refine l2.at ?_
  refine wpAny_bind (wpAny_attempt (wpAny_holding ?_))
  unfold callGetattribute
  rw [no0, if_neg Bool.false_ne_true]
  unfold boundAndCalled
  rw [PySem.F.excAttr_ValueError.ga.bind (.ref x)]
  refine wpAny_bind (wpAny_pure ?_)
  show wpAny _ _ (call (.builtin "BaseException.__getattribute__") [.ref x, .str "__class__" t]) _ _ _
  refine wpAny_call (codeAny_call_builtin PySem.F.excAttr_ValueError.ga.plain PySem.F.entry_bexc_ga ?_)
  refine @check_slot (model prog w) _ _ ⟨hp, g, d, t + 1, os⟩ "BaseException.__getattribute__" "BaseException" "__getattribute__" (.ref x) [.str "__class__" t] [] _ (by decide +kernel) (by decide +kernel) sub (PySem.F.args_bexc_ga (.ref x) (.str "__class__" t)) ?_
  unfold Builtin.«object.__getattribute__»
  refine wpAny_bind (wpAny_of_eq (a := ((Value.ref x : Value), [Value.str "__class__" t])) (by first | rfl | (simp only [slotArgs]; rfl)) ?_)
  refine wpAny_bind (wpAny_pure (wpAny_bind (ty.at (wpAny_bind (l3.at ?_)))))
  show wpAny _ _ (holding [Value.builtin "object.__class__"] (call (.builtin "getset_descriptor.__get__") [.builtin "object.__class__", .ref x, .ref D]) >>= ret) _ _ _
  refine wpAny_bind (wpAny_holding (wpAny_call (class_get (s := ⟨hp, g, d, t + 1, os⟩) (ox := ox) (od := od) X I T.hm ?_)))
  refine wpAny_pure ?_
  show wpAny _ _ (handedOut (.ref D)) _ _ _
  rw [handedOut_of (v := .ref D) rfl]
  first
    | exact wpAny_pure (wpAny_pure h)
    | exact wpAny_pure h
    | exact wpAny_pure (wpAny_bind (wpAny_pure (wpAny_pure h)))
theorem kit_err (T : ClsQ K D) : KitX K (.ref x) (.ref D) (fun h => ∃ ox od, InstAt h x ox D od) where
  ty := fun _ _ _ ⟨_, _, I⟩ => I.type
  it := fun _ _ X _ => by
    obtain ⟨cd, hc, _⟩ := any_some T.hd
    unfold clsIn at hc
    split at hc
    · rename_i c' d' cd' sl' ho
      intro A' Q' E' s' k q
      unfold isType loadHead
      exact wpAny_bind (wpAny_loadPart (k _ _ (X _ _ ho)) (wpAny_pure q))
    · cases hc
  ne := fun h tp dd its n sl X htp => by
    obtain ⟨cd, hc, _⟩ := any_some T.hd
    refine Bool.eq_false_iff.mpr fun q => ?_
    have e : D = tp := Value.ref.inj (beq_iff_eq.mp q)
    subst e
    unfold clsIn at hc
    split at hc
    · rename_i c' d' cd' sl' ho
      have z := (X _ _ ho).symm.trans htp
      cases z
    · cases hc
  ca := fun X I k => by
    obtain ⟨ox, od, I⟩ := I
    exact asked_class T X I k
end
end XH
namespace XH
open PySem PySem.Spec PyProof.Rows L2
/-- isinstance(e, c): e what the suite holds, c one class -/
def rIs1 (K : PySem.W.Frag) (D a : Addr) : List V → Hp → VK → Prop := fun xs H Q =>
  ∃ (c : V) (cv : Value) (b : Bool), xs = [.ref a, c] ∧ ClsV c cv ∧ PySem.W.kitOne K (.ref D) cv = some b ∧ Q (.bl b) H
/-- isinstance(e, (c1, ..)): the tuple just laid -/
def rIsN (K : PySem.W.Frag) (D a : Addr) : List V → Hp → VK → Prop := fun xs H Q =>
  ∃ (tp : Addr) (cs : List V) (us : List Value) (b : Bool), xs = [.ref a, .ref tp] ∧ H tp = some (.tup cs) ∧ Paired ClsV cs us ∧ PySem.W.kitAny K (.ref D) us = some b ∧ Q (.bl b) H
section
variable {X : Cx} {a D dx : Addr} {oe : Obj} {pn : List (Addr × Obj)} {fs : List (Str × V)} {cls : Value} {d : Option Addr}
theorem held_inst {pins : List (Addr × Obj)} {σ : L2.St} {H : Hp} {s : Shared} (I : Inv (X.suite a ((a, oe) :: pn)) pins σ H s)
    (hz : Zc (.ref D) (some dx) oe) (hf : ∃ vs, oe.data = .fields vs) (hd : H dx = some (.xd fs)) : ∃ ox od, PySem.W.InstAt s.heap a ox D od := by
  obtain ⟨hget, _⟩ := I.pin (a, oe) (List.mem_append.mpr (.inl List.mem_cons_self))
  have hx : ObjOk X.prog X.w H s.heap dx (.xd fs) := I.hok dx _ hd
  obtain ⟨mA, hns, _⟩ := hx
  obtain ⟨o1, ho, _⟩ := lookIn_ns hns
  obtain ⟨vs, hv⟩ := hf
  exact ⟨oe, some o1, hget, hz.1, by unfold PySem.W.notCls; rw [hv] <;> rfl, by rw [hz.2]; exact ho⟩
/-- the class of what is held, its dict -/
def Held (K : PySem.W.Frag) (cls : Value) (d : Option Addr) (D : Addr) (H : Hp) : Prop :=
  cls = .ref D ∧ ClsQ K D ∧ ∃ dx fs, d = some dx ∧ H dx = some (.xd fs)
theorem call_is1 (hz : Zc cls d oe) (hf : ∃ vs, oe.data = .fields vs) :
    CallR (X.suite a ((a, oe) :: pn)) (.builtin "isinstance") (fun xs H Q => ∃ D, Held X.K cls d D H ∧ rIs1 X.K D a xs H Q) := by
  intro pins s σ H xs us Q I r h
  obtain ⟨D, ⟨rfl, T, dx, fs, rfl, hd⟩, c, cv, b, rfl, hc, e, q⟩ := h
  obtain ⟨u1, u2, rfl, r1, r2⟩ := vals2 r
  have ec := hc.eq r2
  subst ec
  cases (show u1 = Value.ref a from r1)
  exact PySem.W.kia_one (kit_err T) I.kIn (held_inst I hz hf hd) e (fun z => nomatch z) fun tk => ⟨.bl b, H, I.tok tk, rfl, q⟩
theorem call_isN (hz : Zc cls d oe) (hf : ∃ vs, oe.data = .fields vs) :
    CallR (X.suite a ((a, oe) :: pn)) (.builtin "isinstance") (fun xs H Q => ∃ D, Held X.K cls d D H ∧ rIsN X.K D a xs H Q) := by
  intro pins s σ H xs us Q I r h
  obtain ⟨D, ⟨rfl, T, dx, fs, rfl, hd⟩, tp, cs, ws, b, rfl, hT, hc, e, q⟩ := h
  obtain ⟨u1, u2, rfl, r1, r2⟩ := vals2 r
  cases (show u1 = Value.ref a from r1)
  cases (show u2 = Value.ref tp from r2)
  obtain ⟨_, its, rv, o, h1, h2, n, h3⟩ := (show ObjOk X.prog X.w H s.heap tp (.tup cs) from I.hok tp _ hT)
  have e3 := ClsV.all hc rv
  subst e3
  have ht : s.heap.get? tp = some ⟨.type "tuple", o.dict, .seq its.toArray n, o.slots⟩ := by
    rw [h1]
    obtain ⟨oc, od, oda, osl⟩ := o
    cases h2
    cases h3
    rfl
  exact PySem.W.kia_tup (kit_err T) I.kIn (held_inst I hz hf hd) ht e (fun z => nomatch z) fun tk => ⟨.bl b, H, I.tok tk, rfl, q⟩
end
end XH
namespace XH
open PySem PySem.Spec PyProof.Rows L2 HotX L2H
section
variable {prog : Program} {w : World} {A : Around} {E : Value → Shared → Prop} {s : Shared}
/-- the end of a list's iterator while an exception is handled: the StopIteration has it as its context, and is dropped -/
theorem list_end_hot {it l x1 : Addr} {i : Nat} {items : Array Value} {Q : Option Value → Shared → Prop} (hot : HotAt A x1 s.heap) (nx : x1 ≠ it)
    (hit : s.heap.IsListIter it l i) (hl : s.heap.IsList l items) (hx : items[i]? = none)
    (hQ : ∀ h', Heap.ExtBut it s.heap h' → Q none { s with heap := h' }) : wpAny (model prog w) A (pyNext (.ref it)) Q E s := by
  obtain ⟨o, ho, hc, hd⟩ := id hit
  obtain ⟨ol, hol, _, nl, hdl⟩ := hl
  obtain ⟨hh, o1, vs1, g1, d1, c1⟩ := hot
  unfold pyNext
  refine wpAny_bind (wpAny_attempt (wpAny_callSpecial?_slot (name := Str.ofString "__next__") hit.typeIs slot_listiter_next
    (wpAny_call_entry slot_listiter_next hit.typeIs entry_listiter_next ?_ (args_listiter_next _))))
  show wpAny _ _ (field (.ref it) 0 >>= _) _ _ s
  refine wpAny_bind (wpAny_field ho hd (x := .ref l) rfl ?_)
  show wpAny _ _ (if (Value.ref l == Value.none) = true then _ else _) _ _ s
  rw [if_neg (show ¬ ((Value.ref l == Value.none) = true) from Bool.false_ne_true)]
  show wpAny _ _ (field (.ref it) 1 >>= _) _ _ s
  refine wpAny_bind (wpAny_field ho hd (x := .int i 0) rfl ?_)
  show wpAny _ _ (seqItems? (.ref l) >>= _) _ _ s
  refine wpAny_bind (wpAny_seqItems hol hdl ?_)
  simp only [Int.toNat_natCast, hx]
  refine wpAny_bind (wpAny_rule (wpAny_bind (wpAny_setField ho hd (by simp) ?_)))
  show wpAny _ _ (newExc (.type "StopIteration") [] >>= _) _ _ _
  refine wpAny_bind ?_
  simp only [newExc, newTuple]
  refine wpAny_bind (wpAny_newObj_type ?_ (by size_fits))
  refine wpAny_bind (m := firstArgMember _ _) (wpAny_of_eq (a := Value.none) (by first | rfl | (simp only [firstArgMember]; rfl)) ?_)
  refine wpAny_newObj_type ?_ (by size_fits)
  have up : ∀ (f : Array Value → Array Value), (s.heap.update it (Obj.mapFields f)).get? x1 = some o1 := fun f =>
    (Heap.get?_update_other _ _ (Ne.symm nx)).trans g1
  refine raiseNew_hot ⟨hh, o1, vs1, Heap.get?_push_of_some _ (Heap.get?_push_of_some _ (up _)), d1, c1⟩
    (Nat.ne_of_lt (Heap.lt_size (Heap.get?_push_of_some _ (up _)))) (Heap.get?_push_size _ rfl) rfl
    (by first | (simp; done) | (simp; omega) | (simp only [Array.size_append]; simp; omega)) ?_
  refine wpAny_bind (wpAny_isInstance (T := "StopIteration") (b := true) ⟨_, Heap.get?_update_self _ (Heap.get?_push_size _ rfl) rfl, rfl⟩ isSubtype_stop ?_)
  refine wpAny_pure (hQ _ ?_)
  have base := ((Heap.SameBut.update (h := s.heap) it (Obj.mapFields fun vs => vs.setIfInBounds 0 Value.none)).extBut)
  intro b ob nb e
  have lt : b < s.heap.objs.size := Heap.lt_size e
  have e1 : (s.heap.update it (Obj.mapFields fun vs => vs.setIfInBounds 0 Value.none)).get? b = some ob := base b ob nb e
  have e2 := Heap.get?_push_of_some (h := s.heap.update it (Obj.mapFields fun vs => vs.setIfInBounds 0 Value.none)) { cls := .type "tuple", data := .seq ([] : List Value).toArray } e1
  rw [Heap.get?_update_other _ _ (Nat.ne_of_gt (Heap.lt_size e2))]
  exact Heap.get?_push_of_some _ e2
end
end XH
set_option Elab.async false
set_option linter.all false
set_option maxRecDepth 100000
set_option maxHeartbeats 4000000
/-! A def that is called while an exception is handled and is given that very exception: its promise speaks of the exception's object. -/
namespace XP
open PySem PySem.Spec PyProof.Rows L2 HotX L2H XH
abbrev SpX := Addr × Obj → Sp
/-- what such a def promises -/
structure FnP (P : Program) (w : World) (K : PySem.W.Frag) (mg : Str → Option Value) (base : Heap) (CX : CXT) (k : Nat) (f : Addr) (fd : FuncData) (ps : List Str) (sp : SpX) : Prop where
  len : ∀ x vs H Q E, sp x vs H Q E → vs.length = ps.length
  run : ∀ (A : Around) (fr : List Env) (s : Shared) (H : Hp) (ar : Args) (us : List Value) (vs : List V) (Q : VK) (E : XK) (x : Addr × Obj), RoomH k A → Hot1 A x → PinOk fr H s x → Env0 P w K mg base A fr s H → BindsTo s fd ar (ps.zip us) → Vals vs us → sp x vs H Q E →
    codeAny (model P w) A (.call (.ref f) ar) (CR CX fr P w H s Q E) s
theorem FnP.of {CX : CXT} {P : Program} {w : World} {K : PySem.W.Frag} {mg : Str → Option Value} {base : Heap} {k : Nat} {x qual : Str} {st : Stmt} {f : Addr} {fd : FuncData} {N ps : List Str} {sp : SpX} (F : Fun K x qual st f fd) (S : FnScope N ps (defScope st)) (len : ∀ e vs H Q E, sp e vs H Q E → vs.length = ps.length)
    (body : ∀ (cdv : Value) (A : Around) (fr : List Env) (s : Shared) (H : Hp) (vs : List V) (Q : VK) (E : XK) (e : Addr × Obj), Hot1 A e → RoomH k (A.deeper (PyProof.Rows.envOfC qual (defScope st) s.heap.objs.size f cdv)) → sp e vs H Q E →
      ∃ t, PSs (cxH CX P w K mg base N qual (defScope st) f cdv A fr s H E e) (defBody st) t ∧ t { nx := fun _ H' => Q .non H', rt := Q } (L2.start N vs) H) : FnP P w K mg base CX (k + 1) f fd ps sp := by
  obtain ⟨oc, od, kV, doc, pm, an, cdv, ct, osl, rfl, lk, code⟩ := F.ex
  constructor
  · exact len
  intro A fr s H ar us vs Q E e room hot pin e0 bind vals good
  have many := len _ _ _ _ _ good
  have inK : K.In s.heap := e0.mod.kin.keeps fun b o z => (e0.bs b o z).1
  have nolim : s.heap.NoLimit := e0.mod.nolimit.keeps fun b o z => (e0.bs b o z).1
  have kinds : ∀ y ∈ ps.zip us, (defScope st).names.lookup y.1 = some .local ∨ ((defScope st).names.lookup y.1 = some .cell ∧ ((cellsFrom (s.heap.objs.size + 1) (defScope st).names []).lookup y.1).isSome = true) := by
    rintro ⟨n, v⟩ hy
    exact (S.par n (List.of_mem_zip hy).1).imp id fun q => ⟨q, PySem.W.cellsFrom_some _ _ _ (.inl q)⟩
  refine codeAny_call_function room.depth (inK _ _ lk) rfl S.co S.gen rfl (PySem.W.codeRec_of inK code) (bind _ _ _ _ (wpAny_newFunctionEnv_cells S.kind kinds fun env he s1 new => ?_))
  subst he
  refine ⟨nolim.keeps new.toInCall.keep, codeAny_func ?_⟩
  obtain ⟨t, ht, hq⟩ := body cdv A fr s H vs Q E e hot (room.deeper _) good
  have I := inv_startH (CX := CX) (E := E) (f := f) (cd := cdv) (qual := qual) S pin e0 many vals new
  refine wpAny_mono (ht.run [] s1 (L2.start N vs) H _ I hq) (fun fl z hz => ?_) fun _ _ hz => hz
  match fl, hz with
  | .ret u, ⟨v, σ', H', J, rv, q⟩ => exact ⟨v, H', J.os, J.bare, J.base, J.hok, rv, q⟩
  | .next, ⟨σ', H', J, q⟩ => exact ⟨.non, H', J.os, J.bare, J.base, J.hok, rfl, q⟩
  | .brk, ⟨_, _, _, q⟩ => exact q.elim
  | .cont, ⟨_, _, _, q⟩ => exact q.elim
section
variable {X : Cx} {CX : CXT} {k : Nat} {f : Addr} {fd : FuncData} {ps : List Str} {sp : SpX} {E : L2.St → XK} {x : Str} {q pos : Pos} {e : Expr} {es : List Expr} {t : TA} {p : Addr × Obj}
theorem pe_callP (F : FnP X.prog X.w X.K X.mg X.base CX k f fd ps sp) (room : RoomH k X.A) (hot : Hot1 X.A p) (hp : p ∈ X.pn) (hg : Gl X x) (hm : X.mg x = some (.ref f)) (kp : PySem.W.keepIn X.K (.ref f) = true) (hb : Binds X.K fd ps []) (hx : ∀ σ, PassesAt CX X σ (E σ))
    (ha : PA X (e :: es) t) (hdb : (x == ("__debug__" : Str)) = false := by decide) (he : starEach (e :: es) X.env = (false, eval e X.env) :: starEach es X.env := by rfl) (hpl : (backTo pos (starEach es X.env)).any (·.1) = false := by rfl) :
    PE X (.Call (.Name x q) (e :: es) [] pos) (tCallS (sp p) E t) := by
  refine ⟨fun pins s σ H Q I h => ?_⟩
  refine wpAny_Call_Name_kw (ld_glob I hg hm ?_ hdb)
  refine PySem.W.callWith_K (h₀ := X.base) I.ok.mod.kin kp (thn (ha.run pos pins s σ H _ I h) fun us s1 ⟨vs, H1, J, r, good⟩ => ⟨J.kIn, ?_⟩) he hpl
  have many : us.length = ps.length := by
    rw [← r.length]
    exact F.len _ _ _ _ _ good
  have bind := hb s1 us J.kIn (by rw [List.append_nil]; exact many)
  rw [List.append_nil] at bind
  have P1 := J.pin p (List.mem_append_left _ hp)
  have pin : PinOk X.stack H1 s1 p := ⟨P1.1, P1.2.1, fun z => (List.mem_cons.mp (J.stkSub p.1 z)).elim P1.2.2.1 P1.2.2.2.1, P1.2.2.2.2⟩
  refine wpAny_call (codeAny_mono (F.run X.A X.stack s1 H1 ⟨us, []⟩ us vs Q (E σ) p room hot pin J.env0 bind r good) fun r z hz => ?_)
  match r, hz with
  | .error _, hz => exact hx σ pins H1 s1 _ z J hz
  | .ok (.ret _), hz => exact J.after hz
  | .ok .next, hz => exact hz.elim
  | .ok .brk, hz => exact hz.elim
  | .ok .cont, hz => exact hz.elim
end
/-! what may be asked of the exception in such a def -/
section
variable {Y : Cx} {a D dx : Addr} {oe : Obj} {fs : List (Str × V)} {cls : Value} {d : Option Addr}
theorem instP {pins : List (Addr × Obj)} {σ : L2.St} {H : Hp} {s : Shared} (I : Inv Y pins σ H s) (hp : (a, oe) ∈ Y.pn) (hz : Zc (.ref D) (some dx) oe) (hf : ∃ vs, oe.data = .fields vs) (hd : H dx = some (.xd fs)) : ∃ ox od, PySem.W.InstAt s.heap a ox D od := by
  have hx : ObjOk Y.prog Y.w H s.heap dx (.xd fs) := I.hok dx _ hd
  obtain ⟨mA, hns, _⟩ := hx
  obtain ⟨o1, ho, _⟩ := lookIn_ns hns
  obtain ⟨vs, hv⟩ := hf
  refine ⟨oe, some o1, (I.pin (a, oe) (List.mem_append_left _ hp)).1, hz.1, ?_, ?_⟩
  · unfold PySem.W.notCls
    rw [hv] <;> rfl
  · rw [hz.2]
    exact ho
theorem is1P (hp : (a, oe) ∈ Y.pn) (hz : Zc cls d oe) (hf : ∃ vs, oe.data = .fields vs) : CallR Y (.builtin "isinstance") (fun xs H Q => ∃ D, Held Y.K cls d D H ∧ rIs1 Y.K D a xs H Q) := by
  rintro pins s σ H xs us Q I r ⟨D, ⟨rfl, T, dx, fs, rfl, hd⟩, c, cv, b, rfl, hc, e, q⟩
  obtain ⟨u1, u2, rfl, r1, r2⟩ := vals2 r
  have ec := hc.eq r2
  subst ec
  cases (show u1 = Value.ref a from r1)
  exact PySem.W.kia_one (kit_err T) I.kIn (instP I hp hz hf hd) e (fun z => nomatch z) fun tk => ⟨.bl b, H, I.tok tk, rfl, q⟩
theorem isNP (hp : (a, oe) ∈ Y.pn) (hz : Zc cls d oe) (hf : ∃ vs, oe.data = .fields vs) : CallR Y (.builtin "isinstance") (fun xs H Q => ∃ D, Held Y.K cls d D H ∧ rIsN Y.K D a xs H Q) := by
  rintro pins s σ H xs us Q I r ⟨D, ⟨rfl, T, dx, fs, rfl, hd⟩, tp, cs, ws, b, rfl, hT, hc, e, q⟩
  obtain ⟨u1, u2, rfl, r1, r2⟩ := vals2 r
  cases (show u1 = Value.ref a from r1)
  cases (show u2 = Value.ref tp from r2)
  obtain ⟨_, its, rv, o, h1, h2, n, h3⟩ := (show ObjOk Y.prog Y.w H s.heap tp (.tup cs) from I.hok tp _ hT)
  have e3 := ClsV.all hc rv
  subst e3
  have ht : s.heap.get? tp = some ⟨.type "tuple", o.dict, .seq its.toArray n, o.slots⟩ := by
    obtain ⟨oc, od, oda, osl⟩ := o
    cases h2
    cases h3
    exact h1
  exact PySem.W.kia_tup (kit_err T) I.kIn (instP I hp hz hf hd) ht e (fun z => nomatch z) fun tk => ⟨.bl b, H, I.tok tk, rfl, q⟩
theorem pe_xfP {C : Addr} {e : Expr} {te : TE} {pos : Pos} {n : Str} (T : XfC Y.K C) (hno : PySem.W.findIn Y.K (.ref C) n = some none) (hp : (a, oe) ∈ Y.pn) (hz : Zc cls d oe) (hf : ∃ vs, oe.data = .fields vs) (he : PE Y e te)
    (hb : attributeBase e n Y.env (eval e Y.env) = eval e Y.env := by rfl) : PE Y (.Attribute e n pos) (tXf a cls d C n te) := by
  refine ⟨fun pins s σ H Q I h => attr_of hb (thn (he.run pins s σ H _ I h) fun u s1 ⟨x, H1, J, rx, ex, ec, dd, fs, v, ed, ea, l, q⟩ => ?_)⟩
  subst ex ec ed
  obtain rfl : u = Value.ref a := rx
  have ha := (J.pin (a, oe) (List.mem_append_left _ hp)).1
  obtain ⟨vs, hd⟩ := hf
  have hx : ObjOk Y.prog Y.w H1 s1.heap dd (.xd fs) := J.hok dd _ ea
  obtain ⟨mA, hns, hr⟩ := hx
  obtain ⟨od, ho, hl⟩ := lookIn_ns hns
  obtain ⟨u, hu, ru⟩ := RelO.some_of (v := v) (o := mA n) (by rw [← l]; exact hr n)
  have at_ : PySem.W.InstAt s1.heap a oe C (some od) := ⟨ha, hz.1, by unfold PySem.W.notCls; rw [hd] <;> rfl, by rw [hz.2]; exact ho⟩
  exact HandSPX.exc_get J.kIn at_ T.ga T.gg T.exC (PySem.W.findObj_own T.hdC hno rfl (by rw [hl, hu])) (handed_of ru) ⟨v, H1, J.tok _, ru, q⟩
end
end XP
set_option Elab.async false
set_option linter.all false
set_option maxRecDepth 100000
set_option maxHeartbeats 4000000
/-! A def called by keywords alone. -/
namespace XW
open PySem PySem.Spec PyProof.Rows L2
section
variable {X : Cx} {CX : CXT} {k : Nat} {f : Addr} {fd : FuncData} {ps ks : List Str} {sp : Sp} {E : XK} {x : Str} {p pos : Pos} {kws : List Keyword} {tk : TA} {g : List Value → List Value → List Value} {gV : List V → List V → List V}
def tKw (m : Nat) (sp : Sp) (gV : List V → List V → List V) (E : XK) (tk : TA) : TE := fun σ H Q => tk σ H fun zs H1 => zs.length = m ∧ sp (gV [] zs) H1 Q E
theorem pe_callKw (F : FnOk X.prog X.w X.K X.mg X.base CX k f fd ps sp) (hr : Room k X.A) (hg : Gl X x) (hm : X.mg x = some (.ref f)) (keep : PySem.W.keepIn X.K (.ref f) = true) (hb : KBn X.K fd ps 0 ks g gV) (hx : Passes CX X E) (hkw : PK X kws tk)
    (named : (backToKw pos (keywordEach kws X.env)).all (·.1.isSome) = true := by rfl) (hks : (backToKw pos (keywordEach kws X.env)).filterMap (·.1) = ks := by rfl) (hdb : (x == ("__debug__" : Str)) = false := by decide)
    (plain : ((backTo pos (starEach [] X.env)).any (·.1) || (backToKw pos (keywordEach kws X.env)).any (·.1.isNone)) = false := by rfl) : PE X (.Call (.Name x p) [] kws pos) (tKw ks.length sp gV E tk) := by
  constructor
  intro pins s σ H Q I h
  refine wpAny_Call_Name_kw (ld_glob I hg hm ?_ hdb)
  refine PySem.W.callWith_KW0 (h₀ := X.base) I.ok.mod.kin keep named (thn (hkw.run pos pins s σ H _ I h) fun ws s1 ⟨zs, H1, I1, rz, l1, q1⟩ => ⟨I1.kIn, ?_⟩) plain
  rw [hks]
  exact run_fnN (us := []) (vs := []) F hr hb hx I1 .nil rz rfl l1 q1
end
def rev2 {α : Type} : List α → List α → List α
  | [], [a, b] => [b, a]
  | _, _ => []
def rev3 {α : Type} : List α → List α → List α
  | [], [a, b, c] => [c, b, a]
  | _, _ => []
theorem rev2_rel {vs zs : List V} {us ws : List Value} (r : Vals vs us) (rz : Vals zs ws) : Vals (rev2 vs zs) (rev2 us ws) := by
  cases r with
  | cons a b => exact .nil
  | nil =>
    cases rz with
    | nil => exact .nil
    | cons a r1 =>
      cases r1 with
      | nil => exact .nil
      | cons b r2 =>
        cases r2 with
        | nil => exact .cons b (.cons a .nil)
        | cons c r3 => exact .nil
theorem rev3_rel {vs zs : List V} {us ws : List Value} (r : Vals vs us) (rz : Vals zs ws) : Vals (rev3 vs zs) (rev3 us ws) := by
  cases r with
  | cons a b => exact .nil
  | nil =>
    cases rz with
    | nil => exact .nil
    | cons a r1 =>
      cases r1 with
      | nil => exact .nil
      | cons b r2 =>
        cases r2 with
        | nil => exact .nil
        | cons c r3 =>
          cases r3 with
          | nil => exact .cons c (.cons b (.cons a .nil))
          | cons d r4 => exact .nil
section
variable {K : PySem.W.Frag} {x qual : Str} {st : Stmt} {f : Addr} {fd : FuncData}
theorem kbn2 (F : Fun K x qual st f fd) {p1 p2 : Str} (h : ∀ (kV doc pm : Value) (an : Option Addr) (cdv ct a b : Value), bindArgs (PySem.W.fnOf x qual (defArgs st) (defBody st) (defScope st) .none kV doc pm an cdv ct) ⟨[], [(p2, a), (p1, b)]⟩ = pure [(p1, b), (p2, a)]) :
    KBn K fd [p1, p2] 0 [p2, p1] rev2 rev2 := by
  obtain ⟨oc, od, kV, doc, pm, an, cdv, ct, osl, rfl, lk, hcd⟩ := F.ex
  refine ⟨fun s us ws X l1 l2 => ?_, fun r rz => rev2_rel r rz⟩
  match us, ws, l1, l2 with
  | [], [a, b], _, _ => exact BindsTo.of_eq (h kV doc pm an cdv ct a b)
theorem kbn3 (F : Fun K x qual st f fd) {p1 p2 p3 : Str} (h : ∀ (kV doc pm : Value) (an : Option Addr) (cdv ct a b c : Value), bindArgs (PySem.W.fnOf x qual (defArgs st) (defBody st) (defScope st) .none kV doc pm an cdv ct) ⟨[], [(p3, a), (p2, b), (p1, c)]⟩ = pure [(p1, c), (p2, b), (p3, a)]) :
    KBn K fd [p1, p2, p3] 0 [p3, p2, p1] rev3 rev3 := by
  obtain ⟨oc, od, kV, doc, pm, an, cdv, ct, osl, rfl, lk, hcd⟩ := F.ex
  refine ⟨fun s us ws X l1 l2 => ?_, fun r rz => rev3_rel r rz⟩
  match us, ws, l1, l2 with
  | [], [a, b, c], _, _ => exact BindsTo.of_eq (h kV doc pm an cdv ct a b c)
end
end XW
set_option Elab.async false
set_option linter.all false
set_option maxRecDepth 100000
set_option maxHeartbeats 4000000
/-! C(..) of an own class whose __init__ may let errors out, told by the slots at the call: within a try. -/
namespace XK
open PySem PySem.Spec PyProof.Rows L2
def tMakeS (C : Addr) (sp : Sp) (E : L2.St → XK) (t : TA) : TE := fun σ H Q => t σ H fun vs H1 => ∀ x dx, H1 x = none → H1 dx = none → dx ≠ x →
  sp (.ref x :: vs) (upd (upd H1 dx (.own x)) x (.ins C dx [])) (fun v H2 => v = .non ∧ Q (.ref x) H2) (E σ)
section
variable {X : Cx} {CX : CXT} {k : Nat} {f C : Addr} {fd : FuncData} {ps : List Str} {sp : Sp} {E : L2.St → XK} {x : Str} {p pos : Pos} {e : Expr} {es : List Expr} {t : TA}
theorem run_makeS {pins : List (Addr × Obj)} {σ : L2.St} {H : Hp} {s : Shared} {Q : VK} {us : List Value} {vs : List V} (M : Mk X.K C f) (F : FnOk X.prog X.w X.K X.mg X.base CX k f fd ps sp) (hr : Room (k + 1) X.A) (hb : Binds X.K fd ps [])
    (hx : PassesAt CX X σ (E σ)) (I : Inv X pins σ H s) (r : Vals vs us)
    (h : ∀ x dx, H x = none → H dx = none → dx ≠ x → sp (.ref x :: vs) (upd (upd H dx (.own x)) x (.ins C dx [])) (fun v H2 => v = .non ∧ Q (.ref x) H2) (E σ)) :
    wpAny (model X.prog X.w) X.A (call (.ref C) us) (EP X pins σ Q) X.xe s := by
  have hq := h (s.heap.objs.size + 1) s.heap.objs.size (I.hok.fresh (Nat.le_succ _)) (I.hok.fresh (Nat.le_refl _)) (Nat.ne_of_lt (Nat.lt_succ_self _))
  have I2 := Inv.made (C := C) I
  have r2 : Vals (V.ref (s.heap.objs.size + 1) :: vs) (Value.ref (s.heap.objs.size + 1) :: us) := .cons rfl r
  have hl : (Value.ref (s.heap.objs.size + 1) :: us).length = ps.length := by
    have e := r2.length
    rw [F.len _ _ _ _ hq] at e
    exact e.symm
  have b := fun s1 kin => hb s1 (Value.ref (s.heap.objs.size + 1) :: us) kin (by rw [List.append_nil]; exact hl)
  rw [List.append_nil] at b
  refine wpAny_call (make_map (f := f) I.kIn M.makes M.init (beq_iff_eq.mp M.fn) (codeAny_mono (F.run _ X.stack _ _ ⟨Value.ref (s.heap.objs.size + 1) :: us, []⟩ (Value.ref (s.heap.objs.size + 1) :: us) _ _ (E σ) (hr.make C us [])
    (I2.env0.make C us []) (b _ I2.kIn) r2 hq) fun r s' hq' => ?_))
  cases r with
  | error e => exact hx pins _ _ e s' I2 hq'
  | ok fl =>
    cases fl with
    | ret u =>
      obtain ⟨v, H', I3, rv, ev, q3⟩ := I2.after hq'
      subst ev
      exact ⟨rv, ⟨V.ref (s.heap.objs.size + 1), H', I3, rfl, q3⟩⟩
    | next => exact False.elim hq'
    | brk => exact False.elim hq'
    | cont => exact False.elim hq'
theorem pe_makeS (M : Mk X.K C f) (F : FnOk X.prog X.w X.K X.mg X.base CX k f fd ps sp) (hr : Room (k + 1) X.A) (hg : Gl X x) (hm : X.mg x = some (.ref C)) (hb : Binds X.K fd ps []) (hx : ∀ σ, PassesAt CX X σ (E σ))
    (ha : PA X (e :: es) t) (hdb : (x == ("__debug__" : Str)) = false := by decide) (he : starEach (e :: es) X.env = (false, eval e X.env) :: starEach es X.env := by rfl) (hpl : (backTo pos (starEach es X.env)).any (·.1) = false := by rfl) :
    PE X (.Call (.Name x p) (e :: es) [] pos) (tMakeS C sp E t) := by
  refine ⟨fun pins s σ H Q I h => ?_⟩
  refine wpAny_Call_Name_kw (ld_glob I hg hm ?_ hdb)
  refine PySem.W.callWith_K (h₀ := X.base) I.ok.mod.kin M.kp (thn (ha.run pos pins s σ H _ I h) fun us s1 ⟨vs, H1, I1, r, q⟩ => ⟨I1.kIn, ?_⟩) he hpl
  exact run_makeS M F hr hb (hx σ) I1 r q
end
end XK
set_option Elab.async false
set_option linter.all false
set_option maxRecDepth 100000
set_option maxHeartbeats 4000000
/-! ### k31: _law_settled_word, _law_asked -/
namespace Q
open PySem PySem.Spec L2 L2H XD XT XM XH XP XW HotX PyProof.Rows
def optD : Option Str → PyData
  | some w => .str w
  | none => .none
theorem optV_dp {K : PySem.W.Frag} {H : Hp} (o : Option Str) : Dp K H (optV o) (optD o) := by
  cases o with
  | none => exact .non
  | some w => exact .str w
def toldD (d : PyData) : PyData := .tuple [.str "told", d]
def valD (i : Int) : PyData := .tuple [.str "value", .int i]
/-- what _law_asked answers -/
def askD (c : Bool) (t : Tbl) (rs : List (List Pr)) (o d : PyData) : PyData :=
  if isOuts t o = false then valD 1 else if c = true then (if isFill t rs d = true then toldD (.str (wordOf (outsOf o) (factsOf d))) else valD 2) else (if areFacts t d = true then toldD (optD (oneWord ((fills rs (factsOf d) t).map (wordOf (outsOf o))))) else valD 2)
structure Ev31 (K : PySem.W.Frag) (mg : Str → Option Value) (CV : Addr) : Prop where
  tv : ∃ fI qual, XM.XcT K CV fI "at" qual
  gv : mg "BadValue" = some (.ref CV)
  vv : PySem.W.exmOne K (.ref CV) (.ref CV) = some true
theorem takes31 {X : Cx} : L2N.Takes X (fun _ _ _ _ => False) := fun _ _ x => by
  obtain ⟨_, _, _, _, _, _, _, _, _, _, _, _, _, _, _, _, z⟩ := x
  exact z.elim
theorem xf_of31 {K : PySem.W.Frag} {C fI : Addr} {f q : Str} (T : XM.XcT K C fI f q) : XfC K C := ⟨T.ga, T.gg, T.exC, T.hdC⟩
def ts31 (CV : Addr) : Addr → Value → Option Addr → TS := fun a cls d => tRet (tTup (tCons (tC (.str "value")) (tCons (tXf a cls d CV "at" (tVar 2)) tNil)))
theorem ts31_ok {K : PySem.W.Frag} {CV a dd : Addr} {D : Ends} {σ : L2.St} {H : Hp} {i : Int} (e3 : σ[2]? = some (some (.ref a))) (hd : H dd = some (.xd [("at", .int i)])) (k : ∀ p H', Same H H' → Dp K H' (.ref p) (valD i) → D.rt (.ref p) H') :
    ts31 CV a (.ref CV) (some dd) D σ H := by
  refine ⟨_, e3, rfl, rfl, dd, _, .int i, rfl, hd, by simp [List.lookup], by show 2 ≤ sizeLine; decide, fun p hp => ?_⟩
  exact k p _ (new_same hp _) (.tup (.inl (.inl upd_same)) (.cons (.str _) (.cons (.int _) .nil)))
def spAsk31 (K : PySem.W.Frag) (C : Addr) : Sp := fun vs H Q _ => ∃ (c : Bool) (g x pf pr : Addr) (t : Tbl) (rs : List (List Pr)) (vo v : V) (o d : PyData), vs = [.str (if c = true then "outcome" else "settled"), .ref g] ∧ SqT K H g [.ref x, vo, v] ∧ Frm K C H x pf pr t rs ∧ Ocs K H vo o ∧ Fcs K H t v d ∧
  ∀ (r : V) (H' : Hp), Same H H' → Dp K H' r (askD c t rs o d) → Q r H'
abbrev nAs31 : List Str := ["name", "given", "e"]
section
variable {P : Program} {w : World} {K : PySem.W.Frag} {mg : Str → Option Value} {base : Heap}
theorem scAs31 : FnScope nAs31 ["name", "given"] (defScope sLAsked) := ⟨rfl, rfl, rfl, by decide +kernel, rfl, by decide +kernel, by decide +kernel⟩
abbrev tGv31 (K : PySem.W.Frag) (i : Int) : TE := tOp (rBoth K) (tVar 1) (tC (.int i))
theorem ok_asked31 {f fO fS C CV : Addr} {fd fdO fdS : FuncData} (F : Fun K "_law_asked" "_law_asked" sLAsked f fd) (T9 : Ev31 K mg CV)
    (GO : FnOk P w K mg base (L2N.CX P w) 8 fO fdO ["form", "outcomes", "filling"] (spOutc K C CV)) (kO : PySem.W.keepIn K (.ref fO) = true) (bO : Binds K fdO ["form", "outcomes", "filling"] []) (mO : mg "outcome" = some (.ref fO))
    (GS : FnOk P w K mg base (L2N.CX P w) 7 fS fdS ["form", "outcomes", "facts"] (spSettled K C CV)) (kS : PySem.W.keepIn K (.ref fS) = true) (bS : Binds K fdS ["form", "outcomes", "facts"] []) (mS : mg "settled" = some (.ref fS)) :
    FnOk P w K mg base CX0 9 f fd ["name", "given"] (spAsk31 K C) := by
  obtain ⟨fIv, qv, XTv⟩ := T9.tv
  refine F.ok scAs31 (fun vs H Q E h => ?_) (fun cdv A outer s H vs Q E hr h => ?_)
  · obtain ⟨c, g, x, pf, pr, t, rs, vo, v, o, d, rfl, _⟩ := h
    rfl
  have hr7 := hr.mono (show 7 ≤ 8 by decide)
  refine ⟨_, pss_one (ps_try_cls (tb := fun W => tSeq (tIfS (tTest (tOp rEq (tVar 0) (tC (.str "outcome")))) (tRet (tTup (tCons (tC (.str "told")) (tCons (tCallS (spOutc K C CV) (L2.WE W) (tCons (tGv31 K 0) (tCons (tGv31 K 1) (tCons (tGv31 K 2) tNil)))) tNil)))) tNext)
        (tRet (tTup (tCons (tC (.str "told")) (tCons (tCallS (spSettled K C CV) (L2.WE W) (tCons (tGv31 K 0) (tCons (tGv31 K 1) (tCons (tGv31 K 2) tNil)))) tNil)))))
      (l := [⟨.ref CV, 2, ts31 CV⟩]) (Wout := fun _ _ _ _ => False) rfl rfl scAs31.nd takes31
      (fun W pn xe tk _ => pss_cons (ps_if (pt_cmpR op_eq (pv 0) pe_str (nomark _)) (pss_one (ps_ret (pe_tup (pa_cons pe_str (pa_cons (pe_callS GO hr (by rfl) mO kO bO (fun σ => L2N.passAt tk σ) (pa_cons (pe_ix (ix_both K rfl) (pv 1) pe_int (fun _ _ => rfl)) (pa_cons (pe_ix (ix_both K rfl) (pv 1) pe_int (fun _ _ => rfl)) (pa_cons (pe_ix (ix_both K rfl) (pv 1) pe_int (fun _ _ => rfl)) pa_nil)))) pa_nil))))) pss_nil)
        (pss_one (ps_ret (pe_tup (pa_cons pe_str (pa_cons (pe_callS GS hr7 (by rfl) mS kS bS (fun σ => L2N.passAt tk σ) (pa_cons (pe_ix (ix_both K rfl) (pv 1) pe_int (fun _ _ => rfl)) (pa_cons (pe_ix (ix_both K rfl) (pv 1) pe_int (fun _ _ => rfl)) (pa_cons (pe_ix (ix_both K rfl) (pv 1) pe_int (fun _ _ => rfl)) pa_nil)))) pa_nil))))))
      (.cons ⟨rfl, by decide, .inl T9.gv⟩ rfl rfl ?s1 .nil)), ?_⟩
  case s1 =>
    intro a oe cls d pn hz hf
    show PSs _ _ (ts31 CV a cls d)
    unfold ts31
    refine pss_one ?c1
    case c1 => exact ps_ret (pe_tup (pa_cons pe_str (pa_cons (pe_xf (xf_of31 XTv) XTv.noN hz.zc hf (pv 2)) pa_nil)))
  obtain ⟨c, g, x, pf, pr, t, rs, vo, v, o, d, rfl, hg, Fr, Oc, Fc, k⟩ := h
  have g0 : Row31 K H g [.ref x, vo, v] := .inr hg
  have fin : ∀ (i : Int) (dd : Addr) (H2 : Hp), askD c t rs o d = valD i → Same H H2 → H2 dd = none → ∀ (a : Addr) (σ : L2.St) (D : Ends), σ[2]? = some (some (.ref a)) → D.rt = Q → ts31 CV a (.ref CV) (some dd) D σ (L2.upd H2 dd (.xd [("at", .int i)])) := fun i dd H2 e s2 hdd a σ D e2 er => ts31_ok e2 upd_same fun p H3 s3 hp => by
    rw [er]
    refine k _ H3 (s2.trans ((new_same hdd _).trans s3)) ?_
    rw [e]
    exact hp
  cases c with
  | true =>
    refine ⟨_, rfl, rfl, _, rfl, iteDT rfl ?_⟩
    refine ⟨_, rfl, ix_row g0 (by rfl) ⟨_, rfl, ix_row g0 (by rfl) ⟨_, rfl, ix_row g0 (by rfl) ⟨x, pf, pr, t, rs, vo, v, o, d, rfl, Fr, Oc, Fc, fun no dd H2 s2 hdd => ?_, fun yes no dd H2 s2 hdd => ?_, fun yes ys H1 s1 => ?_⟩⟩⟩⟩
    · refine ⟨true, T9.vv, fun _ a _ => fin 1 dd H2 ?_ s2 hdd a _ _ rfl rfl, fun z => Bool.noConfusion z⟩
      unfold askD
      rw [if_pos no]
    · refine ⟨true, T9.vv, fun _ a _ => fin 2 dd H2 ?_ s2 hdd a _ _ rfl rfl, fun z => Bool.noConfusion z⟩
      unfold askD
      rw [if_neg (by rw [yes]; decide), if_pos rfl, if_neg (by rw [no]; decide)]
    · refine ⟨by show 2 ≤ sizeLine; decide, fun p hp => k _ _ (s1.trans (new_same hp _)) ?_⟩
      have e : askD true t rs o d = toldD (.str (wordOf (outsOf o) (factsOf d))) := by
        unfold askD
        rw [if_neg (by rw [yes]; decide), if_pos rfl, if_pos ys]
      rw [e]
      exact .tup (.inl (.inl upd_same)) (.cons (.str _) (.cons (.str _) .nil))
  | false =>
    refine ⟨_, rfl, rfl, _, rfl, iteDF (by decide) (nxt ?_)⟩
    refine ⟨_, rfl, ix_row g0 (by rfl) ⟨_, rfl, ix_row g0 (by rfl) ⟨_, rfl, ix_row g0 (by rfl) ⟨x, pf, pr, t, rs, vo, v, o, d, rfl, Fr, Oc, Fc, fun no dd H2 s2 hdd => ?_, fun yes no dd H2 s2 hdd => ?_, fun yes ys H1 s1 => ?_⟩⟩⟩⟩
    · refine ⟨true, T9.vv, fun _ a _ => fin 1 dd H2 ?_ s2 hdd a _ _ rfl rfl, fun z => Bool.noConfusion z⟩
      unfold askD
      rw [if_pos no]
    · refine ⟨true, T9.vv, fun _ a _ => fin 2 dd H2 ?_ s2 hdd a _ _ rfl rfl, fun z => Bool.noConfusion z⟩
      unfold askD
      rw [if_neg (by rw [yes]; decide), if_neg (by decide), if_neg (by rw [no]; decide)]
    · refine ⟨by show 2 ≤ sizeLine; decide, fun p hp => k _ _ (s1.trans (new_same hp _)) ?_⟩
      have e : askD false t rs o d = toldD (optD (oneWord ((fills rs (factsOf d) t).map (wordOf (outsOf o))))) := by
        unfold askD
        rw [if_neg (by rw [yes]; decide), if_neg (by decide), if_pos ys]
      rw [e]
      exact .tup (.inl (.inl upd_same)) (.cons (.str _) (.cons (optV_dp _) .nil))
end
end Q
set_option Elab.async false
set_option linter.all false
set_option maxRecDepth 100000
set_option maxHeartbeats 4000000
/-! ### k31: _law_settled_word -/
namespace Q
open PySem L2 XD
theorem lc_callL31 {K : PySem.W.Frag} {spG : Sp} {E : XK} {ta : TA} {g : TG} {tt : TT} {te : TE} {vs : List Nat} {σ : L2.St} {H : Hp} {Q : VK} (h : ta σ H fun xs H1 => spG (xs ++ []) H1 (fun v H2 => tLc (iList K (tC v)) g tt te vs σ H2 Q) E) : tLc (iRow K (tCall spG [] E ta)) g tt te vs σ H Q := .inl h
theorem lc_list31 {K : PySem.W.Frag} {p : Addr} {ys : List V} {g : TG} {tt : TT} {te : TE} {vs : List Nat} {σ : L2.St} {H : Hp} {Q : VK} (Pv : Addr → Nat → Hp → Prop) (hq : H p = some (.lst ys))
    (h0 : ∀ D, H D = none → Pv D 0 (upd H D (.lst []))) (hG : ∀ D i H', H D = none → Pv D i H' → H' p = some (.lst ys))
    (hs : ∀ D i x H', H D = none → i < ys.length → Pv D i H' → ys[i]? = some x → g x (wipe σ vs) H' fun σ2 H2 => wipe σ2 vs = wipe σ vs ∧ tt σ2 H2 fun b H3 =>
      if b = true then te σ2 H3 fun y H4 => ∃ acc, H4 D = some (.lst acc) ∧ acc.length < sizeLine ∧ Pv D (i + 1) (upd H4 D (.lst (acc ++ [y]))) else Pv D (i + 1) H3)
    (hd : ∀ D H', H D = none → Pv D ys.length H' → Q (.ref D) H') : tLc (iList K (tC (.ref p))) g tt te vs σ H Q := by
  refine ⟨p, rfl, ⟨ys, SqL.of hq⟩, fun D hD => lc_it walk_list (Pv D) (h0 D hD) (fun i H' _ hP => SqL.of (hG D i H' hD hP)) (fun i x H1 H2 hi hP hY => ?_) (fun H' hP => hd D H' hD hP)⟩
  obtain ⟨rfl, hx⟩ := hY
  exact hs D i x H2 hD hi hP hx
theorem test_lcOp31 {r : R2} {w : TI} {g : TG} {tt : TT} {te t2 : TE} {vs : List Nat} {σ : L2.St} {H : Hp} {R : Bool → Hp → Prop} (h : tLc w g tt te vs σ H fun x H1 => t2 σ H1 fun y H2 => r x y H2 fun v H3 => ∃ b, v = .bl b ∧ R b H3) : tTest (tOp r (tLc w g tt te vs) t2) σ H R := h
theorem lawAll_len31 {t : Tbl} {bans : List (List Pr)} (h : waysFrom 1 t ≤ 1000) : (lawAll t bans).length ≤ 1000 := by
  unfold lawAll
  refine Nat.le_trans (List.length_filter_le _ _) ?_
  have e : (chs t).length = waysFrom 1 t := chs_len t [[]]
  rw [e]
  exact h
theorem lawAll_str31 {t : Tbl} {bans : List (List Pr)} (h : TStr t) : ∀ row ∈ lawAll t bans, RStr row := fun row hr => chs_str h row (List.mem_filter.mp hr).1
theorem eqv_strs31 (a b : List Str) : PyData.eqv (.list (a.map PyData.str)) (.list (b.map PyData.str)) = decide (a = b) := by
  rw [PyData.eqv]
  exact eqvAll_strs a b
theorem eqv_str31 (a b : Str) : PyData.eqv (.str a) (.str b) = decide (a = b) := by
  rw [PyData.eqv]
  by_cases e : a = b
  · subst e
    simp
  · rw [decide_eq_false e]
    simpa using e
theorem oneWord_no31 {ws : List Str} {w0 : Str} {r : List Str} (e : ws = w0 :: r) : (ws.filter fun x => !decide (x = w0)) = [] ↔ oneWord ws = some w0 := by
  subst e
  rw [List.filter_cons_of_neg (by rw [decide_eq_true rfl]; decide), List.filter_eq_nil_iff]
  constructor
  · intro h
    refine if_pos (List.all_eq_true.mpr fun x hx => ?_)
    have := h x hx
    simpa using this
  · intro h x hx
    by_cases c : (r.all fun x => decide (x = w0)) = true
    · have := List.all_eq_true.mp c x hx
      rw [this]
      decide
    · have e : oneWord (w0 :: r) = none := if_neg c
      rw [e] at h
      cases h
def spSw31 (K : PySem.W.Frag) : Sp := fun vs H Q _ => ∃ (B : Addr) (v u : V) (t : Tbl) (bans : List (List Pr)) (os : List Out) (l : List Pr), vs = [.ref B, v, u] ∧ Book31 K H B t bans ∧ Vals31 t ∧ t.length ≤ 900 ∧ TStr t ∧ waysFrom 1 t ≤ 1000 ∧ (∀ l ∈ bans, RStr l ∧ l.length ≤ 1000) ∧ bans.length ≤ 1000 ∧
  Dp K H v (outsD os) ∧ OStr os ∧ (∀ o ∈ os, PyData.strOk o.2 = true) ∧ Dp K H u (ruleD l) ∧ RStr l ∧ l.length ≤ 1000 ∧ ∀ H', Same H H' → Q (optV (oneWord (((lawAll t bans).filter (within l)).map (wordOf os)))) H'
theorem wordOf_ok31 {os : List Out} (h : ∀ o ∈ os, PyData.strOk o.2 = true) (row : List Pr) : PyData.strOk (wordOf os row) = true := by
  induction os with
  | nil =>
    show PyData.strOk "none" = true
    decide +kernel
  | cons o os ih =>
    show PyData.strOk (if within o.1 row = true then o.2 else wordOf os row) = true
    by_cases c : within o.1 row = true
    · rw [if_pos c]
      exact h o List.mem_cons_self
    · rw [if_neg c]
      exact ih fun x hx => h x (List.mem_cons_of_mem _ hx)
theorem strs_sh31 {ws : List Str} (h : ∀ w ∈ ws, PyData.strOk w = true) : SeqAt.shaped (.list (ws.map PyData.str)) = true := by
  have hl := lay_strs ws h
  unfold SeqAt.shaped
  rw [PyData.canLay0, hl, Bool.true_and, PyData.depth, strs_depth] <;> rfl
abbrev nSw31 : List Str := ["book", "pairs", "lot", "row", "words", "word"]
section
variable {P : Program} {w : World} {K : PySem.W.Frag} {mg : Str → Option Value} {base : Heap}
theorem scSw31 : FnScope nSw31 ["book", "pairs", "lot"] (defScope sLSettledWord) := ⟨rfl, rfl, rfl, by decide +kernel, rfl, by decide +kernel, by decide +kernel⟩
theorem ok_sword31 {f : Addr} {fd : FuncData} (F : Fun K "_law_settled_word" "_law_settled_word" sLSettledWord f fd) (KI : Kn P w K mg base 1 "_law_is_in" ["lot", "filling"] (spIsIn31 K)) (KA : Kn P w K mg base 2 "_law_all" ["book"] (spAll31 K)) (KW : Kn P w K mg base 2 "_law_word" ["pairs", "filling"] (spWord31 K)) : FnOk P w K mg base CX0 3 f fd ["book", "pairs", "lot"] (spSw31 K) := by
  obtain ⟨fI, fdI, GI, kI, bI, mI⟩ := KI.ex
  obtain ⟨fA, fdA, GA, kA, bA, mA⟩ := KA.ex
  obtain ⟨fW, fdW, GW, kW, bW, mW⟩ := KW.ex
  refine F.ok scSw31 (fun vs H Q E h => ?_) (fun cdv A outer s H vs Q E hr h => ?_)
  · obtain ⟨B, v, u, t, bans, os, l, rfl, _⟩ := h
    rfl
  have hr1 := hr.mono (show 1 ≤ 2 by decide)
  have hu : (A.deeper (PyProof.Rows.envOfC "_law_settled_word" (defScope sLSettledWord) s.heap.objs.size f cdv)).units + 64 < cLine := by
    have := hr.un
    omega
  refine ⟨_, pss_cons (ps_set (i := 4) scSw31.nd rfl (.inr rfl) (pe_lc (own := [("row", 3)]) (g := gName 3) (by rfl) scSw31.nd (pi_row (pe_call GA hr (by rfl) mA kA bA .nil pass0 (pa_cons (pv 0) pa_nil))) (blkOk_by (N := nSw31) (sc := defScope sLSettledWord) (by decide +kernel)) (fun _ _ _ _ _ => (pg_name (i := 3) scSw31.nd rfl (.inl rfl))) (fun _ _ _ _ _ => (pts_one (pt_val (pe_call GI hr1 (by rfl) mI kI bI .nil pass0 (pa_cons (pv 2) (pa_cons (pv 3) pa_nil)))))) (fun _ _ _ _ _ => (pe_call GW hr (by rfl) mW kW bW .nil pass0 (pa_cons (pv 1) (pa_cons (pv 3) pa_nil))))))
    (pss_cons (ps_if (PW.pt (pw_or (pt_cmpR (op_eqDK K rfl hu) (pv 4) (pe_lst pa_nil) (nomark _)) (pw_or1 (pt_cmpR (op_neDK31 K rfl hu) (pe_lc (own := [("word", 5)]) (g := gName 5) (by rfl) scSw31.nd (pi_row (pv 4)) (blkOk_by (N := nSw31) (sc := defScope sLSettledWord) (by decide +kernel)) (fun _ _ _ _ _ => (pg_name (i := 5) scSw31.nd rfl (.inl rfl))) (fun _ _ _ _ _ => (pts_one (pt_cmpR (op_neDK31 K rfl hu) (pv 5) (pe_ix (ix_both K rfl) (pv 4) pe_int (fun _ _ => rfl)) (nomark _)))) (fun _ _ _ _ _ => (pv 5))) (pe_lst pa_nil) (nomark _))))) (pss_one (ps_ret pe_non)) pss_nil)
    (pss_one (ps_ret (pe_ix (ix_both K rfl) (pv 4) pe_int (fun _ _ => rfl))))), ?_⟩
  obtain ⟨B, v, u, t, bans, os, l, rfl, hB, vt, lt, ts, wt, hb, lb, hv, ho, hok, hu_, hl, ll, k⟩ := h
  try simp only [L2.start, gName, List.map_cons, List.map_nil, List.length_cons, List.length_nil, Nat.reduceAdd, Nat.reduceSub, List.replicate_succ, List.replicate_zero, List.cons_append, List.nil_append, List.set_cons_succ, List.set_cons_zero]
  refine asg_lcX (lc_callL31 ?_)
  refine ⟨_, rfl, B, t, bans, rfl, hB, vt, lt, ts, wt, hb, lb, fun L us H1 s1 hL hL1 pz => ?_⟩
  have lrows := lawAll_len31 (bans := bans) wt
  have srows := lawAll_str31 (bans := bans) ts
  generalize lawAll t bans = rows at pz lrows srows k
  have lus := prd_len pz
  refine lc_list31 (ys := us) (fun D i H' => H' D = some (.lst ((((rows.take i).filter (within l)).map (wordOf os)).map V.str)) ∧ Same H1 H') hL1 (fun D hD => ⟨upd_same, new_same hD _⟩) (fun D i H' hD hP => hP.2 _ _ hL1) (fun D i x H2 hD hi hP hx => ?_) (fun D H2 hD hP => ?_)
  · obtain ⟨c1, s2⟩ := hP
    obtain ⟨row, hrow, hxr⟩ := prd_at pz hx
    have rs := srows row (List.mem_of_getElem? hrow)
    refine ⟨rfl, ?_⟩
    refine ⟨_, rfl, _, rfl, u, x, l, row, rfl, dp_same (s1.trans s2) hu_, (hxr.same s2).dp, hl, ll, rs, fun H3 s3 => ⟨_, rfl, ?_⟩⟩
    rw [take_one hrow, List.filter_append]
    have lf := List.length_filter_le (within l) (rows.take i)
    rw [List.length_take] at lf
    cases c : within l row with
    | true =>
      refine iteT ⟨_, rfl, _, rfl, v, x, os, row, rfl, dp_same (s1.trans (s2.trans s3)) hv, (hxr.same (s2.trans s3)).dp, ho, rs, fun H4 s4 => ⟨_, (s3.trans s4) _ _ c1, small1000 (by rw [List.length_map, List.length_map]; omega), ?_, fun z o ez => ?_⟩⟩
      · rw [upd_same, List.filter_cons_of_pos c, List.filter_nil, List.map_append, List.map_append] <;> rfl
      · rw [upd_ne (ne_of_none ez hD)]
        exact (s2.trans (s3.trans s4)) _ _ ez
    | false =>
      refine iteF ⟨?_, s2.trans s3⟩
      rw [List.filter_cons_of_neg (by rw [c]; decide), List.filter_nil, List.append_nil]
      exact s3 _ _ c1
  · obtain ⟨c1, s2⟩ := hP
    rw [lus, List.take_length] at c1
    have lw : ((rows.filter (within l)).map (wordOf os)).length ≤ 1000 := by
      rw [List.length_map]
      exact Nat.le_trans (List.length_filter_le _ _) lrows
    have ow : ∀ x ∈ (rows.filter (within l)).map (wordOf os), PyData.strOk x = true := fun x hx => by
      obtain ⟨row, _, rfl⟩ := List.mem_map.mp hx
      exact wordOf_ok31 hok row
    generalize (rows.filter (within l)).map (wordOf os) = ws at c1 lw ow k
    have s02 := s1.trans s2
    clear pz hL1 lus lrows srows
    try simp only [gName, List.set_cons_succ, List.set_cons_zero]
    refine ⟨_, rfl, by show 0 ≤ sizeLine; decide, fun z hz => ⟨.list (ws.map PyData.str), .list (([] : List Str).map PyData.str), .lst (SqL.of (new_same hz _ _ _ c1)) (dps_strs ws), .lst (SqL.of upd_same) .nil, strs_sh31 ow, strs_sh31 (fun w h => absurd h List.not_mem_nil), _, rfl, ?_⟩⟩
    rw [eqv_strs31]
    have s3 := new_same hz (.lst [])
    have c3 := s3 _ _ c1
    generalize L2.upd H2 z (.lst []) = H3 at s3 c3
    have s03 := s02.trans s3
    cases ws with
    | nil => exact iteDT rfl (k H3 s03)
    | cons w0 r =>
      refine iteDF (by simp) ?_
      have e0 : atI ((w0 :: r).map V.str) 0 = some (V.str w0) := at_of (j := 0) rfl rfl
      refine test_lcOp31 (lc_row (ys := (w0 :: r).map V.str) (fun E i H' => H' E = some (.lst ((((w0 :: r).take i).filter fun x => !decide (x = w0)).map V.str)) ∧ Same H3 H') (fun Q' z => ⟨_, rfl, z⟩) (.inl (SqL.of c3)) (fun E hE => ⟨upd_same, new_same hE _⟩) (fun E i H' _ hP => hP.2) (fun E i x H4 hE hi hP hx => ?_) (fun E H4 hE hP => ?_))
      · obtain ⟨c4, s4⟩ := hP
        rw [List.getElem?_map] at hx
        obtain ⟨y, hy, rfl⟩ := Option.map_eq_some_iff.mp hx
        have lf := List.length_filter_le (fun x => !decide (x = w0)) ((w0 :: r).take i)
        rw [List.length_take] at lf
        refine ⟨rfl, ?_⟩
        refine ⟨_, rfl, _, rfl, ix_row (.inl (SqL.of (s4 _ _ c3))) e0 ⟨.str y, .str w0, .str y, .str w0, str_shaped (ow y (List.mem_of_getElem? hy)), str_shaped (ow w0 List.mem_cons_self), _, rfl, ?_⟩⟩
        rw [eqv_str31, take_one hy, List.filter_append]
        cases c : decide (y = w0) with
        | false =>
          refine iteT ⟨_, rfl, _, c4, small1000 (by rw [List.length_map]; omega), ?_, fun z o ez => ?_⟩
          · rw [upd_same, List.filter_cons_of_pos (by rw [c] <;> rfl), List.filter_nil, List.map_append] <;> rfl
          · rw [upd_ne (ne_of_none ez hE)]
            exact s4 _ _ ez
        | true =>
          refine iteF ⟨?_, s4⟩
          rw [List.filter_cons_of_neg (by rw [c]; decide), List.filter_nil, List.append_nil]
          exact c4
      · obtain ⟨c4, s4⟩ := hP
        rw [List.length_map, List.take_length] at c4
        have iff0 := oneWord_no31 (ws := w0 :: r) rfl
        have of : ∀ x ∈ (w0 :: r).filter (fun x => !decide (x = w0)), PyData.strOk x = true := fun x hx => ow x (List.mem_filter.mp hx).1
        generalize (w0 :: r).filter (fun x => !decide (x = w0)) = fs at c4 iff0 of
        refine ⟨by show 0 ≤ sizeLine; decide, fun z hz => ⟨.list (fs.map PyData.str), .list (([] : List Str).map PyData.str), .lst (SqL.of (new_same hz _ _ _ c4)) (dps_strs fs), .lst (SqL.of upd_same) .nil, strs_sh31 of, strs_sh31 (fun w h => absurd h List.not_mem_nil), _, rfl, ?_⟩⟩
        rw [eqv_strs31]
        have s5 := new_same hz (.lst [])
        have c5 := (s4.trans s5) _ _ c3
        generalize L2.upd H4 z (.lst []) = H5 at s5 c5
        cases c : decide (fs = []) with
        | false =>
          have hn : oneWord (w0 :: r) = none := by
            by_cases h : (r.all fun x => decide (x = w0)) = true
            · exact absurd (iff0.mpr (if_pos h)) (of_decide_eq_false c)
            · exact if_neg h
          rw [hn] at k
          exact iteT (k H5 (s03.trans (s4.trans s5)))
        | true =>
          rw [iff0.mp (of_decide_eq_true c)] at k
          exact iteF (nxt ⟨_, rfl, ix_row (.inl (SqL.of c5)) e0 (k H5 (s03.trans (s4.trans s5)))⟩)
end
end Q
set_option Elab.async false
set_option linter.all false
set_option maxRecDepth 100000
set_option maxHeartbeats 4000000
/-! ### k31: what are no facts; _law_bad_lot -/
namespace Q
open PySem L2 XD
def BF31 (t : Tbl) (d : PyData) : Prop := areFacts t d = false ∧ FOk d
section
variable {t : Tbl}
theorem bf_norow31 {d : PyData} (e : rowOf d = none) : BF31 t d := by
  refine ⟨?_, fun fs h => by rw [e] at h; cases h⟩
  unfold areFacts
  rw [e]
theorem bf_go31 {d : PyData} {fs : List PyData} (e : rowOf d = some fs) (h : goFacts t [] fs = false) (g : ∀ f ∈ fs, GS f) : BF31 t d := by
  refine ⟨?_, fok_of e g⟩
  unfold areFacts
  rw [e]
  show (decide (fs.length ≤ t.length) && goFacts t [] fs) = false
  rw [h, Bool.and_false]
end
/-- the first field and its first value -/
structure One31 (t : Tbl) (n : Str) (v : Str) : Prop where
  tk : TabOk t
  mem : ∃ vs, (n, v :: vs) ∈ t
theorem One31.wn {t : Tbl} {n v : Str} (h : One31 t n v) : word n = true := by
  obtain ⟨vs, hm⟩ := h.mem
  exact h.tk.nm.2 n (List.mem_map.mpr ⟨_, hm, rfl⟩)
theorem One31.wv {t : Tbl} {n v : Str} (h : One31 t n v) : word v = true := by
  obtain ⟨vs, hm⟩ := h.mem
  exact (h.tk.vs _ hm).1.2 v List.mem_cons_self
theorem noQ31 : isWord (.str "Q") = false := by decide +kernel
theorem shQ31 : SeqAt.shaped (.str "Q") = true := str_shaped (by decide +kernel)
theorem sh_int31 (i : Int) : SeqAt.shaped (.int i) = true := by
  unfold SeqAt.shaped
  rw [Bool.and_eq_true]
  exact ⟨by simp [PyData.canLay0], by simp [PyData.depth]⟩
section
variable {t : Tbl} {n v : Str} (O : One31 t n v)
include O
theorem bf_a31 : BF31 t (.tuple [.tuple [.str n, .str v], .tuple [.str n, .str v]]) := bf_go31 rfl (go_twice (r := [(n, v), (n, v)]) (by simp)) fun f hf => by
  have : f = .tuple [.str n, .str v] := by
    rcases List.mem_cons.mp hf with e | hf
    · exact e
    · exact List.mem_singleton.mp hf
  rw [this]
  exact gs_two (str_shaped (word_ok O.wv))
theorem bf_b31 : BF31 t (.tuple [.tuple [.str n, .str "Q"]]) := bf_go31 rfl (go_value fun ws hm => stands_no O.tk hm noQ31) fun f hf => by
  rw [List.mem_singleton.mp hf]
  exact gs_two shQ31
theorem bf_c31 : BF31 t (.tuple [.tuple [.str "Q", .str v]]) := bf_go31 rfl (go_name O.tk noQ31) fun f hf => by
  rw [List.mem_singleton.mp hf]
  exact gs_two (str_shaped (word_ok O.wv))
omit O in
theorem bf_none31 {f : PyData} {fs : List PyData} (h : pairOf f = none) (g : ∀ x ∈ fs, GS x) : BF31 t (.tuple (f :: fs)) := bf_go31 rfl (go_none h) fun x hx => by
  rcases List.mem_cons.mp hx with rfl | hx
  · exact gs_none h
  · exact g x hx
omit O in
theorem no_gs31 : ∀ x ∈ ([] : List PyData), GS x := fun x hx => absurd hx List.not_mem_nil
theorem bf_d31 : BF31 t (.tuple [.str n, .str v]) := bf_none31 rfl fun x hx => by
  rw [List.mem_singleton.mp hx]
  exact gs_none rfl
theorem bf_e31 (i : Int) : BF31 t (.tuple [.tuple [.str n, .str v], .int i]) := by
  refine bf_go31 rfl ?_ fun x hx => ?_
  · obtain ⟨vs, hm⟩ := O.mem
    have e : look n t = some (v :: vs) := look_of O.tk.nm.1 hm
    rw [go_old (f := .tuple [.str n, .str v]) (n := n) (b := .str v) rfl e, go_none (f := .int i) rfl, Bool.and_false, Bool.and_false]
  · rcases List.mem_cons.mp hx with rfl | hx
    · exact gs_two (str_shaped (word_ok O.wv))
    · rw [List.mem_singleton.mp hx]
      exact gs_none rfl
abbrev badLot31 (n v : Str) : List PyData := [.none, .int 5, .str "ab", .tuple [.tuple [.str n, .str v], .tuple [.str n, .str v]], .tuple [.tuple [.str n, .str "Q"]], .tuple [.tuple [.str "Q", .str v]], .tuple [.str n, .str v], .tuple [.tuple [.str n]], .tuple [.none], .tuple [.tuple [.str n, .str v], .int 7]]
theorem badLot_bad31 : ∀ d ∈ badLot31 n v, BF31 t d := fun d hd => by
  simp only [List.mem_cons, List.not_mem_nil, or_false] at hd
  rcases hd with rfl | rfl | rfl | rfl | rfl | rfl | rfl | rfl | rfl | rfl
  · exact bf_norow31 rfl
  · exact bf_norow31 rfl
  · exact bf_norow31 rfl
  · exact bf_a31 O
  · exact bf_b31 O
  · exact bf_c31 O
  · exact bf_d31 O
  · exact bf_none31 rfl no_gs31
  · exact bf_none31 rfl no_gs31
  · exact bf_e31 O 7
end
theorem Bk31.one {K : PySem.W.Frag} {C : Addr} {R : Hp} {B x pf pr : Addr} {t : Tbl} {bans : List (List Pr)} (W : Bk31 K C R B x pf pr t bans) : ∃ n v vs t', t = (n, v :: vs) :: t' ∧ One31 t n v := by
  have tk := W.gd.tb
  cases t with
  | nil => exact absurd tk.lo (by decide)
  | cons e t' =>
    obtain ⟨n, ws⟩ := e
    cases ws with
    | nil => exact absurd (tk.vs (n, []) List.mem_cons_self).2.1 (Nat.not_succ_le_zero 0)
    | cons v vs => exact ⟨n, v, vs, t', rfl, tk, vs, List.mem_cons_self⟩
def spBl31 (K : PySem.W.Frag) (C : Addr) : Sp := fun vs H Q _ => ∃ (a b B x pf pr : Addr) (t : Tbl) (bans : List (List Pr)), vs = [.ref a, .ref B] ∧ Fl31 b H a ∧ Bk31 K C (Bs31 a b H) B x pf pr t bans ∧
  ∀ (v : V) (d : PyData) (H' : Hp), Dp K (Bs31 a b H') v d → BF31 t d → Fl31 b H' a → Same (Bs31 a b H) (Bs31 a b H') → Q v H'
abbrev nBl31 : List Str := ["st", "book", "name", "values", "one", "odd"]
section
variable {P : Program} {w : World} {K : PySem.W.Frag} {mg : Str → Option Value} {base : Heap}
theorem scBl31 : FnScope nBl31 ["st", "book"] (defScope sLBadLot) := ⟨rfl, rfl, rfl, by decide +kernel, rfl, by decide +kernel, by decide +kernel⟩
theorem ok_badlot31 {f C : Addr} {fd : FuncData} (F : Fun K "_law_bad_lot" "_law_bad_lot" sLBadLot f fd) (KO : Kn P w K mg base 3 "_law_one" ["st", "row"] (spOne31 K)) : FnOk P w K mg base CX0 4 f fd ["st", "book"] (spBl31 K C) := by
  obtain ⟨fO, fdO, GO, kO, bO, mO⟩ := KO.ex
  refine F.ok scBl31 (fun vs H Q E h => ?_) (fun cdv A outer s H vs Q E hr h => ?_)
  · obtain ⟨a, b, B, x, pf, pr, t, bans, rfl, _⟩ := h
    rfl
  have hu1 : (A.deeper (PyProof.Rows.envOfC "_law_bad_lot" (defScope sLBadLot) s.heap.objs.size f cdv)).units + 1 < cLine := by
    have := hr.un
    omega
  refine ⟨_, pss_cons (ps_asg (pe_ix (ix_both K rfl) (pe_dget hu1 (pv 1) pe_str (fun _ _ => rfl)) pe_int (fun _ _ => rfl)) (pg_row rfl (pgs_cons (pg_name (i := 2) scBl31.nd rfl (.inl rfl)) (pgs_cons (pg_name (i := 3) scBl31.nd rfl (.inl rfl)) pgs_nil))))
    (pss_cons (ps_set (i := 4) scBl31.nd rfl (.inl rfl) (pe_tupZ (pa_cons (pv 2) (pa_cons (pe_ix (ix_both K rfl) (pv 3) pe_int (fun _ _ => rfl)) pa_nil))))
    (pss_cons (ps_set (i := 5) scBl31.nd rfl (.inl rfl) (pe_lst (pa_cons pe_non (pa_cons pe_int (pa_cons pe_str (pa_cons (pe_tupZ (pa_cons (pv 4) (pa_cons (pv 4) pa_nil))) (pa_cons (pe_tupZ (pa_cons (pe_tupZ (pa_cons (pv 2) (pa_cons pe_str pa_nil))) pa_nil)) (pa_cons (pe_tupZ (pa_cons (pe_tupZ (pa_cons pe_str (pa_cons (pe_ix (ix_both K rfl) (pv 3) pe_int (fun _ _ => rfl)) pa_nil))) pa_nil)) (pa_cons (pv 4) (pa_cons (pe_tupZ (pa_cons (pe_tupZ (pa_cons (pv 2) pa_nil)) pa_nil)) (pa_cons (pe_tupZ (pa_cons pe_non pa_nil)) (pa_cons (pe_tupZ (pa_cons (pv 4) (pa_cons pe_int pa_nil))) pa_nil))))))))))))
    (pss_one (ps_ret (pe_call GO hr (by rfl) mO kO bO .nil pass0 (pa_cons (pv 0) (pa_cons (pv 5) pa_nil))))))), ?_⟩
  obtain ⟨a, b, Bo, x, pf, pr, t, bans, rfl, Fl, W, k⟩ := h
  try simp only [L2.start, gName, List.map_cons, List.map_nil, List.length_cons, List.length_nil, Nat.reduceAdd, Nat.reduceSub, List.replicate_succ, List.replicate_zero, List.cons_append, List.nil_append, List.set_cons_succ, List.set_cons_zero]
  obtain ⟨n, v0, vs, t', rfl, O⟩ := W.one
  obtain ⟨kvs, vp, vb, hB1, hB2, hB3, hB4, dP, dB⟩ := W.bk
  have gP : DGet H Bo (.str "parts") (some vp) := by
    rw [← hB2]
    exact DGet.k (k := .inr "parts") (rm_le _ _ hB1)
  obtain ⟨q, ys, rfl, hq, hys⟩ := dp_tup31 dP
  obtain ⟨y0, yr, rfl, h0⟩ : ∃ y0 yr, ys = y0 :: yr ∧ Dp K (Bs31 a b H) y0 (entryD (n, v0 :: vs)) := by
    cases hys with
    | cons h r => exact ⟨_, _, rfl, h⟩
  obtain ⟨qe, vn, vv, rfl, hqe, hvn, hvv⟩ := dp_two31 h0
  cases hvn
  obtain ⟨qv, ws, rfl, hqv, hws⟩ := dp_tup31 hvv
  have ew := dps_str hws
  subst ew
  refine ⟨_, rfl, Bo, _, rfl, gP, ix_row (.inr (seqT_same rm_le hq)) at0 (.inl ⟨qe, _, rfl, seqT_same rm_le hqe, rfl, .str n, _, rfl, .ref qv, [], rfl, rfl, ?_⟩)⟩
  try simp only [gName, List.set_cons_succ, List.set_cons_zero]
  have B : Bl31 K a b _ _ _ _ H := Blk.new flo31 Fl (.cons hvv .nil)
  refine asg_D B (mk_tup B.al (by rfl) (mkl_cons (mk_var (i := 2) (by rfl) (.str n)) (mkl_cons (mk_at (mk_var (i := 3) (by rfl) (dget B.E 0 rfl rfl)) rfl at0) mkl_nil))) fun vo H1 s1 B => ?_
  try simp only [gName, List.set_cons_succ, List.set_cons_zero]
  refine asg_D B (mk_lst B.al (by rfl) (mkl_cons mk_non (mkl_cons (mk_int 5) (mkl_cons (mk_str "ab") (mkl_cons (mk_tup B.al (by rfl) (mkl_cons (mk_var (i := 4) (by rfl) (dget B.E 0 rfl rfl)) (mkl_cons (mk_var (i := 4) (by rfl) (dget B.E 0 rfl rfl)) mkl_nil))) (mkl_cons (mk_tup B.al (by rfl) (mkl_cons (mk_tup B.al (by rfl) (mkl_cons (mk_var (i := 2) (by rfl) (.str n)) (mkl_cons (mk_str "Q") mkl_nil))) mkl_nil)) (mkl_cons (mk_tup B.al (by rfl) (mkl_cons (mk_tup B.al (by rfl) (mkl_cons (mk_str "Q") (mkl_cons (mk_at (mk_var (i := 3) (by rfl) (dget B.E 1 rfl rfl)) rfl at0) mkl_nil))) mkl_nil)) (mkl_cons (mk_var (i := 4) (by rfl) (dget B.E 0 rfl rfl)) (mkl_cons (mk_tup B.al (by rfl) (mkl_cons (mk_tup B.al (by rfl) (mkl_cons (mk_var (i := 2) (by rfl) (.str n)) mkl_nil)) mkl_nil)) (mkl_cons (mk_tup B.al (by rfl) (mkl_cons mk_non mkl_nil)) (mkl_cons (mk_tup B.al (by rfl) (mkl_cons (mk_var (i := 4) (by rfl) (dget B.E 0 rfl rfl)) (mkl_cons (mk_int 7) mkl_nil))) mkl_nil))))))))))) fun vl H2 s2 B => ?_
  try simp only [gName, List.set_cons_succ, List.set_cons_zero]
  obtain ⟨L, us, rfl, hL, hus⟩ := row_len (dget B.E 0 (v := vl) rfl rfl) rfl
  have lu := dps_len hus
  refine ⟨_, rfl, _, rfl, a, b, L, us, rfl, B.fl, hL, by rw [lu]; exact Nat.le_of_ble_eq_true rfl, by rw [lu]; exact Nat.le_of_ble_eq_true rfl, fun j y H3 hy F3 s3 => ?_⟩
  obtain ⟨d, hd, hyd⟩ := dps_get hus hy
  exact k y d H3 (dp_same s3 hyd) (badLot_bad31 O d (List.mem_of_getElem? hd)) F3 (B.keep.trans s3)
end
end Q
set_option Elab.async false
set_option linter.all false
set_option maxRecDepth 100000
set_option maxHeartbeats 4000000
/-! ### k31: what are no outcomes; _law_bad_pairs -/
namespace Q
open PySem L2 XD
theorem op_catTK31 {X : Cx} (K : PySem.W.Frag) (h : X.K = K) : OpR X (binaryOp .Add) (rCatT K) := by
  subst h
  exact op_catT
theorem op_repTK31 {X : Cx} (K : PySem.W.Frag) (h : X.K = K) : OpR X (binaryOp .Mult) (rRepT K) := by
  subst h
  exact op_repT
theorem getD31 {α : Type} {l : List α} {i : Nat} {x d : α} (h : l[i]? = some x) : l.getD i d = x := by rw [List.getD_eq_getElem?_getD, h] <;> rfl
theorem range31 {α β : Type} (l : List α) (d : α) (p : α → Bool) (g : α → β) : ((List.range l.length).filter fun i => p (l.getD i d)).map (fun i => g (l.getD i d)) = (l.filter p).map g := by
  have h0 : (List.range l.length).map (fun i => l.getD i d) = l := by
    refine List.ext_getElem (by rw [List.length_map, List.length_range]) fun i h1 h2 => ?_
    rw [List.getElem_map, List.getElem_range, List.getD_eq_getElem?_getD, List.getElem?_eq_getElem h2] <;> rfl
  have h : l.filter p = ((List.range l.length).map fun i => l.getD i d).filter p := by rw [h0]
  rw [h, List.filter_map, List.map_map]
  rfl
/-- a comprehension over a list that an expression gives -/
theorem mx_lcLi31 {K : PySem.W.Frag} {S : List Addr} {H0 : Hp} {σ : L2.St} {t0 : TE} {g : TG} {tt : TT} {te : TE} {ws : List Nat} {ds es : List PyData} (sel : Nat → Bool) (f : Nat → PyData) (A : Alive S H0) (h : MkD K S H0 σ t0 (.list ds)) (hl : ds.length ≤ 1000)
    (he : ((List.range ds.length).filter sel).map f = es)
    (turn : ∀ (i : Nat) (v : V) (e : PyData) (D : Addr) (H : Hp) (yes : VK) (no : Hp → Prop), ds[i]? = some e → Dp K (rmL (D :: S) H) v e → Alive (D :: S) H → Same (rmL S H0) (rmL (D :: S) H) → Same H0 H →
      (sel i = true → ∀ y H', Same H H' → Dp K (rmL (D :: S) H') y (f i) → yes y H') → (sel i = false → ∀ H', Same H H' → no H') →
      g v (wipe σ ws) H fun σ2 H2 => wipe σ2 ws = wipe σ ws ∧ tt σ2 H2 fun b H3 => if b = true then te σ2 H3 yes else no H3) : MkX K S H0 σ (tLc (iList K t0) g tt te ws) es := fun H Q s k =>
  (h H _ s fun v H1 s1 hv => by
    cases hv with
    | @lst q ys _ hq ha =>
    have ly := dps_len ha
    have hqf : SqL K H1 q ys := Same.seq rm_le hq
    refine ⟨q, rfl, ⟨ys, hqf⟩, fun D hD => ?_⟩
    have sD : ∀ {H' : Hp}, Same H1 H' → Same (rmL S H1) (rmL (D :: S) H') := fun s' => same_in hD s'
    refine lc_list (xs := ys) (fun i H' => ∃ zs, H' D = some (.lst zs) ∧ DpAll K (rmL (D :: S) H') zs (((List.range i).filter sel).map f) ∧ Same H1 H') ⟨[], upd_same, .nil, new_same hD _⟩ (fun i H' _ ⟨_, _, _, z⟩ => Same.seq z hqf) (fun i x H' hx ⟨zs, z1, z2, z3⟩ => ?_) (fun H' ⟨zs, z1, z2, z3⟩ => ?_)
    · obtain ⟨e, he', hd⟩ := dps_get ha hx
      have il := (List.getElem?_eq_some_iff.mp hx).1
      have zl := dps_len z2
      have rl : (((List.range i).filter sel).map f).length ≤ i := by
        rw [List.length_map]
        refine Nat.le_trans (List.length_filter_le _ _) ?_
        rw [List.length_range]
        exact Nat.le_refl _
      refine turn i x e D H' _ _ he' (dp_same (sD z3) hd) (fun y hy => ?_) ((rm_same (s.trans s1)).trans (sD z3)) ((s.trans s1).trans z3) (fun hs y H4 s4 hy => ⟨zs, s4 _ _ z1, small1000 (by omega), zs ++ [y], upd_same, ?_, fun b o z => ?_⟩) (fun hs H4 s4 => ⟨zs, s4 _ _ z1, ?_, z3.trans s4⟩)
      · rcases List.mem_cons.mp hy with rfl | hy
        · rw [z1]
          exact fun z => by cases z
        · exact ((A.same (s.trans s1)).same z3) y hy
      · rw [rm_put List.mem_cons_self, range_filter, if_pos hs, List.map_append]
        exact dps_app (dps_same (rm_same s4) z2) (.cons hy .nil)
      · rw [upd_ne (ne_of_none z hD)]
        exact s4 _ _ (z3 _ _ z)
      · rw [range_filter, if_neg (by rw [hs]; exact Bool.false_ne_true), List.append_nil]
        exact dps_same (rm_same s4) z2
    · have z2 : DpAll K (rmL (D :: S) H') zs es := by
        rw [← he, ← ly]
        exact z2
      have := k D zs (rmL [D] H') ((s1.trans (same_rm1 hD z3))) rm_gone (by rw [rm_rm]; exact z2)
      rw [rm_back z1] at this
      exact this)
section
variable {K : PySem.W.Frag} {S : List Addr} {H0 : Hp} {σ : L2.St}
theorem mk_rep31 {te : TE} {ds : List PyData} {k : Nat} (A : Alive S H0) (h : MkD K S H0 σ te (.tuple ds)) (h0 : ds ≠ []) (h1 : ds.length ≤ 30) (k2 : 2 ≤ k) (k9 : k ≤ 100) : MkD K S H0 σ (tOp (rRepT K) te (tC (.int (k : Nat)))) (.tuple (List.replicate k ds).flatten) := fun H Q s kk =>
  h H _ s fun v H1 s1 hv => by
    obtain ⟨q, xs, rfl, hq, hxs⟩ := dp_tup31 hv
    have lx := dps_len hxs
    refine ⟨q, (k : Nat), xs, rfl, rfl, seqT_same rm_le hq, fun e => h0 (by rw [e] at hxs; cases hxs; rfl), by omega, by omega, by omega, fun p hp => ?_⟩
    rw [Int.toNat_natCast]
    have np : p ∉ S := fun z => (A.same (s.trans s1)) p z hp
    have s2 := new_same hp (.tup (List.replicate k xs).flatten)
    refine kk _ _ (s1.trans s2) (.tup (.inl (.inl ((rm_at np).trans upd_same))) ?_)
    have : ∀ n : Nat, DpAll K (rmL S (L2.upd H1 p (.tup (List.replicate k xs).flatten))) (List.replicate n xs).flatten (List.replicate n ds).flatten := fun n => by
      induction n with
      | zero => exact .nil
      | succ n ih =>
        rw [List.replicate_succ, List.replicate_succ, List.flatten_cons, List.flatten_cons]
        exact dps_app (dps_same (rm_same s2) hxs) ih
    exact this k
theorem map_V31 {j m : Nat} {u : V} {te : TE} {ws : List Nat} {ds : List PyData} (G : PyData → PyData) (A : Alive S H0) (e0 : σ[j]? = some (some u)) (h : Dp K (rmL S H0) u (.list ds)) (hl : ds.length ≤ 1000) (hw : ∀ x, wipe ((wipe σ ws).set m (some x)) ws = wipe σ ws)
    (turn : ∀ (v : V) (e : PyData) (D : Addr) (H : Hp) (yes : VK), e ∈ ds → Dp K (rmL (D :: S) H) v e → Alive (D :: S) H → Same (rmL S H0) (rmL (D :: S) H) → (∀ y H', Same H H' → Dp K (rmL (D :: S) H') y (G e) → yes y H') → te ((wipe σ ws).set m (some v)) H yes) : MkX K S H0 σ (tLc (iRow K (tVar j)) (gName m) tYes te ws) (ds.map G) :=
  mx_lc (fun _ => true) (fun i => G (ds.getD i .none)) A e0 h rfl hl (by
    have := range31 ds .none (fun _ => true) G
    rw [this, List.filter_eq_self.mpr (fun _ _ => rfl)]) fun i v e D H yes no he hv al sS s0 hy hn => by
    have eg : ds.getD i .none = e := getD31 he
    rw [eg] at hy
    refine ⟨hw v, ?_⟩
    unfold tYes
    exact iteT (turn v e D H yes (List.mem_of_getElem? he) hv al sS (hy rfl))
theorem map_L31 {m : Nat} {t0 te : TE} {ws : List Nat} {ds : List PyData} (G : PyData → PyData) (A : Alive S H0) (h : MkD K S H0 σ t0 (.list ds)) (hl : ds.length ≤ 1000) (hw : ∀ x, wipe ((wipe σ ws).set m (some x)) ws = wipe σ ws)
    (turn : ∀ (v : V) (e : PyData) (D : Addr) (H : Hp) (yes : VK), e ∈ ds → Dp K (rmL (D :: S) H) v e → Alive (D :: S) H → Same (rmL S H0) (rmL (D :: S) H) → (∀ y H', Same H H' → Dp K (rmL (D :: S) H') y (G e) → yes y H') → te ((wipe σ ws).set m (some v)) H yes) : MkX K S H0 σ (tLc (iList K t0) (gName m) tYes te ws) (ds.map G) :=
  mx_lcLi31 (fun _ => true) (fun i => G (ds.getD i .none)) A h hl (by
    have := range31 ds .none (fun _ => true) G
    rw [this, List.filter_eq_self.mpr (fun _ _ => rfl)]) fun i v e D H yes no he hv al sS s0 hy hn => by
    have eg : ds.getD i .none = e := getD31 he
    rw [eg] at hy
    refine ⟨hw v, ?_⟩
    unfold tYes
    exact iteT (turn v e D H yes (List.mem_of_getElem? he) hv al sS (hy rfl))
end
/-! no outcomes -/
def BO31 (t : Tbl) (d : PyData) : Prop := isOuts t d = false ∧ OOk d ∧ ∀ ds, rowOf d = some ds → ds.length ≤ 100000
/-- a pair of facts and a word, of good size -/
def PO31 (p : PyData) : Prop := ∀ a b, pairOf p = some (a, b) → FOk a ∧ Short b
theorem po_none31 {p : PyData} (h : pairOf p = none) : PO31 p := fun a b e => by
  rw [h] at e
  cases e
theorem po_two31 {a b : PyData} (h : FOk a) (g : Short b) : PO31 (.tuple [a, b]) := fun x y e => by
  cases e
  exact ⟨h, g⟩
section
variable {t : Tbl}
theorem bo_norow31 {d : PyData} (e : rowOf d = none) : BO31 t d := by
  refine ⟨?_, fun fs h => (by rw [e] at h; cases h), fun fs h => by rw [e] at h; cases h⟩
  unfold isOuts
  rw [e]
theorem bo_in31 {ps : List PyData} {p : PyData} (hl : Nat.ble ps.length 1000 = true) (hp : p ∈ ps) (h : isOut t p = false) (g : ∀ q ∈ ps, PO31 q) : BO31 t (.tuple ps) := by
  refine ⟨?_, fun fs e q hq => (by cases e; exact g q hq), fun fs e => by cases e; have := Nat.le_of_ble_eq_true hl; omega⟩
  show (decide (ps.length ≤ 30) && ps.all (isOut t)) = false
  have : ps.all (isOut t) = false := by
    cases e : ps.all (isOut t) with
    | false => rfl
    | true =>
      rw [List.all_eq_true.mp e p hp] at h
      cases h
  rw [this, Bool.and_false]
theorem out_none31 {p : PyData} (h : pairOf p = none) : isOut t p = false := by
  unfold isOut
  rw [h]
theorem out_lot31 {a b : PyData} (h : areFacts t a = false) : isOut t (.tuple [a, b]) = false := by
  show (areFacts t a && isWord b) = false
  rw [h, Bool.false_and]
theorem out_word31 {a b : PyData} (h : isWord b = false) : isOut t (.tuple [a, b]) = false := by
  show (areFacts t a && isWord b) = false
  rw [h, Bool.and_false]
end
abbrev oneD31 (n v : Str) : PyData := .tuple [.str n, .str v]
abbrev lots31 (n v : Str) : List PyData := [.none, .int 5, .str "ab", .tuple [.tuple [.str n, .str "Q"]], .tuple [.tuple [.str n, .str v], .tuple [.str n, .str v]], .tuple [.tuple [.str "Q", .str v]], .tuple [.tuple [.str n, .str v, .int 0]], .tuple [.tuple [.str n]], .tuple [.str n, .str v]]
abbrev words31 : List PyData := [.str "", .str "X", .str "abcdefghi", .str "x y", .none, .int 5, .bool true, .tuple [.str "x"]]
abbrev oddC31 (n v : Str) : List PyData := [.none, .int 5, .str "ab", .tuple [.tuple [.tuple [.str n, .str v]], .str "x"], .tuple [.tuple [.tuple [.tuple [.str n, .str v]]]], .tuple [.tuple [.tuple [.tuple [.str n, .str v]], .str "x", .str "x"]], .tuple [.tuple [.tuple [.tuple [.tuple [.str n, .str v]], .str "x"]]], .tuple [.none]]
abbrev oddD31 (n v : Str) : List PyData := [.tuple (List.replicate 31 [PyData.tuple [.tuple [], .str "x"]]).flatten, .tuple [.tuple [.tuple [], .str "x"], .int 7], .tuple [.tuple [.tuple [], .str "x"], .tuple [.tuple [.tuple [.str n, .str v]], .int 3]]]
abbrev odd31 (n v : Str) : List PyData := (lots31 n v).map (fun d => PyData.tuple [.tuple [d, .str "x"]]) ++ words31.map (fun w => PyData.tuple [.tuple [.tuple [oneD31 n v], w]]) ++ oddC31 n v ++ oddD31 n v
theorem sx31 : Short (.str "x") := Nat.le_of_ble_eq_true rfl
theorem words_no31 : ∀ w ∈ words31, isWord w = false ∧ Short w := fun w hw => by
  simp only [List.mem_cons, List.not_mem_nil, or_false] at hw
  rcases hw with rfl | rfl | rfl | rfl | rfl | rfl | rfl | rfl
  · exact ⟨by decide +kernel, Nat.le_of_ble_eq_true rfl⟩
  · exact ⟨by decide +kernel, Nat.le_of_ble_eq_true rfl⟩
  · exact ⟨by decide +kernel, Nat.le_of_ble_eq_true rfl⟩
  · exact ⟨by decide +kernel, Nat.le_of_ble_eq_true rfl⟩
  · exact ⟨rfl, trivial⟩
  · exact ⟨rfl, trivial⟩
  · exact ⟨rfl, trivial⟩
  · exact ⟨rfl, trivial⟩
section
variable {t : Tbl} {n v : Str} (O : One31 t n v)
include O
theorem lots_bad31 : ∀ d ∈ lots31 n v, BF31 t d := fun d hd => by
  simp only [List.mem_cons, List.not_mem_nil, or_false] at hd
  rcases hd with rfl | rfl | rfl | rfl | rfl | rfl | rfl | rfl | rfl
  · exact bf_norow31 rfl
  · exact bf_norow31 rfl
  · exact bf_norow31 rfl
  · exact bf_b31 O
  · exact bf_a31 O
  · exact bf_c31 O
  · exact bf_none31 rfl no_gs31
  · exact bf_none31 rfl no_gs31
  · exact bf_d31 O
theorem one_fok31 : FOk (.tuple [oneD31 n v]) := fok_of rfl fun f hf => by
  rw [List.mem_singleton.mp hf]
  exact gs_two (str_shaped (word_ok O.wv))
omit O in
theorem nil_fok31 : FOk (.tuple []) := fok_of rfl fun f hf => absurd hf List.not_mem_nil
theorem odd_bad31 : ∀ d ∈ odd31 n v, BO31 t d := fun d hd => by
  have one1 : ∀ {p : PyData}, isOut t p = false → PO31 p → BO31 t (.tuple [p]) := fun h g => bo_in31 rfl List.mem_cons_self h fun q hq => by
    rw [List.mem_singleton.mp hq]
    exact g
  rcases List.mem_append.mp hd with hd | hd
  · rcases List.mem_append.mp hd with hd | hd
    · rcases List.mem_append.mp hd with hd | hd
      · obtain ⟨l, hl, rfl⟩ := List.mem_map.mp hd
        obtain ⟨h1, h2⟩ := lots_bad31 O l hl
        exact one1 (out_lot31 h1) (po_two31 h2 sx31)
      · obtain ⟨w, hw, rfl⟩ := List.mem_map.mp hd
        obtain ⟨h1, h2⟩ := words_no31 w hw
        exact one1 (out_word31 h1) (po_two31 (one_fok31 O) h2)
    · simp only [List.mem_cons, List.not_mem_nil, or_false] at hd
      rcases hd with rfl | rfl | rfl | rfl | rfl | rfl | rfl | rfl
      · exact bo_norow31 rfl
      · exact bo_norow31 rfl
      · exact bo_norow31 rfl
      · exact bo_in31 rfl List.mem_cons_self (out_none31 rfl) fun q hq => by
          rcases List.mem_cons.mp hq with rfl | hq
          · exact po_none31 rfl
          · rw [List.mem_singleton.mp hq]
            exact po_none31 rfl
      · exact one1 (out_none31 rfl) (po_none31 rfl)
      · exact one1 (out_none31 rfl) (po_none31 rfl)
      · exact one1 (out_none31 rfl) (po_none31 rfl)
      · exact one1 (out_none31 rfl) (po_none31 rfl)
  · simp only [List.mem_cons, List.not_mem_nil, or_false] at hd
    rcases hd with rfl | rfl | rfl
    · have e : (List.replicate 31 [PyData.tuple [.tuple [], .str "x"]]).flatten = List.replicate 31 (PyData.tuple [.tuple [], .str "x"]) := rfl
      rw [e]
      refine ⟨?_, fun fs ef q hq => ?_, fun fs ef => ?_⟩
      · show (decide ((List.replicate 31 (PyData.tuple [.tuple [], .str "x"])).length ≤ 30) && (List.replicate 31 (PyData.tuple [.tuple [], .str "x"])).all (isOut t)) = false
        rw [List.length_replicate] <;> rfl
      · cases ef
        rw [List.eq_of_mem_replicate hq]
        exact po_two31 nil_fok31 sx31
      · cases ef
        rw [List.length_replicate]
        decide
    · exact bo_in31 (p := .int 7) rfl (List.mem_cons_of_mem _ List.mem_cons_self) (out_none31 rfl) fun q hq => by
        rcases List.mem_cons.mp hq with rfl | hq
        · exact po_two31 nil_fok31 sx31
        · rw [List.mem_singleton.mp hq]
          exact po_none31 rfl
    · exact bo_in31 (p := .tuple [.tuple [oneD31 n v], .int 3]) rfl (List.mem_cons_of_mem _ List.mem_cons_self) (out_word31 rfl) fun q hq => by
        rcases List.mem_cons.mp hq with rfl | hq
        · exact po_two31 nil_fok31 sx31
        · rw [List.mem_singleton.mp hq]
          exact po_two31 (one_fok31 O) trivial
end
end Q
set_option Elab.async false
set_option linter.all false
set_option maxRecDepth 100000
set_option maxHeartbeats 4000000
/-! ### k31: _law_bad_pairs -/
namespace Q
open PySem L2 XD
theorem asg_cat31 {ta tb : TE} {i : Nat} {u : TS} {D : Ends} {σ : L2.St} {H : Hp} (h : ta σ H fun x H1 => tb σ H1 fun y H2 => rCat x y H2 fun v H3 => u D (σ.set i (some v)) H3) : tSeq (tAsg (tOp rCat ta tb) (gName i)) u D σ H := h
def spBp31 (K : PySem.W.Frag) (C : Addr) : Sp := fun vs H Q _ => ∃ (a b B x pf pr : Addr) (t : Tbl) (bans : List (List Pr)), vs = [.ref a, .ref B] ∧ Fl31 b H a ∧ Bk31 K C (Bs31 a b H) B x pf pr t bans ∧
  ∀ (v : V) (d : PyData) (H' : Hp), Dp K (Bs31 a b H') v d → BO31 t d → Fl31 b H' a → Same (Bs31 a b H) (Bs31 a b H') → Q v H'
abbrev nBp31 : List Str := ["st", "book", "name", "values", "one", "lots", "lot", "odd", "word"]
section
variable {P : Program} {w : World} {K : PySem.W.Frag} {mg : Str → Option Value} {base : Heap}
theorem scBp31 : FnScope nBp31 ["st", "book"] (defScope sLBadPairs) := ⟨rfl, rfl, rfl, by decide +kernel, rfl, by decide +kernel, by decide +kernel⟩
theorem ok_badpairs31 {f C : Addr} {fd : FuncData} (F : Fun K "_law_bad_pairs" "_law_bad_pairs" sLBadPairs f fd) (KO : Kn P w K mg base 3 "_law_one" ["st", "row"] (spOne31 K)) : FnOk P w K mg base CX0 4 f fd ["st", "book"] (spBp31 K C) := by
  obtain ⟨fO, fdO, GO, kO, bO, mO⟩ := KO.ex
  refine F.ok scBp31 (fun vs H Q E h => ?_) (fun cdv A outer s H vs Q E hr h => ?_)
  · obtain ⟨a, b, B, x, pf, pr, t, bans, rfl, _⟩ := h
    rfl
  have hu1 : (A.deeper (PyProof.Rows.envOfC "_law_bad_pairs" (defScope sLBadPairs) s.heap.objs.size f cdv)).units + 1 < cLine := by
    have := hr.un
    omega
  refine ⟨_, pss_cons (ps_asg (pe_ix (ix_both K rfl) (pe_dget hu1 (pv 1) pe_str (fun _ _ => rfl)) pe_int (fun _ _ => rfl)) (pg_row rfl (pgs_cons (pg_name (i := 2) scBp31.nd rfl (.inl rfl)) (pgs_cons (pg_name (i := 3) scBp31.nd rfl (.inl rfl)) pgs_nil))))
    (pss_cons (ps_set (i := 4) scBp31.nd rfl (.inr rfl) (pe_tupZ (pa_cons (pv 2) (pa_cons (pe_ix (ix_both K rfl) (pv 3) pe_int (fun _ _ => rfl)) pa_nil))))
    (pss_cons (ps_set (i := 5) scBp31.nd rfl (.inl rfl) (pe_lst (pa_cons pe_non (pa_cons pe_int (pa_cons pe_str (pa_cons (pe_tupZ (pa_cons (pe_tupZ (pa_cons (pv 2) (pa_cons pe_str pa_nil))) pa_nil)) (pa_cons (pe_tupZ (pa_cons (pv 4) (pa_cons (pv 4) pa_nil))) (pa_cons (pe_tupZ (pa_cons (pe_tupZ (pa_cons pe_str (pa_cons (pe_ix (ix_both K rfl) (pv 3) pe_int (fun _ _ => rfl)) pa_nil))) pa_nil)) (pa_cons (pe_tupZ (pa_cons (pe_op (op_catTK31 K rfl) (pv 4) (pe_tupZ (pa_cons pe_int pa_nil))) pa_nil)) (pa_cons (pe_tupZ (pa_cons (pe_tupZ (pa_cons (pv 2) pa_nil)) pa_nil)) (pa_cons (pv 4) pa_nil)))))))))))
    (pss_cons (ps_setLc (i := 7) (own := [("lot", 6)]) (g := gName 6) (tt := tYes) (by rfl) scBp31.nd rfl rfl (sw_true rfl rfl rfl (by decide +kernel)) (pi_row (pv 5)) (blkOk_by (N := nBp31) (sc := defScope sLBadPairs) (by decide +kernel)) (fun _ _ _ _ _ => (pg_name (i := 6) scBp31.nd rfl (.inl rfl))) (fun _ _ _ _ _ => pts_nil) (fun _ _ _ _ _ => (pe_tupZ (pa_cons (pe_tupZ (pa_cons (pv 6) (pa_cons pe_str pa_nil))) pa_nil))))
    (pss_cons (ps_set (i := 7) scBp31.nd rfl (.inl rfl) (pe_op op_cat (pv 7) (pe_lc (own := [("word", 8)]) (g := gName 8) (tt := tYes) (by rfl) scBp31.nd (pi_list (pe_lst (pa_cons pe_str (pa_cons pe_str (pa_cons pe_str (pa_cons pe_str (pa_cons pe_non (pa_cons pe_int (pa_cons pe_bl (pa_cons (pe_tupZ (pa_cons pe_str pa_nil)) pa_nil)))))))))) (blkOk_by (N := nBp31) (sc := defScope sLBadPairs) (by decide +kernel)) (fun _ _ _ _ _ => (pg_name (i := 8) scBp31.nd rfl (.inl rfl))) (fun _ _ _ _ _ => pts_nil) (fun _ _ _ _ _ => (pe_tupZ (pa_cons (pe_tupZ (pa_cons (pe_tupZ (pa_cons (pv 4) pa_nil)) (pa_cons (pv 8) pa_nil))) pa_nil))))))
    (pss_cons (ps_set (i := 7) scBp31.nd rfl (.inl rfl) (pe_op op_cat (pv 7) (pe_lst (pa_cons pe_non (pa_cons pe_int (pa_cons pe_str (pa_cons (pe_tupZ (pa_cons (pe_tupZ (pa_cons (pv 4) pa_nil)) (pa_cons pe_str pa_nil))) (pa_cons (pe_tupZ (pa_cons (pe_tupZ (pa_cons (pe_tupZ (pa_cons (pv 4) pa_nil)) pa_nil)) pa_nil)) (pa_cons (pe_tupZ (pa_cons (pe_tupZ (pa_cons (pe_tupZ (pa_cons (pv 4) pa_nil)) (pa_cons pe_str (pa_cons pe_str pa_nil)))) pa_nil)) (pa_cons (pe_tupZ (pa_cons (pe_tupZ (pa_cons (pe_tupZ (pa_cons (pe_tupZ (pa_cons (pv 4) pa_nil)) (pa_cons pe_str pa_nil))) pa_nil)) pa_nil)) (pa_cons (pe_tupZ (pa_cons pe_non pa_nil)) pa_nil)))))))))))
    (pss_cons (ps_set (i := 7) scBp31.nd rfl (.inl rfl) (pe_op op_cat (pv 7) (pe_lst (pa_cons (pe_op (op_repTK31 K rfl) (pe_tupZ (pa_cons (pe_tupZ (pa_cons (pe_tupZ pa_nil) (pa_cons pe_str pa_nil))) pa_nil)) pe_int) (pa_cons (pe_tupZ (pa_cons (pe_tupZ (pa_cons (pe_tupZ pa_nil) (pa_cons pe_str pa_nil))) (pa_cons pe_int pa_nil))) (pa_cons (pe_tupZ (pa_cons (pe_tupZ (pa_cons (pe_tupZ pa_nil) (pa_cons pe_str pa_nil))) (pa_cons (pe_tupZ (pa_cons (pe_tupZ (pa_cons (pv 4) pa_nil)) (pa_cons pe_int pa_nil))) pa_nil))) pa_nil))))))
    (pss_one (ps_ret (pe_call GO hr (by rfl) mO kO bO .nil pass0 (pa_cons (pv 0) (pa_cons (pv 7) pa_nil))))))))))), ?_⟩
  obtain ⟨a, b, Bo, x, pf, pr, t, bans, rfl, Fl, W, k⟩ := h
  try simp only [L2.start, gName, List.map_cons, List.map_nil, List.length_cons, List.length_nil, Nat.reduceAdd, Nat.reduceSub, List.replicate_succ, List.replicate_zero, List.cons_append, List.nil_append, List.set_cons_succ, List.set_cons_zero]
  obtain ⟨n, v0, vs, t', rfl, O⟩ := W.one
  obtain ⟨kvs, vp, vb, hB1, hB2, hB3, hB4, dP, dB⟩ := W.bk
  have gP : DGet H Bo (.str "parts") (some vp) := by
    rw [← hB2]
    exact DGet.k (k := .inr "parts") (rm_le _ _ hB1)
  obtain ⟨q, ys, rfl, hq, hys⟩ := dp_tup31 dP
  obtain ⟨y0, yr, rfl, h0⟩ : ∃ y0 yr, ys = y0 :: yr ∧ Dp K (Bs31 a b H) y0 (entryD (n, v0 :: vs)) := by
    cases hys with
    | cons h r => exact ⟨_, _, rfl, h⟩
  obtain ⟨qe, vn, vv, rfl, hqe, hvn, hvv⟩ := dp_two31 h0
  cases hvn
  obtain ⟨qv, ws, rfl, hqv, hws⟩ := dp_tup31 hvv
  have ew := dps_str hws
  subst ew
  refine ⟨_, rfl, Bo, _, rfl, gP, ix_row (.inr (seqT_same rm_le hq)) at0 (.inl ⟨qe, _, rfl, seqT_same rm_le hqe, rfl, .str n, _, rfl, .ref qv, [], rfl, rfl, ?_⟩)⟩
  try simp only [gName, List.set_cons_succ, List.set_cons_zero]
  have B : Bl31 K a b _ _ _ _ H := Blk.new flo31 Fl (.cons hvv .nil)
  refine asg_D B (mk_tup B.al (by rfl) (mkl_cons (mk_var (i := 2) (by rfl) (.str n)) (mkl_cons (mk_at (mk_var (i := 3) (by rfl) (dget B.E 0 rfl rfl)) rfl at0) mkl_nil))) fun vo H1 s1 B => ?_
  try simp only [gName, List.set_cons_succ, List.set_cons_zero]
  refine asg_D B (mk_lst (ds := lots31 n v0) B.al (by rfl) (mkl_cons mk_non (mkl_cons (mk_int 5) (mkl_cons (mk_str "ab") (mkl_cons (mk_tup B.al (by rfl) (mkl_cons (mk_tup B.al (by rfl) (mkl_cons (mk_var (i := 2) (by rfl) (.str n)) (mkl_cons (mk_str "Q") mkl_nil))) mkl_nil)) (mkl_cons (mk_tup B.al (by rfl) (mkl_cons (mk_var (i := 4) (by rfl) (dget B.E 0 rfl rfl)) (mkl_cons (mk_var (i := 4) (by rfl) (dget B.E 0 rfl rfl)) mkl_nil))) (mkl_cons (mk_tup B.al (by rfl) (mkl_cons (mk_tup B.al (by rfl) (mkl_cons (mk_str "Q") (mkl_cons (mk_at (mk_var (i := 3) (by rfl) (dget B.E 1 rfl rfl)) rfl at0) mkl_nil))) mkl_nil)) (mkl_cons (mk_tup B.al (by rfl) (mkl_cons (mk_catT B.al (mk_var (i := 4) (by rfl) (dget B.E 0 rfl rfl)) (mk_tup B.al (by rfl) (mkl_cons (mk_int 0) mkl_nil)) (by simp) (by rfl)) mkl_nil)) (mkl_cons (mk_tup B.al (by rfl) (mkl_cons (mk_tup B.al (by rfl) (mkl_cons (mk_var (i := 2) (by rfl) (.str n)) mkl_nil)) mkl_nil)) (mkl_cons (mk_var (i := 4) (by rfl) (dget B.E 0 rfl rfl)) mkl_nil)))))))))) fun vl H2 s2 B => ?_
  try simp only [gName, List.set_cons_succ, List.set_cons_zero]
  have hvl := dget B.E 0 (v := vl) rfl rfl
  refine asg_X B (map_V31 (K := K) (fun d => PyData.tuple [.tuple [d, .str "x"]]) B.al rfl hvl (Nat.le_of_ble_eq_true rfl) (fun _ => rfl) ?t1) fun L oL H3 s3 nL n0 nS B XL => ?_
  case t1 =>
    intro v e D H' yes _ hv al sS hy
    exact mk_tup al (by rfl) (mkl_cons (mk_tup al (by rfl) (mkl_cons (mk_var (i := 6) (by rfl) hv) (mkl_cons (mk_str "x") mkl_nil))) mkl_nil) H' _ (Same.refl _) fun y H4 s4 hy4 => hy y H4 s4 hy4
  try simp only [gName, List.set_cons_succ, List.set_cons_zero]
  have hm : ∀ {S' : List Addr} {H' : Hp}, Bl31 K a b (rmL [a, b] H) S' [vl, vo, .ref qv] [.list (lots31 n v0), oneD31 n v0, .tuple ((v0 :: vs).map PyData.str)] H' → Dp K (rmL S' H') vo (oneD31 n v0) := fun B => dget B.E 1 rfl rfl
  refine asg_X B (mx_cat (me_var (i := 7) rfl XL) (me_new (map_L31 (fun w => PyData.tuple [.tuple [.tuple [oneD31 n v0], w]]) B.al (mk_lst (ds := words31) B.al (by rfl) (mkl_cons (mk_str "") (mkl_cons (mk_str "X") (mkl_cons (mk_str "abcdefghi") (mkl_cons (mk_str "x y") (mkl_cons mk_non (mkl_cons (mk_int 5) (mkl_cons (mk_bl true) (mkl_cons (mk_tup B.al (by rfl) (mkl_cons (mk_str "x") mkl_nil)) mkl_nil))))))))) (Nat.le_of_ble_eq_true rfl) (fun _ => rfl) ?t2)) (Nat.le_of_ble_eq_true rfl)) fun La oLa H4 s4 nLa n02 nS2 B XL2 => ?_
  case t2 =>
    intro v e D H' yes _ hv al sS hy
    exact mk_tup al (by rfl) (mkl_cons (mk_tup al (by rfl) (mkl_cons (mk_tup al (by rfl) (mkl_cons (mk_var (i := 4) (by rfl) (dp_same sS (hm B))) mkl_nil)) (mkl_cons (mk_var (i := 8) (by rfl) hv) mkl_nil))) mkl_nil) H' _ (Same.refl _) fun y H4 s4 hy4 => hy y H4 s4 hy4
  try simp only [gName, List.set_cons_succ, List.set_cons_zero]
  refine asg_X B (mx_cat (me_var (i := 7) rfl XL2) (me_new (mx_lst (es := oddC31 n v0) (by rfl) (mkl_cons mk_non (mkl_cons (mk_int 5) (mkl_cons (mk_str "ab") (mkl_cons (mk_tup B.al (by rfl) (mkl_cons (mk_tup B.al (by rfl) (mkl_cons (mk_var (i := 4) (by rfl) (hm B)) mkl_nil)) (mkl_cons (mk_str "x") mkl_nil))) (mkl_cons (mk_tup B.al (by rfl) (mkl_cons (mk_tup B.al (by rfl) (mkl_cons (mk_tup B.al (by rfl) (mkl_cons (mk_var (i := 4) (by rfl) (hm B)) mkl_nil)) mkl_nil)) mkl_nil)) (mkl_cons (mk_tup B.al (by rfl) (mkl_cons (mk_tup B.al (by rfl) (mkl_cons (mk_tup B.al (by rfl) (mkl_cons (mk_var (i := 4) (by rfl) (hm B)) mkl_nil)) (mkl_cons (mk_str "x") (mkl_cons (mk_str "x") mkl_nil)))) mkl_nil)) (mkl_cons (mk_tup B.al (by rfl) (mkl_cons (mk_tup B.al (by rfl) (mkl_cons (mk_tup B.al (by rfl) (mkl_cons (mk_tup B.al (by rfl) (mkl_cons (mk_var (i := 4) (by rfl) (hm B)) mkl_nil)) (mkl_cons (mk_str "x") mkl_nil))) mkl_nil)) mkl_nil)) (mkl_cons (mk_tup B.al (by rfl) (mkl_cons mk_non mkl_nil)) mkl_nil)))))))))) (Nat.le_of_ble_eq_true rfl)) fun Lb oLb H5 s5 nL3 n03 nS3 B XL3 => ?_
  try simp only [gName, List.set_cons_succ, List.set_cons_zero]
  refine asg_X B (mx_cat (me_var (i := 7) rfl XL3) (me_new (mx_lst (es := oddD31 n v0) (by rfl) (mkl_cons (mk_rep31 (k := 31) B.al (mk_tup B.al (by rfl) (mkl_cons (mk_tup B.al (by rfl) (mkl_cons (mk_tup B.al (by rfl) mkl_nil) (mkl_cons (mk_str "x") mkl_nil))) mkl_nil)) (by simp) (by decide) (by decide) (by decide)) (mkl_cons (mk_tup B.al (by rfl) (mkl_cons (mk_tup B.al (by rfl) (mkl_cons (mk_tup B.al (by rfl) mkl_nil) (mkl_cons (mk_str "x") mkl_nil))) (mkl_cons (mk_int 7) mkl_nil))) (mkl_cons (mk_tup B.al (by rfl) (mkl_cons (mk_tup B.al (by rfl) (mkl_cons (mk_tup B.al (by rfl) mkl_nil) (mkl_cons (mk_str "x") mkl_nil))) (mkl_cons (mk_tup B.al (by rfl) (mkl_cons (mk_tup B.al (by rfl) (mkl_cons (mk_var (i := 4) (by rfl) (hm B)) mkl_nil)) (mkl_cons (mk_int 3) mkl_nil))) mkl_nil))) mkl_nil))))) (Nat.le_of_ble_eq_true rfl)) fun Lc oLc H6 s6 nLc n04 nS4 B XL4 => ?_
  try simp only [gName, List.set_cons_succ, List.set_cons_zero]
  obtain ⟨us, hL, hus⟩ := XL4
  have lu := dps_len hus
  have hrow : Bs31 a b (L2.upd H6 Lc oLc) Lc = some (.lst us) := (rm_at n04).trans hL
  refine ⟨_, rfl, _, rfl, a, b, Lc, us, rfl, B.fl, .inl (SqL.of hrow), by rw [lu]; exact Nat.le_of_ble_eq_true rfl, by rw [lu]; exact Nat.le_of_ble_eq_true rfl, fun j y H7 hy F7 s7 => ?_⟩
  obtain ⟨d, hd, hyd⟩ := dps_get hus hy
  exact k y d H7 (dp_same s7 (dp_same (rm_sub B.sub) hyd)) (odd_bad31 O d (List.mem_of_getElem? hd)) F7 (B.keep.trans s7)
end
end Q
set_option Elab.async false
set_option linter.all false
set_option maxRecDepth 100000
set_option maxHeartbeats 4000000
/-! ### k31: the law's fillings and the program's -/
namespace Q
open PySem L2 XD
abbrev rsB31 (t : Tbl) (bans : List (List Pr)) : List (List Pr) := once (bans.map (bySeq t))
section
variable {t : Tbl} {bans : List (List Pr)}
theorem chs_nm31 {row : List Pr} (h : row ∈ chs t) : row.map (·.1) = t.map (·.1) := by
  have := chs_names t [[]] [] (fun x hx => by rw [List.mem_singleton.mp hx] <;> rfl) row h
  rw [List.nil_append] at this
  exact this
theorem chs_of31 {row : List Pr} (h : row ∈ chs t) : ∀ e ∈ row, ∃ ws, (e.1, ws) ∈ t ∧ e.2 ∈ ws :=
  chs_all (ok := fun e => ∃ ws, (e.1, ws) ∈ t ∧ e.2 ∈ ws) t [[]] (fun x hx => by rw [List.mem_singleton.mp hx]; exact fun e he => absurd he List.not_mem_nil) (fun y hy v hv => ⟨y.2, hy, hv⟩) row h
theorem chs_known31 (nd : (t.map (·.1)).Nodup) {row : List Pr} (h : row ∈ chs t) : Known t row := by
  have e := chs_nm31 h
  have l := congrArg List.length e
  rw [List.length_map, List.length_map] at l
  exact ⟨by omega, by rw [e]; exact nd, chs_of31 h⟩
theorem ok_free31 (G : Good t bans) (row : List Pr) : ((rsB31 t bans).all fun r => !within r row) = free31 bans row := by
  have wb : ∀ b ∈ bans, within (bySeq t b) row = within b row := fun b hb => within_bySeq fun e he => by
    obtain ⟨ws, h, _⟩ := (G.bs b hb).of e he
    exact ⟨ws, h⟩
  unfold free31
  rw [Bool.eq_iff_iff, List.all_eq_true, List.all_eq_true]
  constructor
  · intro h b hb
    have := h (bySeq t b) (once_mem.mpr (List.mem_map.mpr ⟨b, hb, rfl⟩))
    rw [wb b hb] at this
    exact this
  · intro h r hr
    obtain ⟨b, hb, rfl⟩ := List.mem_map.mp (once_mem.mp hr)
    rw [wb b hb]
    exact h b hb
theorem fills_law31 (G : Good t bans) {f : List Pr} (N : Known t f) : fills (rsB31 t bans) f t = (lawAll t bans).filter (within f) := by
  rw [fills_eq G.tb.nm.1 (form_ok G).rq]
  unfold lawAll
  rw [List.filter_filter]
  refine List.filter_congr fun row hrow => ?_
  unfold okRow
  rw [all_let G.tb.nm.1 N.nd (fun e he => by obtain ⟨ws, a, _⟩ := N.of e he; exact ⟨ws, a⟩) (chs_nm31 hrow), ok_free31 G]
theorem frule_facts31 {d : PyData} {l : List Pr} (h : FRule l d) : factsOf d = l := by
  obtain ⟨gs, e, hp⟩ := h
  unfold factsOf
  rw [e]
  show gs.map factOf = l
  conv => rhs; rw [← List.map_id l]
  refine prd_map (fun g e h => ?_) hp
  unfold factOf
  rw [h] <;> rfl
theorem fill_yes31 (G : Good t bans) {row : List Pr} (h : row ∈ lawAll t bans) {d : PyData} (hd : FRule row d) : isFill t (rsB31 t bans) d = true := by
  have N := chs_known31 G.tb.nm.1 (List.mem_filter.mp h).1
  obtain ⟨h1, h2, _⟩ := known_facts G.tb N hd
  unfold isFill
  rw [h1, h2, Bool.true_and, decide_eq_true_iff, fills_law31 G N]
  exact List.mem_filter.mpr ⟨h, within_iff.mpr fun p hp => hp⟩
theorem fill_no31 (G : Good t bans) {d : PyData} {l : List Pr} (e : factsOf d = l) (h : l ∉ lawAll t bans) : isFill t (rsB31 t bans) d = false := by
  unfold isFill
  rw [e]
  have : decide (l ∈ fills (rsB31 t bans) l t) = false := decide_eq_false fun z => h (by
    rw [fills_eq G.tb.nm.1 (form_ok G).rq] at z
    obtain ⟨h1, h2⟩ := List.mem_filter.mp z
    unfold okRow at h2
    rw [Bool.and_eq_true, ok_free31 G] at h2
    exact List.mem_filter.mpr ⟨h1, h2.2⟩)
  rw [this, Bool.and_false]
theorem fill_nf31 {rs : List (List Pr)} {d : PyData} (h : areFacts t d = false) : isFill t rs d = false := by
  unfold isFill
  rw [h, Bool.false_and]
theorem law_nm31 {row : List Pr} (h : row ∈ lawAll t bans) : row.map (·.1) = t.map (·.1) := chs_nm31 (List.mem_filter.mp h).1
theorem law_len31 {row : List Pr} (h : row ∈ lawAll t bans) : row.length = t.length := by
  have := congrArg List.length (law_nm31 h)
  rwa [List.length_map, List.length_map] at this
/-! what is no filling -/
theorem no_len31 {l : List Pr} (h : l.length ≠ t.length) : l ∉ lawAll t bans := fun z => h (law_len31 z)
theorem no_rev31 (nd : (t.map (·.1)).Nodup) {row : List Pr} (h : row ∈ lawAll t bans) (h2 : 1 < row.length) : row.reverse ∉ lawAll t bans := fun z => by
  have e1 := law_nm31 h
  have e2 := law_nm31 z
  rw [← e1, List.map_reverse] at e2
  have nd2 : (row.map (·.1)).Nodup := by rw [e1]; exact nd
  have l2 : 1 < (row.map (·.1)).length := by rw [List.length_map]; exact h2
  generalize row.map (·.1) = ns at e2 nd2 l2
  have a := congrArg (fun l => l[0]?) e2
  have hl : ns.reverse[0]? = ns[ns.length - 1]? := by rw [List.getElem?_reverse (by omega)] <;> simp
  have a : ns.reverse[0]? = ns[0]? := a
  rw [hl, List.getElem?_eq_getElem (by omega), List.getElem?_eq_getElem (by omega)] at a
  have := (List.getElem_inj nd2).mp (Option.some.inj a)
  omega
theorem no_rot31 (nd : (t.map (·.1)).Nodup) {row : List Pr} (h : row ∈ lawAll t bans) (h2 : 1 < row.length) : row.drop 1 ++ row.take 1 ∉ lawAll t bans := fun z => by
  have e1 := law_nm31 h
  have e2 := law_nm31 z
  rw [← e1] at e2
  have nd2 : (row.map (·.1)).Nodup := by rw [e1]; exact nd
  cases row with
  | nil => exact absurd h2 (Nat.not_lt_zero _)
  | cons x r =>
    cases r with
    | nil => exact absurd h2 (Nat.lt_irrefl _)
    | cons y r =>
      have e3 : y.1 = x.1 := (List.cons.inj e2).1
      rw [List.map_cons, List.map_cons, List.nodup_cons] at nd2
      exact nd2.1 (by rw [← e3]; exact List.mem_cons_self)
theorem no_Q31 (G : Good t bans) {l : List Pr} {n : Str} : l ++ [((n, ("Q" : Str)) : Pr)] ∉ lawAll t bans := fun z => by
  obtain ⟨ws, h1, h2⟩ := chs_of31 (List.mem_filter.mp z).1 (n, "Q") (List.mem_append_right _ List.mem_cons_self)
  have := (G.tb.vs _ h1).1.2 _ h2
  have h3 : word "Q" = false := noQ31
  rw [this] at h3
  cases h3
theorem facts_noN31 {ds : List PyData} : areFacts t (.tuple (ds ++ [.none])) = false := by
  cases e : areFacts t (.tuple (ds ++ [.none])) with
  | false => rfl
  | true =>
    obtain ⟨h1, h2⟩ := facts_go rfl e
    have h3 := (go_tupled31 h2).1
    rw [List.map_append, List.map_append, List.map_append] at h3
    have h4 := List.append_inj_right' h3 rfl
    have h5 := (List.cons.inj h4).1
    rw [tupled_no24 (d := .none) rfl] at h5
    cases h5
theorem rule_fok31 {l : List Pr} (h : RStr l) : FOk (ruleD l) := fok_of (fs := l.map pD) rfl fun f hf => by
  obtain ⟨e, he, rfl⟩ := List.mem_map.mp hf
  exact gs_two (str_shaped (h e he).2)
theorem frule_D31 (l : List Pr) : FRule l (ruleD l) := ⟨l.map pD, rfl, rule_pair l⟩
end
/-! tuples that are kept -/
def TZ31 (K : PySem.W.Frag) (R : Hp) (v : V) (ds : List PyData) : Prop := ∃ q zs, v = .ref q ∧ SqZ R q zs ∧ DpAll K R zs ds
theorem TZ31.same {K : PySem.W.Frag} {R R' : Hp} {v : V} {ds : List PyData} (s : Same R R') (h : TZ31 K R v ds) : TZ31 K R' v ds := by
  obtain ⟨q, zs, e, a, b⟩ := h
  exact ⟨q, zs, e, a.same s, dps_same s b⟩
theorem TZ31.dp {K : PySem.W.Frag} {R : Hp} {v : V} {ds : List PyData} (h : TZ31 K R v ds) : Dp K R v (.tuple ds) := by
  obtain ⟨q, zs, rfl, a, b⟩ := h
  exact .tup a.sqT b
def MkT31 (K : PySem.W.Frag) (H0 : Hp) (σ : L2.St) (te : TE) (ds : List PyData) : Prop := ∀ H (Q : VK), Same H0 H → (∀ v H', Same H H' → TZ31 K H' v ds → Q v H') → te σ H Q
section
variable {K : PySem.W.Frag} {H0 : Hp} {σ : L2.St}
theorem mt_var31 {i : Nat} {v : V} {ds : List PyData} (e : σ[i]? = some (some v)) (h : TZ31 K H0 v ds) : MkT31 K H0 σ (tVar i) ds := fun H Q s k => ⟨v, e, k v H (Same.refl H) (h.same s)⟩
theorem mt_tup31 {ta : TA} {ds : List PyData} (hl : ds.length ≤ 1000) (h : MkL K [] H0 σ ta ds) : MkT31 K H0 σ (tTupZ ta) ds := fun H Q s k =>
  h H _ s fun vs H1 s1 hvs => by
    rw [rm_nil] at hvs
    have lv := dps_len hvs
    exact ⟨Nat.le_of_lt (small1000 (by omega)), fun p o hp ho => k _ _ (s1.trans (new_same hp _)) ⟨p, vs, rfl, ⟨o, upd_same, ho⟩, dps_same (new_same hp _) hvs⟩⟩
theorem mt_cat31 {t1 t2 : TE} {ds es : List PyData} (h : MkT31 K H0 σ t1 ds) (g : MkT31 K H0 σ t2 es) (hl : ds.length + es.length ≤ 1000) : MkT31 K H0 σ (tOp (rCatZ K) t1 t2) (ds ++ es) := fun H Q s k =>
  h H _ s fun v H1 s1 hv => g H1 _ (s.trans s1) fun u H2 s2 hu => by
    obtain ⟨q, xs, rfl, hq, hxs⟩ := hv.same s2
    obtain ⟨p, ys, rfl, hp, hys⟩ := hu
    have lx := dps_len hxs
    have ly := dps_len hys
    have big : 1001 < sizeLine := by decide
    refine ⟨q, p, xs, ys, rfl, rfl, hq.sqT, hp.sqT, by omega, fun e => ?_, fun _ e => ?_, fun _ _ z o hz ho => ?_⟩
    · subst e
      cases hxs
      exact k _ H2 (s1.trans s2) ⟨p, ys, rfl, hp, hys⟩
    · subst e
      cases hys
      rw [List.append_nil] at k
      exact k _ H2 (s1.trans s2) ⟨q, xs, rfl, hq, hxs⟩
    · exact k _ _ ((s1.trans s2).trans (new_same hz _)) ⟨z, _, rfl, ⟨o, upd_same, ho⟩, dps_same (new_same hz _) (dps_app hxs hys)⟩
theorem dps_take31 {R : Hp} : ∀ {n : Nat} {us : List V} {ds : List PyData}, DpAll K R us ds → DpAll K R (us.take n) (ds.take n) := fun h => dps_take _ h
/-- any part -/
theorem mt_cut31 {te : TE} {tl th : TO} {lo hi : Option Int} {ds : List PyData} (h : MkT31 K H0 σ te ds) (hlo : ∀ (H : Hp) (R : Option Int → Hp → Prop), R lo H → tl σ H R) (hhi : ∀ (H : Hp) (R : Option Int → Hp → Prop), R hi H → th σ H R) : MkT31 K H0 σ (tSl (rSlZ K) te tl th) ((ds.drop (HT.sIx ds.length 0 lo)).take (HT.sIx ds.length ds.length hi - HT.sIx ds.length 0 lo)) := fun H Q s k =>
  h H _ s fun v H1 s1 hv => hlo H1 _ (hhi H1 _ (by
    obtain ⟨q, xs, rfl, hq, hxs⟩ := hv
    have lx := dps_len hxs
    refine ⟨q, xs, rfl, hq.sqT, fun e => ?_, fun _ z o hz ho => ?_⟩
    · rw [lx] at e
      rw [e.1, e.2, List.drop_zero, Nat.sub_zero, List.take_length] at k
      exact k _ H1 s1 ⟨q, xs, rfl, hq, hxs⟩
    · refine k _ _ (s1.trans (new_same hz _)) ⟨z, _, rfl, ⟨o, upd_same, ho⟩, dps_same (new_same hz _) ?_⟩
      unfold cutV
      rw [lx]
      exact dps_take _ (dps_drop _ hxs)))
theorem mt_from31 {te : TE} {ds : List PyData} (h : MkT31 K H0 σ te ds) : MkT31 K H0 σ (tSl (rSlZ K) te (tPart (tC (.int 1))) tNoPart) (ds.drop 1) := by
  have := mt_cut31 (lo := some 1) (hi := none) (tl := tPart (tC (.int 1))) (th := tNoPart) h (fun H R r => ⟨1, rfl, r⟩) (fun H R r => r)
  have e1 : HT.sIx ds.length 0 (some 1) = min 1 ds.length := HT.sIx_nat ds.length 0 1
  rw [e1, HT.sIx_none] at this
  cases ds with
  | nil => exact this
  | cons d ds =>
    have e2 : min 1 (d :: ds).length = 1 := by rw [List.length_cons]; omega
    rw [e2, List.take_of_length_le (by rw [List.length_drop]; omega)] at this
    exact this
theorem mt_to31 {te : TE} {ds : List PyData} (h : MkT31 K H0 σ te ds) : MkT31 K H0 σ (tSl (rSlZ K) te tNoPart (tPart (tC (.int 1)))) (ds.take 1) := by
  have := mt_cut31 (lo := none) (hi := some 1) (tl := tNoPart) (th := tPart (tC (.int 1))) h (fun H R r => r) (fun H R r => ⟨1, rfl, r⟩)
  have e1 : HT.sIx ds.length ds.length (some 1) = min 1 ds.length := HT.sIx_nat ds.length ds.length 1
  rw [e1, HT.sIx_none, List.drop_zero, Nat.sub_zero] at this
  cases ds with
  | nil => exact this
  | cons d ds =>
    have e2 : min 1 (d :: ds).length = 1 := by rw [List.length_cons]; omega
    rw [e2] at this
    exact this
theorem mt_init31 {te : TE} {ds : List PyData} (h : MkT31 K H0 σ te ds) : MkT31 K H0 σ (tSl (rSlZ K) te tNoPart (tPart (tUn (rU fun i => .int (-i)) (tC (.int 1))))) ds.dropLast := by
  have := mt_cut31 (lo := none) (hi := some (-1)) (tl := tNoPart) (th := tPart (tUn (rU fun i => .int (-i)) (tC (.int 1)))) h (fun H R r => r) (fun H R r => ⟨1, rfl, -1, rfl, r⟩)
  have e1 : HT.sIx ds.length ds.length (some (-1)) = ds.length - 1 := by
    show (if (-1 : Int) < 0 then (-1 + (ds.length : Int)).toNat else min (-1 : Int).toNat ds.length) = ds.length - 1
    rw [if_pos (by decide)]
    omega
  rw [e1, HT.sIx_none, List.drop_zero, Nat.sub_zero, ← List.dropLast_eq_take] at this
  exact this
theorem mt_rev31 {te : TE} {ds : List PyData} (h : MkT31 K H0 σ te ds) : MkT31 K H0 σ (XR.tRevT K te) ds.reverse := fun H Q s k =>
  h H _ s fun v H1 s1 hv => by
    obtain ⟨q, xs, rfl, hq, hxs⟩ := hv
    refine ⟨q, xs, rfl, hq.sqT, fun z o hz ho => k _ _ (s1.trans (new_same hz _)) ⟨z, _, rfl, ⟨o, upd_same, ho⟩, dps_same (new_same hz _) ?_⟩⟩
    have rev : ∀ {xs : List V} {ds : List PyData}, DpAll K H1 xs ds → DpAll K H1 xs.reverse ds.reverse := fun {xs ds} h => by
      induction h using DpAll.rec (motive_1 := fun _ _ _ => True) with
      | nil => exact .nil
      | cons a r _ ih =>
        rw [List.reverse_cons, List.reverse_cons]
        exact dps_app ih (.cons a .nil)
      | _ => trivial
    exact rev hxs
end
end Q
set_option Elab.async false
set_option linter.all false
set_option maxRecDepth 100000
set_option maxHeartbeats 4000000
/-! ### k31: _law_bad_filling -/
namespace Q
open PySem L2 XD XR
theorem op_notInDK31 {X : Cx} (K : PySem.W.Frag) (h : X.K = K) (hu : X.A.units + 65 < cLine) : OpR X (compareOp .NotIn) (rNotInD K) := by
  subst h
  exact op_notInD hu
/-- no filling, in good order -/
def NF31 (K : PySem.W.Frag) (t : Tbl) (rs : List (List Pr)) (R : Hp) (v : V) : Prop := ∃ d, Dp K R v d ∧ FOk d ∧ noL24 d = true ∧ (areFacts t d = true → ∃ ds, d = .tuple ds ∧ TZ31 K R v ds) ∧ isFill t rs d = false
theorem NF31.same {K : PySem.W.Frag} {t : Tbl} {rs : List (List Pr)} {R R' : Hp} {v : V} (s : Same R R') (h : NF31 K t rs R v) : NF31 K t rs R' v := by
  obtain ⟨d, a, b, c, e, f⟩ := h
  exact ⟨d, dp_same s a, b, c, fun z => (by obtain ⟨ds, e1, e2⟩ := e z; exact ⟨ds, e1, e2.same s⟩), f⟩
theorem NF31.nl {K : PySem.W.Frag} {t : Tbl} {rs : List (List Pr)} {S : List Addr} {H : Hp} {v : V} (A : AllL31 S H) (h : NF31 K t rs H v) : NF31 K t rs (rmL S H) v := by
  obtain ⟨d, a, b, c, e, f⟩ := h
  refine ⟨d, dp_nl31 A a c, b, c, fun z => ?_, f⟩
  obtain ⟨ds, rfl, q, zs, e1, e2, e3⟩ := e z
  rw [noL24] at c
  exact ⟨ds, rfl, q, zs, e1, sqZ_nl31 A e2, dps_nl31 A e3 c⟩
theorem NF31.fc {K : PySem.W.Frag} {t : Tbl} {rs : List (List Pr)} {R : Hp} {v : V} (h : NF31 K t rs R v) : ∃ d, Fcs K R t v d ∧ isFill t rs d = false := by
  obtain ⟨d, a, b, c, e, f⟩ := h
  refine ⟨d, ⟨a, b, fun z => ?_⟩, f⟩
  obtain ⟨ds, rfl, q, zs, e1, e2, e3⟩ := e z
  exact ⟨q, zs, ds, e1, .inr e2, rfl, e3⟩
def MkF31 (K : PySem.W.Frag) (t : Tbl) (rs : List (List Pr)) (H0 : Hp) (σ : L2.St) (te : TE) : Prop := ∀ H (Q : VK), Same H0 H → (∀ v H', Same H H' → NF31 K t rs H' v → Q v H') → te σ H Q
def MkFs31 (K : PySem.W.Frag) (t : Tbl) (rs : List (List Pr)) (H0 : Hp) (σ : L2.St) (ta : TA) (n : Nat) : Prop := ∀ H (Q : List V → Hp → Prop), Same H0 H → (∀ ys H', Same H H' → (∀ y ∈ ys, NF31 K t rs H' y) → ys.length = n → Q ys H') → ta σ H Q
section
variable {K : PySem.W.Frag} {t : Tbl} {rs : List (List Pr)} {H0 : Hp} {σ : L2.St}
theorem mfs_nil31 : MkFs31 K t rs H0 σ tNil 0 := fun H Q s k => k [] H (Same.refl H) (fun _ h => absurd h List.not_mem_nil) rfl
theorem mfs_cons31 {te : TE} {ta : TA} {n : Nat} (h : MkF31 K t rs H0 σ te) (g : MkFs31 K t rs H0 σ ta n) : MkFs31 K t rs H0 σ (tCons te ta) (n + 1) := fun H Q s k =>
  h H _ s fun y H1 s1 hy => g H1 _ (s.trans s1) fun ys H2 s2 hys l => k (y :: ys) H2 (s1.trans s2) (fun z hz => (List.mem_cons.mp hz).elim (fun e => e ▸ hy.same s2) (hys z)) (by rw [List.length_cons, l])
/-- no row -/
theorem mf_no31 {te : TE} {d : PyData} (h : MkD K [] H0 σ te d) (n : rowOf d = none) (l : noL24 d = true) : MkF31 K t rs H0 σ te := fun H Q s k => h H _ s fun v H1 s1 hv => by
  rw [rm_nil] at hv
  have b := bf_norow31 (t := t) n
  exact k v H1 s1 ⟨d, hv, b.2, l, fun z => (by rw [b.1] at z; cases z), fill_nf31 b.1⟩
/-- pairs, but no filling -/
theorem mf_rule31 {bans : List (List Pr)} {te : TE} {l : List Pr} (G : Good t bans) (h : MkT31 K H0 σ te (l.map pD)) (n : l ∉ lawAll t bans) (hs : RStr l) : MkF31 K t (rsB31 t bans) H0 σ te := fun H Q s k => h H _ s fun v H1 s1 hv =>
  k v H1 s1 ⟨ruleD l, hv.dp, rule_fok31 hs, noL_rule31 l, fun _ => ⟨_, rfl, hv⟩, fill_no31 G (facts_ruleD31 l) n⟩
/-- pairs, and None -/
theorem mf_none31 {te : TE} {l : List Pr} (h : MkT31 K H0 σ te (l.map pD ++ [.none])) (hs : RStr l) : MkF31 K t rs H0 σ te := fun H Q s k => h H _ s fun v H1 s1 hv => by
  refine k v H1 s1 ⟨.tuple (l.map pD ++ [.none]), hv.dp, fok_of rfl fun f hf => ?_, ?_, fun z => (by rw [facts_noN31] at z; cases z), fill_nf31 facts_noN31⟩
  · rcases List.mem_append.mp hf with hf | hf
    · obtain ⟨e, he, rfl⟩ := List.mem_map.mp hf
      exact gs_two (str_shaped (hs e he).2)
    · rw [List.mem_singleton.mp hf]
      exact gs_none rfl
  · rw [noL24]
    have : ∀ l : List Pr, noLs24 (l.map pD ++ [.none]) = true := fun l => by
      induction l with
      | nil => rw [List.map_nil, List.nil_append, noLs24, noLs24, noL24] <;> rfl
      | cons e l ih => rw [List.map_cons, List.cons_append, noLs24, ih, noL24, noLs24, noLs24, noLs24, noL24, noL24] <;> rfl
    exact this l
end
theorem NF31.put {K : PySem.W.Frag} {t : Tbl} {rs : List (List Pr)} {H : Hp} {v : V} {D : Addr} {acc : List V} {o : HO} (h : NF31 K t rs H v) (hD : H D = some (.lst acc)) : NF31 K t rs (L2.upd H D o) v := by
  have g := h.nl (S := [D]) (fun x hx => .inl ⟨acc, by rw [List.mem_singleton.mp hx]; exact hD⟩)
  have e : rmL [D] (L2.upd H D o) = rmL [D] H := rm_put (List.mem_singleton.mpr rfl)
  rw [← e] at g
  exact g.same rm_le
theorem mt_eq31 {K : PySem.W.Frag} {H0 : Hp} {σ : L2.St} {te : TE} {ds es : List PyData} (h : MkT31 K H0 σ te ds) (e : ds = es) : MkT31 K H0 σ te es := e ▸ h
theorem mk_neg31 {K : PySem.W.Frag} {S : List Addr} {H0 : Hp} {σ : L2.St} (i : Int) : MkD K S H0 σ (tUn (rU fun i => .int (-i)) (tC (.int i))) (.int (-i)) := fun H Q s k => ⟨i, rfl, k _ H (Same.refl _) (.int _)⟩
theorem at_last31 {α : Type} {l : List α} {x : α} : atI (l ++ [x]) (-1) = some x := by
  have e : ixN (l ++ [x]).length (-1) = some l.length := by
    unfold ixN
    rw [List.length_append, List.length_singleton]
    simp
    omega
  show (ixN (l ++ [x]).length (-1)).bind _ = _
  rw [e]
  show (l ++ [x])[l.length]? = some x
  simp
theorem good_all31 {t : Tbl} {bans : List (List Pr)} (G : Good t bans) : Vals31 t ∧ t.length ≤ 900 ∧ TStr t ∧ waysFrom 1 t ≤ 1000 ∧ (∀ l ∈ bans, RStr l ∧ l.length ≤ 1000) ∧ bans.length ≤ 1000 := by
  have tk := G.tb
  have ts : TStr t := fun e he => ⟨word_ok (tk.nm.2 _ (List.mem_map.mpr ⟨e, he, rfl⟩)), fun w hw => word_ok ((tk.vs e he).1.2 w hw)⟩
  refine ⟨fun e he => ⟨(tk.vs e he).2.1, by have := (tk.vs e he).2.2; omega⟩, by have := tk.hi; omega, ts, G.ws, fun l hl => ⟨fun e he => ?_, by have := (G.bs l hl).hi; omega⟩, by have := G.ln; omega⟩
  obtain ⟨ws, h1, h2⟩ := (G.bs l hl).of e he
  exact ⟨(ts _ h1).1, (ts _ h1).2 _ h2⟩
theorem Bk31.book {K : PySem.W.Frag} {C : Addr} {R : Hp} {B x pf pr : Addr} {t : Tbl} {bans : List (List Pr)} (W : Bk31 K C R B x pf pr t bans) : Book31 K R B t bans := by
  obtain ⟨kvs, vp, vb, a, b, c, d, e, f⟩ := W.bk
  exact ⟨kvs, vp, vb, a, b, c, e, f⟩
theorem law_nil31 (t : Tbl) : lawAll t [] = chs t := List.filter_eq_self.mpr fun row _ => rfl
def kp31 : List Key := [.inr "parts", .inr "bans"]
theorem kp31_nd : kp31.Nodup := by decide +kernel
def spBf31 (K : PySem.W.Frag) (C : Addr) : Sp := fun vs H Q _ => ∃ (a b B x pf pr : Addr) (t : Tbl) (bans : List (List Pr)) (v : V) (row : List Pr), vs = [.ref a, .ref B, v] ∧ Fl31 b H a ∧ Bk31 K C (Bs31 a b H) B x pf pr t bans ∧ ZRow31 K (Bs31 a b H) v row ∧ row ∈ lawAll t bans ∧
  ∀ (y : V) (H' : Hp), NF31 K t (rsB31 t bans) (Bs31 a b H') y → Fl31 b H' a → Same (Bs31 a b H) (Bs31 a b H') → Q y H'
abbrev nBf31 : List Str := ["st", "book", "row", "odd", "rows", "free", "other"]
section
variable {P : Program} {w : World} {K : PySem.W.Frag} {mg : Str → Option Value} {base : Heap}
theorem scBf31 : FnScope nBf31 ["st", "book", "row"] (defScope sLBadFilling) := ⟨rfl, rfl, rfl, by decide +kernel, rfl, by decide +kernel, by decide +kernel⟩
theorem ok_badfill31 {f C : Addr} {fd : FuncData} (F : Fun K "_law_bad_filling" "_law_bad_filling" sLBadFilling f fd) (T : Be31 mg) (KO : Kn P w K mg base 3 "_law_one" ["st", "row"] (spOne31 K)) (KA : Kn P w K mg base 2 "_law_all" ["book"] (spAll31 K)) : FnOk P w K mg base CX0 4 f fd ["st", "book", "row"] (spBf31 K C) := by
  obtain ⟨fO, fdO, GO, kO, bO, mO⟩ := KO.ex
  obtain ⟨fA, fdA, GA, kA, bA, mA⟩ := KA.ex
  refine F.ok scBf31 (fun vs H Q E h => ?_) (fun cdv A outer s H vs Q E hr h => ?_)
  · obtain ⟨a, b, B, x, pf, pr, t, bans, v, row, rfl, _⟩ := h
    rfl
  have hr2 := hr.mono (show 2 ≤ 3 by decide)
  have hu1 : (A.deeper (PyProof.Rows.envOfC "_law_bad_filling" (defScope sLBadFilling) s.heap.objs.size f cdv)).units + 1 < cLine := by
    have := hr.un
    omega
  have hu2 : (A.deeper (PyProof.Rows.envOfC "_law_bad_filling" (defScope sLBadFilling) s.heap.objs.size f cdv)).units + 65 < cLine := by
    have := hr.un
    omega
  refine ⟨_, pss_cons (ps_set (i := 3) scBf31.nd rfl (.inl rfl) (pe_lst (pa_cons (pe_slice (sl_tupZ K rfl) (pv 2) (po_some pe_int) po_none) (pa_cons (pe_op (op_catZ K rfl) (pv 2) (pe_slice (sl_tupZ K rfl) (pv 2) po_none (po_some pe_int))) (pa_cons pe_non (pa_cons pe_str (pa_cons pe_int (pa_cons (pe_op (op_catZ K rfl) (pe_slice (sl_tupZ K rfl) (pv 2) po_none (po_some (pe_un un_neg pe_int))) (pe_tupZ (pa_cons (pe_tupZ (pa_cons (pe_ix (ix_both K rfl) (pe_ix (ix_both K rfl) (pv 2) (pe_un un_neg pe_int) (fun _ _ => rfl)) pe_int (fun _ _ => rfl)) (pa_cons pe_str pa_nil))) pa_nil))) (pa_cons (pe_op (op_catZ K rfl) (pe_slice (sl_tupZ K rfl) (pv 2) po_none (po_some (pe_un un_neg pe_int))) (pe_tupZ (pa_cons pe_non pa_nil))) pa_nil)))))))))
    (pss_cons (ps_if (pt_cmpR op_gt (pe_callB call_len_seq (by rfl) T.len PySem.boot_len (pa_cons (pv 2) pa_nil)) pe_int (nomark _)) (pss_one (ps_set (i := 3) scBf31.nd rfl (.inl rfl) (pe_op op_cat (pv 3) (pe_lst (pa_cons (pe_revTK K rfl (pv 2)) (pa_cons (pe_op (op_catZ K rfl) (pe_slice (sl_tupZ K rfl) (pv 2) (po_some pe_int) po_none) (pe_slice (sl_tupZ K rfl) (pv 2) po_none (po_some pe_int))) pa_nil)))))) pss_nil)
    (pss_cons (ps_set (i := 4) scBf31.nd rfl (.inr rfl) (pe_call GA hr2 (by rfl) mA kA bA .nil pass0 (pa_cons (pv 1) pa_nil)))
    (pss_cons (ps_set (i := 5) scBf31.nd rfl (.inl rfl) (pe_call GA hr2 (by rfl) mA kA bA .nil pass0 (pa_cons (pe_disp (pps_cons pe_str (pe_dget hu1 (pv 1) pe_str (fun _ _ => rfl)) (pps_cons pe_str (pe_tupZ pa_nil) pps_nil)) rfl rfl (by simp) (by decide)) pa_nil)))
    (pss_one (ps_ret (pe_call GO hr (by rfl) mO kO bO .nil pass0 (pa_cons (pv 0) (pa_cons (pe_op op_cat (pv 3) (pe_slice sl_list (pe_lc (own := [("other", 6)]) (g := gName 6) (by rfl) scBf31.nd (pi_row (pv 5)) (blkOk_by (N := nBf31) (sc := defScope sLBadFilling) (by decide +kernel)) (fun _ _ _ _ _ => (pg_name (i := 6) scBf31.nd rfl (.inl rfl))) (fun _ _ _ _ _ => (pts_one (pt_cmpR (op_notInDK31 K rfl hu2) (pv 6) (pv 4) (by with_unfolding_all rfl)))) (fun _ _ _ _ _ => (pv 6))) po_none (po_some pe_int))) pa_nil)))))))), ?_⟩
  obtain ⟨a, b, Bo, x, pf, pr, t, bans, v, row, rfl, Fl, W, hz, hrow, k⟩ := h
  try simp only [L2.start, gName, List.map_cons, List.map_nil, List.length_cons, List.length_nil, Nat.reduceAdd, Nat.reduceSub, List.replicate_succ, List.replicate_zero, List.cons_append, List.nil_append, List.set_cons_succ, List.set_cons_zero]
  have G := W.gd
  have tk := G.tb
  obtain ⟨vt, lt, ts, wt, hb, lb⟩ := good_all31 G
  have lr := law_len31 hrow
  have t4 := W.t4
  have t1 := tk.lo
  have rs := lawAll_str31 (bans := bans) ts row hrow
  have hz0 : TZ31 K H v (row.map pD) := hz.same rm_le
  obtain ⟨ini, la, erow⟩ : ∃ ini la, row = ini ++ [la] := by
    have ne : row ≠ [] := fun e => by
      rw [e] at lr
      rw [← lr] at t1
      cases t1
    exact ⟨row.dropLast, row.getLast ne, (List.dropLast_concat_getLast ne).symm⟩
  have ei : row.dropLast = ini := by rw [erow, List.dropLast_concat]
  have ris : RStr ini := fun e he => rs e (by rw [erow]; exact List.mem_append_left _ he)
  have rla := rs la (by rw [erow]; exact List.mem_append_right _ List.mem_cons_self)
  have sub_rs : ∀ {l : List Pr}, (∀ e ∈ l, e ∈ row) → RStr l := fun h e he => rs e (h e he)
  have mv : ∀ {σ : L2.St} {H1 : Hp}, Same H H1 → σ[2]? = some (some v) → MkT31 K H1 σ (tVar 2) (row.map pD) := fun s e => mt_var31 e (hz0.same s)
  refine asg_lst ?_
  refine (show MkFs31 K t (rsB31 t bans) H _ _ 7 from
    mfs_cons31 (mf_rule31 G (l := row.drop 1) (mt_eq31 (mt_from31 (mv (Same.refl H) rfl)) (by rw [List.map_drop])) (no_len31 (by rw [List.length_drop]; omega)) (sub_rs fun e he => List.mem_of_mem_drop he))
    (mfs_cons31 (mf_rule31 G (l := row ++ row.take 1) (mt_eq31 (mt_cat31 (mv (Same.refl H) rfl) (mt_to31 (mv (Same.refl H) rfl)) (by rw [List.length_take, List.length_map]; omega)) (by rw [List.map_append, List.map_take])) (no_len31 (by rw [List.length_append, List.length_take]; omega)) (sub_rs fun e he => (List.mem_append.mp he).elim id List.mem_of_mem_take))
    (mfs_cons31 (mf_no31 mk_non rfl rfl) (mfs_cons31 (mf_no31 (mk_str "ab") rfl rfl) (mfs_cons31 (mf_no31 (mk_int 5) rfl rfl)
    (mfs_cons31 (mf_rule31 G (l := ini ++ [((la.1, ("Q" : Str)) : Pr)]) (mt_eq31 (mt_cat31 (mt_init31 (mv (Same.refl H) rfl)) (mt_tup31 (ds := [pD (la.1, ("Q" : Str))]) (Nat.le_of_ble_eq_true rfl) (mkl_cons (mk_tup (fun x h => absurd h List.not_mem_nil) (by rfl) (mkl_cons (mk_at (mk_atI (mk_var (i := 2) (by rfl) (by rw [rm_nil]; exact hz0.dp)) (mk_neg31 1) rfl (d := .tuple (row.map pD)) (e := pD la) (by rw [erow, List.map_append]; exact at_last31)) rfl at0) (mkl_cons (mk_str "Q") mkl_nil))) mkl_nil)) (by rw [List.length_dropLast, List.length_map, List.length_singleton]; omega)) (by rw [← List.map_dropLast, ei, List.map_append] <;> rfl)) (no_Q31 G) (fun e he => (List.mem_append.mp he).elim (ris e) fun h => by rw [List.mem_singleton.mp h]; exact ⟨rla.1, by show PyData.strOk "Q" = true; decide +kernel⟩))
    (mfs_cons31 (mf_none31 (l := ini) (mt_eq31 (mt_cat31 (mt_init31 (mv (Same.refl H) rfl)) (mt_tup31 (ds := [.none]) (by decide) (mkl_cons mk_non mkl_nil)) (by rw [List.length_dropLast, List.length_map, List.length_singleton]; omega)) (by rw [← List.map_dropLast, ei])) ris) mfs_nil31))))))) H _ (Same.refl H) fun ys H1 s1 hys ly => ⟨Nat.le_of_lt (small1000 (by omega)), fun L hL => ?_⟩
  have s2 := s1.trans (new_same hL (.lst ys))
  have hL2 := upd_same (H := H1) (a := L) (o := .lst ys)
  have hys2 : ∀ y ∈ ys, NF31 K t (rsB31 t bans) (L2.upd H1 L (.lst ys)) y := fun y hy => (hys y hy).same (new_same hL _)
  generalize L2.upd H1 L (.lst ys) = H2 at s2 hL2 hys2
  clear hys s1 hL
  try simp only [gName, List.set_cons_succ, List.set_cons_zero]
  refine seq_cut (fun σ H' => ∃ (L : Addr) (ys : List V), σ = [some (.ref a), some (.ref Bo), some v, some (.ref L), none, none, none] ∧ H' L = some (.lst ys) ∧ (∀ y ∈ ys, NF31 K t (rsB31 t bans) H' y) ∧ 7 ≤ ys.length ∧ ys.length ≤ 9 ∧ Same H H') ?_ (fun join => ?_)
  · clear hys2 hL2 s2 ly
    rintro σ H3 ⟨L, ys, rfl, hL, hys, l7, l9, s3⟩
    have Bo3 := W.book.same (rm_le.trans s3)
    refine ⟨_, rfl, Bo, t, bans, rfl, Bo3, vt, lt, ts, wt, hb, lb, fun Lr us H4 s4 _ hLr pz => ?_⟩
    try simp only [gName, List.set_cons_succ, List.set_cons_zero]
    obtain ⟨kvs, vp, vb, hB1, hB2, hB3, hB4, dP, dB⟩ := W.bk
    have gP : ∀ H', Same H H' → DGet H' Bo (.str "parts") (some vp) := fun H' s => by
      rw [← hB2]
      exact DGet.k (k := .inr "parts") (s _ _ (rm_le _ _ hB1))
    have s04 := s3.trans s4
    refine fun Bd hBd => ?_
    have s5 := new_same hBd (.dK [])
    have g5 := upd_same (H := H4) (a := Bd) (o := .dK [])
    have hBd0 : H4 Bd = none := hBd
    generalize L2.upd H4 Bd (.dK []) = H5 at s5 g5
    refine ⟨_, rfl, Bo, vp, rfl, gP H5 (s04.trans s5), by show 0 ≤ sizeLine; decide, fun z oz hz' hoz => ⟨new_same hz' _ _ _ g5, kz kp31 [vp, .ref z], rfl, by show 2 ≤ 15; decide, ?_⟩⟩
    rw [kz_merge kp31_nd rfl]
    have s6 := s5.trans (new_same hz' (.frz oz (.tup [])))
    have hz6 := upd_same (H := H5) (a := z) (o := .frz oz (.tup []))
    generalize L2.upd H5 z (.frz oz (.tup [])) = H6 at s6 hz6
    have s46 : Same H4 (L2.upd H6 Bd (.dK (kz kp31 [vp, .ref z]))) := fun x o e => by
      rw [upd_ne (ne_of_none e hBd0)]
      exact s6 _ _ e
    have zB : z ≠ Bd := fun e => by
      rw [e, g5] at hz'
      cases hz'
    have hz7 : L2.upd H6 Bd (.dK (kz kp31 [vp, .ref z])) z = some (.frz oz (.tup [])) := by
      rw [upd_ne zB]
      exact hz6
    have bd7 : Book31 K (L2.upd H6 Bd (.dK (kz kp31 [vp, .ref z]))) Bd t [] := ⟨_, vp, .ref z, upd_same, kz_val (i := 0) kp31_nd rfl rfl, kz_val (i := 1) kp31_nd rfl rfl, dp_same (s04.trans s46) (dp_same rm_le dP), .tup (.inl (.inr ⟨oz, hz7⟩)) .nil⟩
    generalize L2.upd H6 Bd (.dK (kz kp31 [vp, .ref z])) = H7 at s46 bd7
    clear s6 hz6 s5 g5 hz' hz7
    refine ⟨Bd, t, [], rfl, bd7, vt, lt, ts, wt, (fun l h => absurd h List.not_mem_nil), Nat.zero_le _, fun Lf fs H8 s8 _ hLf pf => ?_⟩
    rw [law_nil31] at pf
    have s48 := s46.trans s8
    have s08 := s04.trans s48
    have lfs := prd_len pf
    have lch : (chs t).length ≤ 1000 := by
      have e : (chs t).length = waysFrom 1 t := chs_len t [[]]
      rw [e]
      exact wt
    have hLr8 := s48 _ _ hLr
    have pz8 : Paired (ZRow31 K H8) us (lawAll t bans) := prd_imp (fun _ _ h => h.same s48) pz
    have drows : DpAll K H8 us ((lawAll t bans).map ruleD) := by
      have : ∀ {us : List V} {rows : List (List Pr)}, Paired (ZRow31 K H8) us rows → DpAll K H8 us (rows.map ruleD) := fun {us rows} h => by
        induction h with
        | nil => exact .nil
        | cons a b ih => exact .cons a.dp ih
      exact this pz8
    have shr : SeqAt.shaped (.list ((lawAll t bans).map ruleD)) = true := rules_shaped (lawAll_str31 ts)
    try simp only [gName, List.set_cons_succ, List.set_cons_zero]
    refine ⟨_, rfl, _, rfl, ?_⟩
    refine lc_row (ys := fs) (fun D i H' => ∃ cs, H' D = some (.lst cs) ∧ cs.length ≤ i ∧ (∀ y ∈ cs, NF31 K t (rsB31 t bans) H' y) ∧ Same H8 H') (fun Q' z => ⟨_, rfl, z⟩) (.inl (SqL.of hLf)) (fun D hD => ⟨[], upd_same, Nat.le_refl _, fun y h => absurd h List.not_mem_nil, new_same hD _⟩) (fun D i H' _ hP => by obtain ⟨_, _, _, _, z⟩ := hP; exact z) (fun D i x H9 hD hi hP hx => ?_) (fun D H9 hD hP => ?_)
    · obtain ⟨cs, c1, c2, c3, s9⟩ := hP
      obtain ⟨r', hr', hxr⟩ := prd_at pf hx
      have hxr := hxr.same s9
      have rs' := chs_str ts r' (List.mem_of_getElem? hr')
      refine ⟨rfl, ?_⟩
      refine ⟨_, rfl, _, rfl, _, _, hxr.dp, .lst (SqL.of (s9 _ _ hLr8)) (dps_same s9 drows), rule_shaped rs', shr, _, rfl, ?_⟩
      rw [any_rows31]
      cases c : decide (r' ∈ lawAll t bans) with
      | true => exact iteF ⟨cs, c1, by omega, c3, s9⟩
      | false =>
        have nr : r' ∉ lawAll t bans := of_decide_eq_false c
        have nx : NF31 K t (rsB31 t bans) H9 x := ⟨ruleD r', hxr.dp, rule_fok31 rs', noL_rule31 r', fun _ => ⟨_, rfl, hxr⟩, fill_no31 G (facts_ruleD31 r') nr⟩
        refine iteT ⟨_, rfl, cs, c1, small1000 (by omega), cs ++ [x], upd_same, by rw [List.length_append, List.length_singleton]; omega, fun y hy => ?_, fun y u ey => ?_⟩
        · rcases List.mem_append.mp hy with hy | hy
          · exact (c3 y hy).put c1
          · rw [List.mem_singleton.mp hy]
            exact nx.put c1
        · rw [upd_ne (ne_of_none ey hD)]
          exact s9 _ _ ey
    · obtain ⟨cs, c1, c2, c3, s9⟩ := hP
      refine ⟨_, rfl, D, cs, rfl, SqL.of c1, fun p hp => ?_⟩
      have ec : cutV cs none (some 5) = cs.take 5 := cutV_to cs 5
      rw [ec]
      have s10 := s9.trans (new_same hp (.lst (cs.take 5)))
      have hL10 := (s4.trans (s48.trans s10)) _ _ hL
      have big : 1001 < sizeLine := by decide
      refine ⟨L, p, ys, cs.take 5, rfl, rfl, hL10, upd_same, by rw [List.length_take]; omega, fun p2 hp2 => ?_⟩
      have ncs : ∀ y ∈ cs.take 5, NF31 K t (rsB31 t bans) (L2.upd H9 p (.lst (cs.take 5))) y := fun y hy => (c3 y (List.mem_of_mem_take hy)).same (new_same hp _)
      generalize L2.upd H9 p (.lst (cs.take 5)) = H10 at s10 hp2 ncs
      have s11 := s10.trans (new_same hp2 (.lst (ys ++ cs.take 5)))
      have F11 : Fl31 b (L2.upd H10 p2 (.lst (ys ++ cs.take 5))) a := flo31.same (s08.trans s11) Fl
      have n2 : p2 ∉ [a, b] := flo31.out (flo31.same (s08.trans s10) Fl) hp2
      have row2 : Bs31 a b (L2.upd H10 p2 (.lst (ys ++ cs.take 5))) p2 = some (.lst (ys ++ cs.take 5)) := (rm_at n2).trans upd_same
      have nall : ∀ y ∈ ys ++ cs.take 5, NF31 K t (rsB31 t bans) (L2.upd H10 p2 (.lst (ys ++ cs.take 5))) y := fun y hy => by
        rcases List.mem_append.mp hy with hy | hy
        · exact (hys y hy).same (s4.trans (s48.trans s11))
        · exact (ncs y hy).same (new_same hp2 _)
      refine ⟨a, b, p2, _, rfl, F11, .inl (SqL.of row2), by rw [List.length_append]; omega, by rw [List.length_append, List.length_take]; omega, fun j y H12 hy F12 s12 => ?_⟩
      exact k y H12 (((nall y (List.mem_of_getElem? hy)).nl F11.all).same s12) F12 ((rm_same (s08.trans s11)).trans s12)
  · obtain ⟨q, zs, rfl, hq, hzs⟩ := hz0
    have lzs := dps_len hzs
    rw [List.length_map] at lzs
    refine ⟨_, rfl, q, zs, rfl, .inr (hq.same s2).sqT, _, _, rfl, rfl, _, rfl, iteB (fun e => ?_) (fun e => nxt (join _ _ ⟨L, ys, rfl, hL2, hys2, by omega, by omega, s2⟩))⟩
    have l2 : 1 < row.length := by
      have := of_decide_eq_true e
      omega
    refine ⟨_, rfl, ?_⟩
    refine (show MkFs31 K t (rsB31 t bans) H2 _ _ 2 from
      mfs_cons31 (mf_rule31 G (l := row.reverse) (mt_eq31 (mt_rev31 (mv s2 rfl)) (by rw [List.map_reverse])) (no_rev31 tk.nm.1 hrow l2) (sub_rs fun e he => List.mem_reverse.mp he))
      (mfs_cons31 (mf_rule31 G (l := row.drop 1 ++ row.take 1) (mt_eq31 (mt_cat31 (mt_from31 (mv s2 rfl)) (mt_to31 (mv s2 rfl)) (by rw [List.length_take, List.length_drop, List.length_map]; omega)) (by rw [List.map_append, List.map_drop, List.map_take])) (no_rot31 tk.nm.1 hrow l2) (sub_rs fun e he => (List.mem_append.mp he).elim List.mem_of_mem_drop List.mem_of_mem_take)) mfs_nil31)) H2 _ (Same.refl H2) fun ys2 H3 s3 hys3 ly3 => ⟨Nat.le_of_lt (small1000 (by omega)), fun p hp => ?_⟩
    have big : 1001 < sizeLine := by decide
    have s4 := s3.trans (new_same hp (.lst ys2))
    refine ⟨L, p, ys, ys2, rfl, rfl, s4 _ _ hL2, upd_same, by omega, fun p2 hp2 => ?_⟩
    have hys4 : ∀ y ∈ ys2, NF31 K t (rsB31 t bans) (L2.upd H3 p (.lst ys2)) y := fun y hy => (hys3 y hy).same (new_same hp _)
    generalize L2.upd H3 p (.lst ys2) = H4 at s4 hp2 hys4
    refine join _ _ ⟨p2, ys ++ ys2, rfl, upd_same, fun y hy => ?_, by rw [List.length_append]; omega, by rw [List.length_append]; omega, s2.trans (s4.trans (new_same hp2 _))⟩
    rcases List.mem_append.mp hy with hy | hy
    · exact (hys2 y hy).same (s4.trans (new_same hp2 _))
    · exact (hys4 y hy).same (new_same hp2 _)
end
end Q
set_option Elab.async false
set_option linter.all false
set_option maxRecDepth 100000
set_option maxHeartbeats 4000000
/-! repr(x), x a list or a tuple of data, in a def that runs where no repr is under way: such a def's promise (FnG) asks that of the one who calls. -/
namespace XG
open PySem PySem.Spec PyProof.Rows L2
/-- nothing is being shown -/
abbrev Bare (A : Around) : Prop := A.guards = some []
/-- a promise for callers of which nothing is being shown -/
structure FnG (P : Program) (w : World) (K : PySem.W.Frag) (mg : Str → Option Value) (base : Heap) (CX : CXT) (k : Nat) (f : Addr) (fd : FuncData) (ps : List Str) (sp : Sp) : Prop where
  len : ∀ xs H Q E, sp xs H Q E → xs.length = ps.length
  run : ∀ (A : Around) (fr : List Env) (s : Shared) (H : Hp) (ar : Args) (us : List Value) (xs : List V) (Q : VK) (E : XK), Bare A → Room k A → Env0 P w K mg base A fr s H → BindsTo s fd ar (ps.zip us) → Vals xs us → sp xs H Q E →
    codeAny (model P w) A (.call (.ref f) ar) (CR CX fr P w H s Q E) s
theorem FnG.of {P : Program} {w : World} {K : PySem.W.Frag} {mg : Str → Option Value} {base : Heap} {k : Nat} {x qual : Str} {st : Stmt} {f : Addr} {fd : FuncData} {N ps : List Str} {sp : Sp} (F : Fun K x qual st f fd) (S : FnScope N ps (defScope st)) (len : ∀ xs H Q E, sp xs H Q E → xs.length = ps.length)
    (body : ∀ (cdv : Value) (A : Around) (fr : List Env) (s : Shared) (H : Hp) (xs : List V) (Q : VK) (E : XK), Bare (A.deeper (PyProof.Rows.envOfC qual (defScope st) s.heap.objs.size f cdv)) → Room k (A.deeper (PyProof.Rows.envOfC qual (defScope st) s.heap.objs.size f cdv)) → sp xs H Q E →
      ∃ t, PSs (cxOf CX0 P w K mg base N qual (defScope st) f cdv A fr s H E).nox (defBody st) t ∧ t { nx := fun _ H' => Q .non H', rt := Q } (L2.start N xs) H) : FnG P w K mg base CX0 (k + 1) f fd ps sp := by
  obtain ⟨oc, od, kV, doc, pm, an, cdv, ct, osl, rfl, lk, code⟩ := F.ex
  constructor
  · exact len
  intro A fr s H ar us xs Q E bare room e0 bind vals good
  have many := len _ _ _ _ good
  have inK : K.In s.heap := e0.mod.kin.keeps fun b o z => (e0.bs b o z).1
  have nolim : s.heap.NoLimit := e0.mod.nolimit.keeps fun b o z => (e0.bs b o z).1
  have kinds : ∀ y ∈ ps.zip us, (defScope st).names.lookup y.1 = some .local ∨ ((defScope st).names.lookup y.1 = some .cell ∧ ((cellsFrom (s.heap.objs.size + 1) (defScope st).names []).lookup y.1).isSome = true) := by
    rintro ⟨n, v⟩ hy
    exact (S.par n (List.of_mem_zip hy).1).imp id fun q => ⟨q, PySem.W.cellsFrom_some _ _ _ (.inl q)⟩
  refine codeAny_call_function room.depth (inK _ _ lk) rfl S.co S.gen rfl (PySem.W.codeRec_of inK code) (bind _ _ _ _ (wpAny_newFunctionEnv_cells S.kind kinds fun env he s1 new => ?_))
  subst he
  refine ⟨nolim.keeps new.toInCall.keep, codeAny_func ?_⟩
  obtain ⟨t, ht, hq⟩ := body cdv A fr s H xs Q E bare (room.deeper _) good
  have I : Inv (cxOf CX0 P w K mg base N qual (defScope st) f cdv A fr s H E) [] (L2.start N xs) H s1 := inv_start S room.hd e0 many vals new
  refine wpAny_mono (ht.nox.run [] s1 (L2.start N xs) H _ I hq) (fun fl z hz => ?_) fun _ _ hz => hz
  match fl, hz with
  | .ret u, ⟨v, σ', H', J, rv, q⟩ => exact ⟨v, H', J.os, J.bare, J.base, J.hok, rv, q⟩
  | .next, ⟨σ', H', J, q⟩ => exact ⟨.non, H', J.os, J.bare, J.base, J.hok, rfl, q⟩
  | .brk, ⟨_, _, _, q⟩ => exact q.elim
  | .cont, ⟨_, _, _, q⟩ => exact q.elim
section
variable {X : Cx} {CX : CXT} {k : Nat} {f : Addr} {fd : FuncData} {ps : List Str} {sp : Sp} {E : XK} {x : Str} {q pos : Pos} {e : Expr} {es : List Expr} {t : TA}
theorem pe_callG (F : FnG X.prog X.w X.K X.mg X.base CX k f fd ps sp) (bare : Bare X.A) (room : Room k X.A) (hg : Gl X x) (hm : X.mg x = some (.ref f)) (kp : PySem.W.keepIn X.K (.ref f) = true) (hb : Binds X.K fd ps []) (hx : Passes CX X E)
    (ha : PA X (e :: es) t) (hdb : (x == ("__debug__" : Str)) = false := by decide) (he : starEach (e :: es) X.env = (false, eval e X.env) :: starEach es X.env := by rfl) (hpl : (backTo pos (starEach es X.env)).any (·.1) = false := by rfl) :
    PE X (.Call (.Name x q) (e :: es) [] pos) (tCall sp [] E t) := by
  refine ⟨fun pins s σ H Q I h => wpAny_Call_Name_kw (ld_glob I hg hm (PySem.W.callWith_K (h₀ := X.base) I.ok.mod.kin kp (thn (ha.run pos pins s σ H _ I h) fun us s1 ⟨xs, H1, J, r, good⟩ => ⟨J.kIn, ?_⟩) he hpl) hdb)⟩
  have good : sp (xs ++ []) H1 Q E := good
  rw [List.append_nil] at good
  have many : us.length = ps.length := r.length.symm.trans (F.len _ _ _ _ good)
  have bind := hb s1 us J.kIn (by rw [List.append_nil]; exact many)
  rw [List.append_nil] at bind
  refine wpAny_call (codeAny_mono (F.run X.A X.stack s1 H1 ⟨us, []⟩ us xs Q E bare room J.env0 bind r good) fun r z hz => ?_)
  match r, hz with
  | .error _, hz => exact hx pins σ H1 s1 _ z J hz
  | .ok (.ret _), hz => exact J.after hz
  | .ok .next, hz => exact hz.elim
  | .ok .brk, hz => exact hz.elim
  | .ok .cont, hz => exact hz.elim
/-- repr(x) -/
theorem call_repr (bare : Bare X.A) (hu : X.A.units + 65 < cLine) (K : PySem.W.Frag) (eK : X.K = K) : CallR X (.builtin "repr") (fun xs H Q => ∃ (p : Addr) (d : PyData), xs = [.ref p] ∧ Dp K H (.ref p) d ∧ d.showable = true ∧ d.hasDict = false ∧ d.depth ≤ 63 ∧ d.shown.length ≤ sizeLine ∧ Q (.str d.shown) H) := by
  subst eK
  rintro pins s σ H xs us Q I r ⟨p, d, rfl, hd, sh, nd, dp, sz, good⟩
  obtain ⟨u, rfl, ru⟩ := vals1 r
  cases ru
  obtain ⟨as, rd⟩ := Dp.reads I d (.ref p) (.ref p) hd rfl
  exact repr_of_reads' rd sh (PyData.noDict_hsm nd) bare (by omega) (fun _ _ z => z) (fun h' u tk hk => ⟨.str d.shown, H, I.kept hk, ⟨u, rfl⟩, good⟩) sz
end
/-! the head -/
theorem vals_script : ∀ {us : List Value} {ns : List Int}, IntsAre us ns → Vals (ns.map V.int) us
  | _, _, .nil => .nil
  | _, _, .cons n t r => .cons ⟨t, rfl⟩ (vals_script r)
/-- what the script's list is -/
abbrev scriptO (us : List Value) : Obj := { cls := .type "list", data := .seq us.toArray }
/-- an abstract heap to begin with: nothing in it but the script, and that only where the module does not know it -/
theorem first_heap {P : Program} {w : World} {K : PySem.W.Frag} {s : Shared} {a : Addr} {us : List Value} {ns : List Int} (inK : K.In s.heap) (ha : s.heap.get? a = some (scriptO us)) (hi : IntsAre us ns) (hl : ns.length ≤ sizeLine) :
    ∃ H : Hp, Only H ∧ SqL K H a (ns.map V.int) ∧ HOk P w H s.heap ∧ ∀ b, H b ≠ none → b = a ∧ K.lookup b = none := by
  have rv := vals_script hi
  have many := hi.length
  cases hk : K.lookup a with
  | some o =>
    have z := inK a o hk
    rw [ha] at z
    cases z
    have big : us.toArray.size ≤ sizeLine := by
      rw [List.size_toArray]
      omega
    refine ⟨fun _ => none, fun _ => .inl rfl, .inr ⟨_, us.toArray, _, hk, rfl, rfl, rfl, big, ?_⟩, ?_, fun b z => absurd rfl z⟩
    · simpa using rv
    · intro b u z
      cases (show (none : Option HO) = some u from z)
  | none =>
    let H : Hp := fun b => if b = a then some (.frz (scriptO us) (.lst (ns.map V.int))) else none
    have Ha : H a = some (.frz (scriptO us) (.lst (ns.map V.int))) := if_pos rfl
    have Hn : ∀ b, b ≠ a → H b = none := fun b z => if_neg z
    refine ⟨H, fun b => ?_, .inl (.inr ⟨_, Ha⟩), fun b u z => ?_, fun b z => ?_⟩
    · by_cases ba : b = a
      · subst ba
        exact .inr ⟨_, _, Ha⟩
      · exact .inl (Hn b ba)
    · by_cases ba : b = a
      · subst ba
        rw [Ha] at z
        cases z
        refine ⟨ha, ?_, us, _, rv, ha⟩
        rw [List.length_map]
        exact hl
      · rw [Hn b ba] at z
        cases z
    · by_cases ba : b = a
      · rw [ba]
        exact ⟨rfl, hk⟩
      · exact absurd (Hn b ba) z
/-- the law is called -/
theorem law_callG {P : Program} {w : World} {K : PySem.W.Frag} {mg mb : Str → Option Value} {k : Nat} {fa a : Addr} {fd : FuncData} {x : Str} {sp : Sp} {s : Shared} {us : List Value} {ns : List Int}
    (inK : K.In s.heap) (glob : s.heap.Ns mainGlobals mg) (blt : s.heap.Ns builtinsNs mb) (bltIs : ∀ x : Str, x ≠ "__name__" → mb x = bootBuiltins x) (lim : s.heap.NoLimit) (gens : s.gens = #[])
    (ha : s.heap.get? a = some (scriptO us)) (hi : IntsAre us ns) (hl : ns.length ≤ sizeLine) (room : Room k callerA)
    (F : ∀ base : Heap, K.In base → base.Ns mainGlobals mg → FnG P w K mg base CX0 k fa fd [x] sp) (bind : ∀ (s : Shared) (u : Value), BindsTo s fd ⟨[u], []⟩ [(x, u)])
    (good : ∀ H : Hp, Only H → SqL K H a (ns.map V.int) → sp [.ref a] H (fun v _ => v = .bl true) fun _ _ _ => False) :
    codeAny (model P w) callerA (.call (.ref fa) ⟨[.ref a], []⟩) (fun r z => r = .ok (.ret (.bool true)) ∧ OldK s.heap z.heap ∧ z.os = s.os ∧ AllBare z.gens) s := by
  obtain ⟨H, only, seq, ok, alone⟩ := first_heap (P := P) (w := w) inK ha hi hl
  have stays : ∀ {b : Addr} {m : Str → Option Value}, s.heap.Ns b m → (hidT s.heap H).Ns b m := by
    rintro b m ⟨o, es, ep, e, d, r⟩
    have free : H b = none := by
      cases z : H b with
      | none => rfl
      | some u =>
        have ba := (alone b (by rw [z]; exact fun y => by cases y)).1
        rw [ba, ha] at e
        cases e
        cases (show Data.seq us.toArray _ = Data.dict es ep from d)
    exact ⟨o, es, ep, hidT_get e free, d, r⟩
  have inB : K.In (hidT s.heap H) := by
    intro b o e
    refine hidT_get (inK b o e) ?_
    cases z : H b with
    | none => rfl
    | some u =>
      have bk := (alone b (by rw [z]; exact fun y => by cases y)).2
      rw [bk] at e
      cases e
  obtain ⟨mc, c1, c2⟩ := lim
  have mod : Mod K mg (hidT s.heap H) := ⟨inB, stays glob, ⟨mb, stays blt, bltIs⟩, ⟨mc, stays c1, c2⟩⟩
  have env : Env0 P w K mg (hidT s.heap H) callerA [] s H := by
    refine ⟨rfl, mod, fun b o e => of_hidT e, Nat.le_of_eq (hidT_size _ _), trivial, fun b hb => ?_, ok, .of_eq gens⟩
    exact absurd (show b ∈ ([] : List Addr) from hb) List.not_mem_nil
  refine codeAny_mono ((F _ inB (stays glob)).run callerA [] s H ⟨[.ref a], []⟩ [.ref a] [.ref a] _ _ rfl room env (bind s (.ref a)) (.cons rfl .nil) (good H only seq)) ?_
  rintro r z hz
  match r, hz with
  | .error _, hz => exact False.elim hz
  | .ok .next, hz => exact False.elim hz
  | .ok .brk, hz => exact False.elim hz
  | .ok .cont, hz => exact False.elim hz
  | .ok (.ret u), ⟨v, H', os, bare, un, ok', ru, q⟩ =>
    have q : v = .bl true := q
    subst q
    cases (show u = Value.bool true from ru)
    refine ⟨rfl, OldK.of_keep ?_, os, bare⟩
    intro b o e
    rcases only b with z | ⟨ob, xs, z⟩
    · exact un.keep b o e z (fun y => absurd (show b ∈ ([] : List Addr) from y) List.not_mem_nil) List.not_mem_nil
    · have g1 := (ok b _ z).1
      rw [e] at g1
      cases g1
      exact (ok' b _ (un.frzs b _ _ z)).1
/-- the whole, for a law that asks what is being shown -/
theorem walk_ofG {l : PySem.W.OpenLaw} {n k : Nat} {q : Program} {loose : List Str} {XP : (Str → Option Value) → Heap → Prop} {YP : World → Heap → Prop} {d : DefRec} {K : Params → PySem.W.Frag} {sp : World → Sp} {x : Str}
    (most : l.most = some n) (few : n ≤ sizeLine) (dfl : d.params.defaults = []) (room : Room k callerA) (hY : ∀ (w : World) (h : Heap), YP w h → (K w.params).In h)
    (F : ∀ (w : World) (mg : Str → Option Value) (fa : Addr) (h : Heap), (K w.params).In h → h.Ns mainGlobals mg → mg d.name = some (.ref fa) → ∃ fd : FuncData, (∀ (s : Shared) (u : Value), BindsTo s fd ⟨[u], []⟩ [(x, u)]) ∧
      ∀ base : Heap, (K w.params).In base → base.Ns mainGlobals mg → FnG l.prog w (K w.params) mg base CX0 k fa fd [x] (sp w))
    (good : ∀ (w : World) (H : Hp) (a : Addr) (ns : List Int), ns.length ≤ n → Only H → SqL (K w.params) H a (ns.map V.int) → sp w [.ref a] H (fun v _ => v = .bl true) fun _ _ _ => False) :
    PySem.W.WalkO q loose XP YP l.row.toRowW d [] (fun f vs => PySem.call f vs) := by
  refine Att.attach_call most dfl ?_
  intro w s₀ s₁ mg mb fa o pm cd doc a us ns G Y ho hd hcd hmg hobj hints hlen gens
  obtain ⟨fd, bind, all⟩ := F w mg fa _ (hY w _ Y) G.T.g hmg
  exact law_callG (hY w _ Y) G.T.g G.T.b G.T.builtins G.T.nolimit gens hobj hints (Nat.le_trans hlen few) room all bind fun H only seq => good w H a ns hlen only seq
end XG
set_option Elab.async false
set_option linter.all false
set_option maxRecDepth 100000
set_option maxHeartbeats 4000000
/-! ### k31: what is shown; what is handed in -/
namespace Q
open PySem PySem.Spec L2 XD PyProof.Rows
/-- repr(x), x any data -/
theorem call_reprD31 {X : Cx} (bare : XG.Bare X.A) (hu : X.A.units + 65 < cLine) (K : PySem.W.Frag) (eK : X.K = K) : CallR X (.builtin "repr") (fun xs H Q => ∃ (v : V) (d : PyData), xs = [v] ∧ Dp K H v d ∧ d.showable = true ∧ d.hasDict = false ∧ d.depth ≤ 63 ∧ d.shown.length ≤ sizeLine ∧ Q (.str d.shown) H) := by
  subst eK
  rintro pins s σ H xs us Q I r ⟨v, d, rfl, hd, sh, nd, dp, sz, good⟩
  obtain ⟨u, rfl, ru⟩ := vals1 r
  have refs : ∀ p : Addr, v = .ref p → wpAny (model X.prog X.w) X.A (call (.builtin "repr") [u]) (EP X pins σ Q) X.xe s := fun p e => by
    subst e
    cases ru
    obtain ⟨as, rd⟩ := Dp.reads I d (.ref p) (.ref p) hd rfl
    exact repr_of_reads' rd sh (PyData.noDict_hsm nd) bare (by omega) (fun _ _ z => z) (fun h' u tk hk => ⟨.str d.shown, H, I.kept hk, ⟨u, rfl⟩, good⟩) sz
  cases hd with
  | non =>
    cases ru
    exact PySem.P.repr_of_none ⟨.str _, H, I.tok _, ⟨_, rfl⟩, good⟩
  | bl b =>
    cases ru
    cases b
    · exact PySem.P.repr_of_bool ⟨.str _, H, I.tok _, ⟨_, rfl⟩, good⟩
    · exact PySem.P.repr_of_bool ⟨.str _, H, I.tok _, ⟨_, rfl⟩, good⟩
  | int i =>
    obtain ⟨t, rfl⟩ := ru
    exact PySem.P.repr_of_int (of_decide_eq_true sh) ⟨.str _, H, I.tok _, ⟨_, rfl⟩, good⟩
  | str x =>
    obtain ⟨t, rfl⟩ := ru
    exact PySem.P.repr_of_str ⟨.str _, H, I.tok _, ⟨_, rfl⟩, good⟩ sz
  | lst q r => exact refs _ rfl
  | tup q r => exact refs _ rfl
abbrev rRepr31 (K : PySem.W.Frag) : List V → Hp → VK → Prop := fun xs H Q => ∃ (v : V) (d : PyData), xs = [v] ∧ Dp K H v d ∧ d.showable = true ∧ d.hasDict = false ∧ d.depth ≤ 63 ∧ d.shown.length ≤ sizeLine ∧ Q (.str d.shown) H
structure Sh31 (n b : Nat) (d : PyData) : Prop where
  sw : d.showable = true
  nd : d.hasDict = false
  dp : d.depth ≤ n
  lv : d.leavesShort 8 = true
  bk : d.bulk ≤ b
theorem Sh31.up {n m b c : Nat} {d : PyData} (h : Sh31 n b d) (e : n ≤ m) (f : b ≤ c) : Sh31 m c d := ⟨h.sw, h.nd, Nat.le_trans h.dp e, h.lv, Nat.le_trans h.bk f⟩
theorem Sh31.fin {n b : Nat} {d : PyData} (h : Sh31 n b d) (e : n ≤ 63) (f : b ≤ 1000000) : d.showable = true ∧ d.hasDict = false ∧ d.depth ≤ 63 ∧ d.shown.length ≤ sizeLine :=
  ⟨h.sw, h.nd, Nat.le_trans h.dp e, PyData.shown_fits_bulk (B := 8) (by decide) (by decide) h.lv (Nat.le_trans h.bk (Nat.le_trans f (by decide)))⟩
theorem sh_non31 : Sh31 0 0 .none := ⟨rfl, rfl, by simp [PyData.depth], by simp [PyData.leavesShort], by simp [PyData.bulk]⟩
theorem sh_w31 {x : Str} (h : word x = true) : Sh31 0 8 (.str x) := ⟨rfl, rfl, by simp [PyData.depth], by
  simp only [PyData.leavesShort]
  refine List.all_eq_true.mpr fun c hc => decide_eq_true ?_
  exact Nat.lt_trans (az_small (List.all_eq_true.mp (word_iff.mp h).2.2 c hc)) (by decide), by
  have := word_len h
  rw [PyData.bulk]
  exact this⟩
theorem sh_one31 : Sh31 0 0 (.int 1) := ⟨by decide +kernel, rfl, by simp [PyData.depth], by decide +kernel, by simp [PyData.bulk]⟩
theorem sh_two31 : Sh31 0 0 (.int 2) := ⟨by decide +kernel, rfl, by simp [PyData.depth], by decide +kernel, by simp [PyData.bulk]⟩
theorem sh_all31 {n b : Nat} : ∀ {ds : List PyData}, (∀ d ∈ ds, Sh31 n b d) → PyData.showableAll ds = true ∧ PyData.hasDictAll ds = false ∧ PyData.depthAll ds ≤ n ∧ PyData.leavesShortAll 8 ds = true ∧ PyData.bulkAll ds ≤ (b + 1) * ds.length
  | [], _ => by simp [PyData.showableAll, PyData.hasDictAll, PyData.depthAll, PyData.leavesShortAll, PyData.bulkAll]
  | d :: ds, h => by
    obtain ⟨i1, i2, i3, i4, i5⟩ := sh_all31 fun x hx => h x (List.mem_cons_of_mem _ hx)
    have g := h d List.mem_cons_self
    have g3 := g.dp
    have g5 := g.bk
    rw [PyData.showableAll, PyData.hasDictAll, PyData.depthAll, PyData.leavesShortAll, PyData.bulkAll, List.length_cons, g.sw, g.nd, g.lv, i1, i2, i4, Nat.mul_succ]
    refine ⟨rfl, rfl, ?_, rfl, ?_⟩ <;> omega
theorem sh_tup31 {n b : Nat} {ds : List PyData} (h : ∀ d ∈ ds, Sh31 n b d) : Sh31 (n + 1) ((b + 1) * ds.length) (.tuple ds) := by
  obtain ⟨a1, a2, a3, a4, a5⟩ := sh_all31 h
  exact ⟨by rw [PyData.showable]; exact a1, by rw [PyData.hasDict]; exact a2, by rw [PyData.depth]; omega, by rw [PyData.leavesShort]; exact a4, by rw [PyData.bulk]; exact a5⟩
theorem sh_strs31 {ws : List Str} (h : ∀ w ∈ ws, word w = true) : Sh31 1 (9 * ws.length) (.tuple (ws.map PyData.str)) := by
  have := sh_tup31 (n := 0) (b := 8) (ds := ws.map PyData.str) fun d hd => by
    obtain ⟨w, hw, rfl⟩ := List.mem_map.mp hd
    exact sh_w31 (h w hw)
  rw [List.length_map] at this
  exact this
theorem sh_pair31 {n b : Nat} {x y : PyData} (h : Sh31 n b x) (g : Sh31 n b y) : Sh31 (n + 1) ((b + 1) * 2) (.tuple [x, y]) := sh_tup31 fun d hd => by
  rcases List.mem_cons.mp hd with rfl | hd
  · exact h
  · rw [List.mem_singleton.mp hd]
    exact g
theorem word_none31 : word "none" = true := by decide +kernel
theorem word_told31 : word "told" = true := by decide +kernel
theorem word_value31 : word "value" = true := by decide +kernel
theorem sh_told31 {d : PyData} (h : Sh31 0 8 d) : Sh31 1 18 (toldD d) := sh_pair31 (sh_w31 word_told31) h
theorem sh_val31 {i : Int} (h : i = 1 ∨ i = 2) : Sh31 1 18 (valD i) := sh_pair31 (sh_w31 word_value31) (by
  rcases h with rfl | rfl
  · exact sh_one31.up (Nat.le_refl _) (by decide)
  · exact sh_two31.up (Nat.le_refl _) (by decide))
theorem sh_rule31 {l : List Pr} (h : ∀ e ∈ l, word e.1 = true ∧ word e.2 = true) : Sh31 2 (19 * l.length) (ruleD l) := by
  have := sh_tup31 (n := 1) (b := 18) (ds := l.map pD) fun d hd => by
    obtain ⟨e, he, rfl⟩ := List.mem_map.mp hd
    exact sh_pair31 (sh_w31 (h e he).1) (sh_w31 (h e he).2)
  rw [List.length_map] at this
  exact this
section
variable {t : Tbl} {bans : List (List Pr)}
theorem sh_tab31 (tk : TabOk t) : Sh31 3 600 (tabD t) := by
  have h6 := tk.hi
  have := sh_tup31 (n := 2) (b := 92) (ds := t.map entryD) fun d hd => by
    obtain ⟨e, he, rfl⟩ := List.mem_map.mp hd
    have h5 := (tk.vs e he).2.2
    exact (sh_pair31 (n := 1) (b := 45) ((sh_w31 (tk.nm.2 _ (List.mem_map.mpr ⟨e, he, rfl⟩))).up (by decide) (by decide)) ((sh_strs31 (tk.vs e he).1.2).up (by decide) (by omega))).up (Nat.le_refl _) (by decide)
  rw [List.length_map] at this
  exact this.up (Nat.le_refl _) (by omega)
theorem outs_w31 (tk : TabOk t) {m : Nat} {os : List Out} (h : Outs31 t m os) : ∀ o ∈ os, (∀ e ∈ o.1, word e.1 = true ∧ word e.2 = true) ∧ o.1.length ≤ 6 ∧ word o.2 = true := fun o ho => by
  obtain ⟨h1, h2, h3, h4⟩ := h.ok o ho
  have := tk.hi
  refine ⟨fun e he => ?_, by omega, h4⟩
  obtain ⟨ws, g1, g2⟩ := h3 e he
  exact ⟨tk.nm.2 _ (List.mem_map.mpr ⟨_, g1, rfl⟩), (tk.vs _ g1).1.2 _ g2⟩
theorem sh_outs31 (tk : TabOk t) {m : Nat} {os : List Out} (h : Outs31 t m os) (hm : m ≤ 20) : Sh31 4 5000 (outsD os) := by
  have hl := h.ln
  have := sh_tup31 (n := 3) (b := 230) (ds := os.map outD) fun d hd => by
    obtain ⟨o, ho, rfl⟩ := List.mem_map.mp hd
    obtain ⟨g1, g2, g3⟩ := outs_w31 tk h o ho
    exact (sh_pair31 (n := 2) (b := 114) ((sh_rule31 g1).up (Nat.le_refl _) (by omega)) ((sh_w31 g3).up (by decide) (by decide))).up (Nat.le_refl _) (by decide)
  rw [List.length_map] at this
  refine this.up (Nat.le_refl _) ?_
  omega
theorem sh_kept31 (tk : TabOk t) {m : Nat} {os : List Out} (h : Outs31 t m os) (hm : m ≤ 20) : Sh31 5 11000 (.tuple [tabD t, outsD os]) := (sh_pair31 (n := 4) (b := 5000) ((sh_tab31 tk).up (by decide) (by decide)) (sh_outs31 tk h hm)).up (Nat.le_refl _) (by decide)
/-! outcomes that are handed in, in any form -/
theorem outs_good31 (tk : TabOk t) {m : Nat} {os : List Out} (h : Outs31 t m os) (hm : m ≤ 20) {d : PyData} (e : tupled24 d = outsD os) : isOuts t d = true ∧ outsOf d = os ∧ OOk d ∧ ∀ ds, rowOf d = some ds → ds.length ≤ 100000 := by
  obtain ⟨ps, ep, hps⟩ := row_of31 e
  have lp : ps.length = os.length := by
    have := congrArg List.length hps
    rwa [List.length_map, List.length_map] at this
  have ln := h.ln
  have one : ∀ (p : PyData) (o : Out), o ∈ os → tupled24 p = outD o → isOut t p = true ∧ outOf p = o ∧ ∀ a b, pairOf p = some (a, b) → FOk a ∧ Short b := fun p o ho hp => by
    obtain ⟨x, y, h1, h2, h3⟩ := two_of31 hp
    have hy := str_of31 h3
    subst hy
    obtain ⟨k1, k2, k3, k4⟩ := h.ok o ho
    have N : Known t o.1 := ⟨k1, k2, k3⟩
    obtain ⟨f1, f2, f3⟩ := known_facts tk N (frule31 h2)
    refine ⟨?_, ?_, fun a b eb => ?_⟩
    · unfold isOut
      rw [h1]
      show (areFacts t x && word o.2) = true
      rw [f1, k4] <;> rfl
    · unfold outOf
      rw [h1]
      show (factsOf x, o.2) = o
      rw [f2]
    · rw [h1] at eb
      cases eb
      exact ⟨f3, Nat.le_trans (word_len k4) (by decide)⟩
  have all : ∀ {ps : List PyData} {ls : List Out}, (∀ o ∈ ls, o ∈ os) → ps.map tupled24 = ls.map outD → (∀ p ∈ ps, isOut t p = true ∧ ∀ a b, pairOf p = some (a, b) → FOk a ∧ Short b) ∧ ps.map outOf = ls := fun {ps ls} => by
    induction ps generalizing ls with
    | nil =>
      intro _ hm
      cases ls with
      | nil => exact ⟨fun p hp => absurd hp List.not_mem_nil, rfl⟩
      | cons _ _ => cases hm
    | cons p ps ih =>
      intro hs hm
      cases ls with
      | nil => cases hm
      | cons o ls =>
        obtain ⟨m1, m2⟩ := List.cons.inj hm
        obtain ⟨a1, a2, a3⟩ := one p o (hs o List.mem_cons_self) m1
        obtain ⟨i1, i2⟩ := ih (fun o ho => hs o (List.mem_cons_of_mem _ ho)) m2
        refine ⟨fun q hq => ?_, by rw [List.map_cons, a2, i2]⟩
        rcases List.mem_cons.mp hq with rfl | hq
        · exact ⟨a1, a3⟩
        · exact i1 q hq
  obtain ⟨b1, b2⟩ := all (fun o ho => ho) hps
  refine ⟨?_, ?_, fun qs eq_ p hp => ?_, fun qs eq_ => ?_⟩
  · unfold isOuts
    rw [ep]
    show (decide (ps.length ≤ 30) && ps.all (isOut t)) = true
    rw [decide_eq_true (by omega), Bool.true_and]
    exact List.all_eq_true.mpr fun p hp => (b1 p hp).1
  · unfold outsOf
    rw [ep]
    exact b2
  · rw [ep] at eq_
    cases eq_
    exact (b1 p hp).2
  · rw [ep] at eq_
    cases eq_
    omega
end
end Q
set_option Elab.async false
set_option linter.all false
set_option maxRecDepth 100000
set_option maxHeartbeats 4000000
/-! ### k31: _law_refusals_right -/
namespace Q
open PySem PySem.Spec L2 XD PyProof.Rows
def FC31 (K : PySem.W.Frag) (t : Tbl) (R : Hp) (v : V) (P : PyData → Prop) : Prop := ∃ d, Fcs K R t v d ∧ P d
theorem FC31.same {K : PySem.W.Frag} {t : Tbl} {R R' : Hp} {v : V} {P : PyData → Prop} (s : Same R R') (h : FC31 K t R v P) : FC31 K t R' v P := by
  obtain ⟨d, a, b⟩ := h
  exact ⟨d, a.same s, b⟩
/-- where the law stands -/
structure St31 (K : PySem.W.Frag) (C a b B x pf pr : Addr) (t : Tbl) (bans : List (List Pr)) (vp : V) (os : List Out) (L : Addr) (us : List V) (H : Hp) : Prop where
  fl : Fl31 b H a
  bk : Bk31 K C (Bs31 a b H) B x pf pr t bans
  ps : Dp K (Bs31 a b H) vp (outsD os)
  oo : Outs31 t 6 os
  ls : Bs31 a b H L = some (.lst us)
  rw_ : Paired (ZRow31 K (Bs31 a b H)) us (lawAll t bans)
theorem St31.move {K : PySem.W.Frag} {C a b B x pf pr : Addr} {t : Tbl} {bans : List (List Pr)} {vp : V} {os : List Out} {L : Addr} {us : List V} {H H' : Hp} (W : St31 K C a b B x pf pr t bans vp os L us H) (F : Fl31 b H' a) (s : Same (Bs31 a b H) (Bs31 a b H')) : St31 K C a b B x pf pr t bans vp os L us H' :=
  ⟨F, W.bk.same s, dp_same s W.ps, W.oo, s _ _ W.ls, prd_imp (fun _ _ h => h.same s) W.rw_⟩
theorem St31.gets {K : PySem.W.Frag} {C a b B x pf pr : Addr} {t : Tbl} {bans : List (List Pr)} {vp : V} {os : List Out} {L : Addr} {us : List V} {H : Hp} (W : St31 K C a b B x pf pr t bans vp os L us H) : DGet H B (.str "form") (some (.ref x)) ∧ ∃ vt, DGet H B (.str "parts") (some vt) ∧ Dp K (Bs31 a b H) vt (tabD t) := by
  obtain ⟨kvs, vt, vb, hB1, hB2, hB3, hB4, dP, dB⟩ := W.bk.bk
  refine ⟨?_, vt, ?_, dP⟩
  · rw [← hB4]
    exact DGet.k (k := .inr "form") (rm_le _ _ hB1)
  · rw [← hB2]
    exact DGet.k (k := .inr "parts") (rm_le _ _ hB1)
theorem St31.ocs {K : PySem.W.Frag} {C a b B x pf pr : Addr} {t : Tbl} {bans : List (List Pr)} {vp : V} {os : List Out} {L : Addr} {us : List V} {H : Hp} (W : St31 K C a b B x pf pr t bans vp os L us H) : Ocs K H vp (outsD os) ∧ isOuts t (outsD os) = true ∧ outsOf (outsD os) = os := by
  obtain ⟨g1, g2, g3, g4⟩ := outs_good31 W.bk.gd.tb W.oo (by decide) (d := outsD os) (tupled_noL31 _ (noL_outs31 os))
  exact ⟨⟨dp_same rm_le W.ps, g3, g4⟩, g1, g2⟩
theorem ask_131 {c : Bool} {t : Tbl} {rs : List (List Pr)} {o d : PyData} (h : isOuts t o = false) : askD c t rs o d = valD 1 := by
  unfold askD
  rw [if_pos h]
theorem ask_2s31 {t : Tbl} {rs : List (List Pr)} {o d : PyData} (h : isOuts t o = true) (g : areFacts t d = false) : askD false t rs o d = valD 2 := by
  unfold askD
  rw [if_neg (by rw [h]; decide), if_neg (by decide), if_neg (by rw [g]; decide)]
theorem ask_2o31 {t : Tbl} {rs : List (List Pr)} {o d : PyData} (h : isOuts t o = true) (g : isFill t rs d = false) : askD true t rs o d = valD 2 := by
  unfold askD
  rw [if_neg (by rw [h]; decide), if_pos rfl, if_neg (by rw [g]; decide)]
theorem ask_s31 {t : Tbl} {rs : List (List Pr)} {o d : PyData} (h : isOuts t o = true) (g : areFacts t d = true) : askD false t rs o d = toldD (optD (oneWord ((fills rs (factsOf d) t).map (wordOf (outsOf o))))) := by
  unfold askD
  rw [if_neg (by rw [h]; decide), if_neg (by decide), if_pos g]
theorem ask_o31 {t : Tbl} {rs : List (List Pr)} {o d : PyData} (h : isOuts t o = true) (g : isFill t rs d = true) : askD true t rs o d = toldD (.str (wordOf (outsOf o) (factsOf d))) := by
  unfold askD
  rw [if_neg (by rw [h]; decide), if_pos rfl, if_pos g]
theorem zrows_dp31 {K : PySem.W.Frag} {R : Hp} : ∀ {us : List V} {rows : List (List Pr)}, Paired (ZRow31 K R) us rows → DpAll K R us (rows.map ruleD)
  | _, _, .nil => .nil
  | _, _, .cons a b => .cons a.dp (zrows_dp31 b)
/-- what is asked, shown, and what is due -/
theorem rep_ask31 {K : PySem.W.Frag} {C g x pf pr : Addr} {t : Tbl} {rs : List (List Pr)} {vo v : V} {o d e : PyData} {c : Bool} {te2 : TE} {σ : L2.St} {H : Hp} {R : Bool → Hp → Prop} (hg : SqT K H g [.ref x, vo, v]) (Fr : Frm K C H x pf pr t rs) (Oc : Ocs K H vo o) (Fc : Fcs K H t v d) (he : askD c t rs o d = e) (sh : Sh31 1 18 e) (h2 : MkD K [] H σ te2 e) (k : ∀ H', Same H H' → R false H') :
    spAsk31 K C [.str (if c = true then "outcome" else "settled"), .ref g] H (fun v1 H1 => rRepr31 K [v1] H1 fun v2 H2 => tCB (rRepr31 K) (tCons te2 tNil) σ H2 fun v3 H3 => rNe v2 v3 H3 fun v4 H4 => ∃ b, v4 = .bl b ∧ R b H4) E0 := by
  obtain ⟨f1, f2, f3, f4⟩ := sh.fin (by decide) (by decide)
  refine ⟨c, g, x, pf, pr, t, rs, vo, v, o, d, rfl, hg, Fr, Oc, Fc, fun r H1 s1 hr => ⟨r, e, rfl, by rw [← he]; exact hr, f1, f2, f3, f4, ?_⟩⟩
  refine h2 H1 _ s1 fun w H2 s2 hw => ⟨w, e, rfl, by rw [rm_nil] at hw; exact hw, f1, f2, f3, f4, rfl, _, rfl, ?_⟩
  rw [decide_eq_true rfl]
  exact k H2 (s1.trans s2)
def spRr31 (K : PySem.W.Frag) (C : Addr) : Sp := fun vs H Q _ => ∃ (a b B x pf pr : Addr) (t : Tbl) (bans : List (List Pr)) (vp : V) (os : List Out) (L : Addr) (us : List V), vs = [.ref a, .ref B, vp, .ref L] ∧ St31 K C a b B x pf pr t bans vp os L us H ∧
  ∀ H', Fl31 b H' a → Same (Bs31 a b H) (Bs31 a b H') → Q (.bl true) H'
abbrev nRr31 : List Str := ["st", "book", "pairs", "rows", "turn", "wrong", "lot", "row", "other"]
section
variable {P : Program} {w : World} {K : PySem.W.Frag} {mg : Str → Option Value} {base : Heap}
theorem scRr31 : FnScope nRr31 ["st", "book", "pairs", "rows"] (defScope sLRefusalsRight) := ⟨rfl, rfl, rfl, by decide +kernel, rfl, by decide +kernel, by decide +kernel⟩
theorem ok_refus31 {f C : Addr} {fd : FuncData} (F : Fun K "_law_refusals_right" "_law_refusals_right" sLRefusalsRight f fd) (T : Be31 mg) (Tr : mg "repr" = none) (KO : Kn P w K mg base 3 "_law_one" ["st", "row"] (spOne31 K)) (KL : Kn P w K mg base 4 "_law_lot" ["st", "parts", "many"] (spLot31 K))
    (KP : Kn P w K mg base 4 "_law_bad_pairs" ["st", "book"] (spBp31 K C)) (KB : Kn P w K mg base 4 "_law_bad_lot" ["st", "book"] (spBl31 K C)) (KF : Kn P w K mg base 4 "_law_bad_filling" ["st", "book", "row"] (spBf31 K C)) (KA : Kn P w K mg base 9 "_law_asked" ["name", "given"] (spAsk31 K C)) :
    XG.FnG P w K mg base CX0 10 f fd ["st", "book", "pairs", "rows"] (spRr31 K C) := by
  obtain ⟨fO, fdO, GO, kO, bO, mO⟩ := KO.ex
  obtain ⟨fL, fdL, GL, kL, bL, mL⟩ := KL.ex
  obtain ⟨fP, fdP, GP, kP, bP, mP⟩ := KP.ex
  obtain ⟨fB, fdB, GB, kB, bB, mB⟩ := KB.ex
  obtain ⟨fF, fdF, GF, kF, bF, mF⟩ := KF.ex
  obtain ⟨fA, fdA, GA, kA, bA, mA⟩ := KA.ex
  refine XG.FnG.of F scRr31 (fun vs H Q E h => ?_) (fun cdv A outer s H vs Q E bare hr h => ?_)
  · obtain ⟨a, b, B, x, pf, pr, t, bans, vp, os, L, us, rfl, _⟩ := h
    rfl
  have hr3 := hr.mono (show 3 ≤ 9 by decide)
  have hr4 := hr.mono (show 4 ≤ 9 by decide)
  have vr_ : PySem.bootBuiltins "repr" = some (.builtin "repr") := by decide +kernel
  have hu1 : (A.deeper (PyProof.Rows.envOfC "_law_refusals_right" (defScope sLRefusalsRight) s.heap.objs.size f cdv)).units + 1 < cLine := by
    have := hr.un
    omega
  have hu : (A.deeper (PyProof.Rows.envOfC "_law_refusals_right" (defScope sLRefusalsRight) s.heap.objs.size f cdv)).units + 64 < cLine := by
    have := hr.un
    omega
  have hu2 : (A.deeper (PyProof.Rows.envOfC "_law_refusals_right" (defScope sLRefusalsRight) s.heap.objs.size f cdv)).units + 65 < cLine := by
    have := hr.un
    omega
  refine ⟨_, pss_cons (ps_for PassesOwn.never rfl (pi_range1 rfl T.range (pa_cons pe_int pa_nil)) (pg_name (i := 4) scRr31.nd rfl (.inl rfl))
      (pss_cons (ps_set (i := 5) scRr31.nd rfl (.inl rfl) (pe_call GP hr4 (by rfl) mP kP bP .nil pass0 (pa_cons (pv 0) (pa_cons (pv 1) pa_nil))))
    (pss_cons (ps_set (i := 6) scRr31.nd rfl (.inl rfl) (pe_call GO hr3 (by rfl) mO kO bO .nil pass0 (pa_cons (pv 0) (pa_cons (pe_lst (pa_cons (pe_call GL hr4 (by rfl) mL kL bL .nil pass0 (pa_cons (pv 0) (pa_cons (pe_dget hu1 (pv 1) pe_str (fun _ _ => rfl)) (pa_cons pe_int pa_nil)))) (pa_cons (pe_call GB hr4 (by rfl) mB kB bB .nil pass0 (pa_cons (pv 0) (pa_cons (pv 1) pa_nil))) pa_nil))) pa_nil))))
    (pss_cons (ps_if (pt_cmpR op_ne (pe_callB (call_reprD31 bare hu2 K rfl) (by rfl) Tr vr_ (pa_cons (pe_call GA hr (by rfl) mA kA bA .nil pass0 (pa_cons pe_str (pa_cons (pe_tupZ (pa_cons (pe_dget hu1 (pv 1) pe_str (fun _ _ => rfl)) (pa_cons (pv 5) (pa_cons (pv 6) pa_nil)))) pa_nil))) pa_nil)) (pe_callB (call_reprD31 bare hu2 K rfl) (by rfl) Tr vr_ (pa_cons (pe_tupZ (pa_cons pe_str (pa_cons pe_int pa_nil))) pa_nil)) (nomark _)) (pss_one (ps_ret pe_bl)) pss_nil)
    (pss_cons (ps_set (i := 6) scRr31.nd rfl (.inl rfl) (pe_call GB hr4 (by rfl) mB kB bB .nil pass0 (pa_cons (pv 0) (pa_cons (pv 1) pa_nil))))
    (pss_cons (ps_if (pt_cmpR op_ne (pe_callB (call_reprD31 bare hu2 K rfl) (by rfl) Tr vr_ (pa_cons (pe_call GA hr (by rfl) mA kA bA .nil pass0 (pa_cons pe_str (pa_cons (pe_tupZ (pa_cons (pe_dget hu1 (pv 1) pe_str (fun _ _ => rfl)) (pa_cons (pv 2) (pa_cons (pv 6) pa_nil)))) pa_nil))) pa_nil)) (pe_callB (call_reprD31 bare hu2 K rfl) (by rfl) Tr vr_ (pa_cons (pe_tupZ (pa_cons pe_str (pa_cons pe_int pa_nil))) pa_nil)) (nomark _)) (pss_one (ps_ret pe_bl)) pss_nil)
    (pss_one (ps_if (pt_cmpR (op_neDK31 K rfl hu) (pv 3) (pe_lst pa_nil) (nomark _)) (pss_cons (ps_set (i := 7) scRr31.nd rfl (.inl rfl) (pe_call GO hr3 (by rfl) mO kO bO .nil pass0 (pa_cons (pv 0) (pa_cons (pv 3) pa_nil))))
    (pss_cons (ps_set (i := 8) scRr31.nd rfl (.inl rfl) (pe_call GO hr3 (by rfl) mO kO bO .nil pass0 (pa_cons (pv 0) (pa_cons (pe_lst (pa_cons (pv 7) (pa_cons (pe_call GF hr4 (by rfl) mF kF bF .nil pass0 (pa_cons (pv 0) (pa_cons (pv 1) (pa_cons (pv 7) pa_nil)))) pa_nil))) pa_nil))))
    (pss_cons (ps_if (pt_cmpR op_ne (pe_callB (call_reprD31 bare hu2 K rfl) (by rfl) Tr vr_ (pa_cons (pe_call GA hr (by rfl) mA kA bA .nil pass0 (pa_cons pe_str (pa_cons (pe_tupZ (pa_cons (pe_dget hu1 (pv 1) pe_str (fun _ _ => rfl)) (pa_cons (pv 5) (pa_cons (pv 8) pa_nil)))) pa_nil))) pa_nil)) (pe_callB (call_reprD31 bare hu2 K rfl) (by rfl) Tr vr_ (pa_cons (pe_tupZ (pa_cons pe_str (pa_cons pe_int pa_nil))) pa_nil)) (nomark _)) (pss_one (ps_ret pe_bl)) pss_nil)
    (pss_cons (ps_set (i := 8) scRr31.nd rfl (.inl rfl) (pe_call GF hr4 (by rfl) mF kF bF .nil pass0 (pa_cons (pv 0) (pa_cons (pv 1) (pa_cons (pv 7) pa_nil)))))
    (pss_one (ps_if (pt_cmpR op_ne (pe_callB (call_reprD31 bare hu2 K rfl) (by rfl) Tr vr_ (pa_cons (pe_call GA hr (by rfl) mA kA bA .nil pass0 (pa_cons pe_str (pa_cons (pe_tupZ (pa_cons (pe_dget hu1 (pv 1) pe_str (fun _ _ => rfl)) (pa_cons (pv 2) (pa_cons (pv 8) pa_nil)))) pa_nil))) pa_nil)) (pe_callB (call_reprD31 bare hu2 K rfl) (by rfl) Tr vr_ (pa_cons (pe_tupZ (pa_cons pe_str (pa_cons pe_int pa_nil))) pa_nil)) (nomark _)) (pss_one (ps_ret pe_bl)) pss_nil)))))) pss_nil))))))))
    (pss_one (ps_ret pe_bl)), ?_⟩
  obtain ⟨a, b, B, x, pf, pr, t, bans, vp, os, L, us, rfl, W, k⟩ := h
  try simp only [L2.start, gName, List.map_cons, List.map_nil, List.length_cons, List.length_nil, Nat.reduceAdd, Nat.reduceSub, List.replicate_succ, List.replicate_zero, List.cons_append, List.nil_append, List.set_cons_succ, List.set_cons_zero]
  have G := W.bk.gd
  have tk := G.tb
  obtain ⟨vt, lt, ts, wt, hb, lb⟩ := good_all31 G
  have t4 := W.bk.t4
  have lrows := lawAll_len31 (bans := bans) wt
  have srows := lawAll_str31 (bans := bans) ts
  refine ⟨_, rfl, by decide, by decide, ?_⟩
  refine for_range (lo := 0) (n := 3) (fun i σ H' => ∃ f4 f5 f6 f7 f8 : Option V, σ = [some (.ref a), some (.ref B), some vp, some (.ref L), f4, f5, f6, f7, f8] ∧ Fl31 b H' a ∧ Same (Bs31 a b H) (Bs31 a b H')) ⟨none, none, none, none, none, rfl, W.fl, Same.refl _⟩ ?_ ?_
  · rintro i σ H1 hi ⟨f4, f5, f6, f7, f8, rfl, F1, s1⟩
    have W1 := W.move F1 s1
    try simp only [gName, List.set_cons_succ, List.set_cons_zero]
    refine ⟨_, rfl, _, rfl, a, b, B, x, pf, pr, t, bans, rfl, F1, W1.bk, fun vw dw H2 hw bw F2 s2 => ?_⟩
    have W2 := W1.move F2 s2
    obtain ⟨gF2, vt2, gP2, dP2⟩ := W2.gets
    try simp only [gName, List.set_cons_succ, List.set_cons_zero]
    refine ⟨_, rfl, _, rfl, _, rfl, B, _, rfl, gP2, a, b, [a, b], vt2, t, 1, rfl, F2, List.mem_cons_self, List.mem_cons_of_mem _ List.mem_cons_self, flo31.alive F2, dP2, by omega, tk.nm.1, vt, fun r l H3 hr3_ fz hl F3 s3 => ?_⟩
    have W3 := W2.move F3 s3
    refine ⟨_, rfl, _, rfl, a, b, B, x, pf, pr, t, bans, rfl, F3, W3.bk, fun vb db H4 hvb bb F4 s4 => ⟨by show 2 ≤ sizeLine; decide, fun M hM => ?_⟩⟩
    have W4 := W3.move F4 s4
    have N : Known t l := ⟨by have := hl.ln; omega, hl.nd, hl.of⟩
    obtain ⟨kf1, kf2, kf3⟩ := known_facts tk N (frule_D31 l)
    have fc1 : FC31 K t (Bs31 a b H4) r (fun _ => True) := FC31.same s4 ⟨ruleD l, ⟨hr3_, kf3, fun _ => fz⟩, trivial⟩
    have fc2 : FC31 K t (Bs31 a b H4) vb (fun _ => True) := ⟨db, ⟨hvb, bb.2, fun z => by rw [bb.1] at z; cases z⟩, trivial⟩
    have nM : M ∉ [a, b] := flo31.out F4 hM
    have F5 := flo31.off (o := .lst [r, vb]) nM F4
    have s5 := off_upd31 (a := a) (b := b) (o := .lst [r, vb]) hM
    have gM : Bs31 a b (L2.upd H4 M (.lst [r, vb])) M = some (.lst [r, vb]) := (rm_at nM).trans upd_same
    generalize L2.upd H4 M (.lst [r, vb]) = H5 at F5 s5 gM
    refine ⟨a, b, M, _, rfl, F5, .inl (SqL.of gM), Nat.le_of_ble_eq_true rfl, Nat.le_of_ble_eq_true rfl, fun j y H6 hy F6 s6 => ?_⟩
    have fy : FC31 K t (Bs31 a b H6) y (fun _ => True) := by
      rcases List.mem_cons.mp (List.mem_of_getElem? hy) with e | e
      · exact e ▸ (fc1.same (s5.trans s6))
      · exact (List.mem_singleton.mp e) ▸ (fc2.same (s5.trans s6))
    have W6 := W4.move F6 (s5.trans s6)
    have hw6 := dp_same (s3.trans (s4.trans (s5.trans s6))) hw
    obtain ⟨gF6, _⟩ := W6.gets
    obtain ⟨dy, fcy, _⟩ := fy
    try simp only [gName, List.set_cons_succ, List.set_cons_zero]
    have s16 : Same (Bs31 a b H) (Bs31 a b H6) := s1.trans (s2.trans (s3.trans (s4.trans (s5.trans s6))))
    clear fc1 fc2 gM hy N kf1 kf2 kf3 fz hl hr3_ dP2 gP2 gF2 hw hvb bb W1 W2 W3 W4 F1 F2 F3 F4 F5
    -- settled, of what are no outcomes
    refine ⟨_, rfl, B, _, rfl, gF6, _, rfl, _, rfl, by show 3 ≤ sizeLine; decide, fun g og hg hog => ?_⟩
    have t7 := new_same hg (.frz og (.tup [V.ref x, vw, y]))
    refine rep_ask31 (c := false) (rs := rsB31 t bans) (e := valD 1) (.inl (.inr ⟨og, upd_same⟩)) ((W6.bk.fr.same rm_le).same t7) ((⟨dp_same rm_le hw6, bw.2.1, bw.2.2⟩ : Ocs K H6 vw dw).same t7) ((fcy.same rm_le).same t7) (ask_131 bw.1) (sh_val31 (.inl rfl)) (mk_tup (fun x h => absurd h List.not_mem_nil) (by rfl) (mkl_cons (mk_str "value") (mkl_cons (mk_int 1) mkl_nil))) fun H7 s7 => iteF (nxt ?_)
    have s67 := rm_same (S := [a, b]) (t7.trans s7)
    have F7 : Fl31 b H7 a := flo31.same (t7.trans s7) F6
    clear t7 s7 hg
    have W7 := W6.move F7 s67
    have hw7 := dp_same s67 hw6
    -- settled, of what are no facts
    try simp only [gName, List.set_cons_succ, List.set_cons_zero]
    refine ⟨_, rfl, _, rfl, a, b, B, x, pf, pr, t, bans, rfl, F7, W7.bk, fun vb db H8 hvb bb F8 s8 => ?_⟩
    have W8 := W7.move F8 s8
    have hw8 := dp_same s8 hw7
    obtain ⟨gF8, _⟩ := W8.gets
    obtain ⟨oc8, oc8y, oc8o⟩ := W8.ocs
    try simp only [gName, List.set_cons_succ, List.set_cons_zero]
    refine ⟨_, rfl, B, _, rfl, gF8, _, rfl, _, rfl, by show 3 ≤ sizeLine; decide, fun g og hg hog => ?_⟩
    have t9 := new_same hg (.frz og (.tup [V.ref x, vp, vb]))
    refine rep_ask31 (c := false) (rs := rsB31 t bans) (e := valD 2) (.inl (.inr ⟨og, upd_same⟩)) ((W8.bk.fr.same rm_le).same t9) (oc8.same t9) (((⟨hvb, bb.2, fun z => by rw [bb.1] at z; cases z⟩ : Fcs K (Bs31 a b H8) t vb db).same rm_le).same t9) (ask_2s31 oc8y bb.1) (sh_val31 (.inr rfl)) (mk_tup (fun x h => absurd h List.not_mem_nil) (by rfl) (mkl_cons (mk_str "value") (mkl_cons (mk_int 2) mkl_nil))) fun H9 s9 => iteF (nxt ?_)
    have s89 := rm_same (S := [a, b]) (t9.trans s9)
    have F9 : Fl31 b H9 a := flo31.same (t9.trans s9) F8
    clear t9 s9 hg oc8
    have W9 := W8.move F9 s89
    have hw9 := dp_same s89 hw8
    have s19 := s16.trans (s67.trans (s8.trans s89))
    clear W6 W7 W8 F6 F7 F8 hvb bb gF6 gF8 hw6 hw7 hw8 fcy
    -- are there fillings?
    try simp only [gName, List.set_cons_succ, List.set_cons_zero]
    have hL9 : H9 L = some (.lst us) := rm_le _ _ W9.ls
    have pz9 : Paired (ZRow31 K H9) us (lawAll t bans) := prd_imp (fun _ _ h => h.same rm_le) W9.rw_
    have drows : DpAll K H9 us ((lawAll t bans).map ruleD) := zrows_dp31 pz9
    refine ⟨_, rfl, by show 0 ≤ sizeLine; decide, fun z hz => ?_⟩
    have sz := new_same hz (.lst [])
    refine ⟨.list ((lawAll t bans).map ruleD), .list (([] : List (List Pr)).map ruleD), .lst (SqL.of (sz _ _ hL9)) (dps_same sz drows), .lst (SqL.of upd_same) .nil, rules_shaped srows, rules_shaped (fun r h => absurd h List.not_mem_nil), _, rfl, ?_⟩
    have er : PyData.eqv (.list ((lawAll t bans).map ruleD)) (.list (([] : List (List Pr)).map ruleD)) = decide (lawAll t bans = []) := by
      rw [PyData.eqv]
      exact eqvAll_rules _ _
    rw [er]
    have F10 : Fl31 b (L2.upd H9 z (.lst [])) a := flo31.same sz F9
    have s910 := rm_same (S := [a, b]) sz
    generalize L2.upd H9 z (.lst []) = H10 at F10 s910
    clear drows pz9 hL9 sz hz
    have W10 := W9.move F10 s910
    have hw10 := dp_same s910 hw9
    cases ce : decide (lawAll t bans = []) with
    | true => exact iteF (nxt ⟨_, _, _, _, _, rfl, F10, s19.trans s910⟩)
    | false =>
    refine iteT ?_
    have ne : lawAll t bans ≠ [] := of_decide_eq_false ce
    have lus := prd_len W10.rw_
    have pos : 0 < (lawAll t bans).length := List.length_pos_iff.mpr ne
    refine ⟨_, rfl, _, rfl, a, b, L, us, rfl, F10, .inl (SqL.of W10.ls), by omega, by omega, fun j vr H11 hvr F11 s11 => ?_⟩
    have W11 := W10.move F11 s11
    obtain ⟨row, hrow, hzr⟩ := prd_at W11.rw_ hvr
    have hrm := List.mem_of_getElem? hrow
    have hw11 := dp_same s11 hw10
    try simp only [gName, List.set_cons_succ, List.set_cons_zero]
    refine ⟨_, rfl, _, rfl, _, rfl, _, rfl, _, rfl, a, b, B, x, pf, pr, t, bans, vr, row, rfl, F11, W11.bk, hzr, hrm, fun vb H12 nf F12 s12 => ⟨by show 2 ≤ sizeLine; decide, fun M hM => ?_⟩⟩
    have W12 := W11.move F12 s12
    have fc1 : FC31 K t (Bs31 a b H12) vr (fun _ => True) := FC31.same s12 ⟨ruleD row, ⟨hzr.dp, rule_fok31 (srows row hrm), fun _ => hzr.fz⟩, trivial⟩
    have fc2 : FC31 K t (Bs31 a b H12) vb (fun _ => True) := by
      obtain ⟨d, h1, _⟩ := nf.fc
      exact ⟨d, h1, trivial⟩
    have nM : M ∉ [a, b] := flo31.out F12 hM
    have F13 := flo31.off (o := .lst [vr, vb]) nM F12
    have s13 := off_upd31 (a := a) (b := b) (o := .lst [vr, vb]) hM
    have gM : Bs31 a b (L2.upd H12 M (.lst [vr, vb])) M = some (.lst [vr, vb]) := (rm_at nM).trans upd_same
    generalize L2.upd H12 M (.lst [vr, vb]) = H13 at F13 s13 gM
    refine ⟨a, b, M, _, rfl, F13, .inl (SqL.of gM), Nat.le_of_ble_eq_true rfl, Nat.le_of_ble_eq_true rfl, fun j2 y2 H14 hy2 F14 s14 => ?_⟩
    have fy2 : FC31 K t (Bs31 a b H14) y2 (fun _ => True) := by
      rcases List.mem_cons.mp (List.mem_of_getElem? hy2) with e | e
      · exact e ▸ (fc1.same (s13.trans s14))
      · exact (List.mem_singleton.mp e) ▸ (fc2.same (s13.trans s14))
    have W14 := W12.move F14 (s13.trans s14)
    have hw14 := dp_same (s12.trans (s13.trans s14)) hw11
    have hzr14 := hzr.same (s12.trans (s13.trans s14))
    obtain ⟨gF14, _⟩ := W14.gets
    obtain ⟨dy2, fcy2, _⟩ := fy2
    have t14 : Same (Bs31 a b H) (Bs31 a b H14) := s19.trans (s910.trans (s11.trans (s12.trans (s13.trans s14))))
    clear fc1 fc2 gM hy2 nf W9 W10 W11 W12 F9 F10 F11 F12 F13 hw9 hw10 hw11 hzr hrow hvr
    try simp only [gName, List.set_cons_succ, List.set_cons_zero]
    refine ⟨_, rfl, B, _, rfl, gF14, _, rfl, _, rfl, by show 3 ≤ sizeLine; decide, fun g og hg hog => ?_⟩
    have t7 := new_same hg (.frz og (.tup [V.ref x, vw, y2]))
    refine rep_ask31 (c := true) (rs := rsB31 t bans) (e := valD 1) (.inl (.inr ⟨og, upd_same⟩)) ((W14.bk.fr.same rm_le).same t7) ((⟨dp_same rm_le hw14, bw.2.1, bw.2.2⟩ : Ocs K H14 vw dw).same t7) ((fcy2.same rm_le).same t7) (ask_131 bw.1) (sh_val31 (.inl rfl)) (mk_tup (fun x h => absurd h List.not_mem_nil) (by rfl) (mkl_cons (mk_str "value") (mkl_cons (mk_int 1) mkl_nil))) fun H15 s15 => iteF (nxt ?_)
    have u15 := rm_same (S := [a, b]) (t7.trans s15)
    have F15 : Fl31 b H15 a := flo31.same (t7.trans s15) F14
    clear t7 s15 hg
    have W15 := W14.move F15 u15
    have hzr15 := hzr14.same u15
    try simp only [gName, List.set_cons_succ, List.set_cons_zero]
    refine ⟨_, rfl, _, rfl, _, rfl, a, b, B, x, pf, pr, t, bans, vr, row, rfl, F15, W15.bk, hzr15, hrm, fun vb2 H16 nf F16 s16b => ?_⟩
    have W16 := W15.move F16 s16b
    obtain ⟨gF16, _⟩ := W16.gets
    obtain ⟨oc16, oc16y, oc16o⟩ := W16.ocs
    obtain ⟨db2, fcb2, nob2⟩ := nf.fc
    try simp only [gName, List.set_cons_succ, List.set_cons_zero]
    refine ⟨_, rfl, B, _, rfl, gF16, _, rfl, _, rfl, by show 3 ≤ sizeLine; decide, fun g og hg hog => ?_⟩
    have t9 := new_same hg (.frz og (.tup [V.ref x, vp, vb2]))
    refine rep_ask31 (c := true) (rs := rsB31 t bans) (e := valD 2) (.inl (.inr ⟨og, upd_same⟩)) ((W16.bk.fr.same rm_le).same t9) (oc16.same t9) ((fcb2.same rm_le).same t9) (ask_2o31 oc16y nob2) (sh_val31 (.inr rfl)) (mk_tup (fun x h => absurd h List.not_mem_nil) (by rfl) (mkl_cons (mk_str "value") (mkl_cons (mk_int 2) mkl_nil))) fun H17 s17 => iteF (nxt ?_)
    exact ⟨_, _, _, _, _, rfl, flo31.same (t9.trans s17) F16, t14.trans (u15.trans (s16b.trans (rm_same (t9.trans s17))))⟩
  · rintro σ H1 ⟨f4, f5, f6, f7, f8, rfl, F1, s1⟩
    exact k H1 F1 s1
end
end Q
set_option Elab.async false
set_option linter.all false
set_option maxRecDepth 100000
set_option maxHeartbeats 4000000
/-! ### k31: law -/
namespace Q
open PySem PySem.Spec L2 XD XW PyProof.Rows
theorem zr_nl31 {K : PySem.W.Frag} {S : List Addr} {H : Hp} (A : AllL31 S H) {v : V} {row : List Pr} (h : ZRow31 K H v row) : ZRow31 K (rmL S H) v row := by
  obtain ⟨q, zs, e, a, b⟩ := h
  exact ⟨q, zs, e, sqZ_nl31 A a, dps_nl31 A b (noL_pairs31 row)⟩
theorem wordOf_word31 {os : List Out} (h : ∀ o ∈ os, word o.2 = true) (row : List Pr) : word (wordOf os row) = true := by
  induction os with
  | nil => exact word_none31
  | cons o os ih =>
    show word (if within o.1 row = true then o.2 else wordOf os row) = true
    by_cases c : within o.1 row = true
    · rw [if_pos c]
      exact h o List.mem_cons_self
    · rw [if_neg c]
      exact ih fun x hx => h x (List.mem_cons_of_mem _ hx)
theorem sh_opt31 {wl : List Str} (h : ∀ x ∈ wl, word x = true) : Sh31 0 8 (optD (oneWord wl)) := by
  cases wl with
  | nil => exact sh_non31.up (Nat.le_refl _) (by decide)
  | cons w r =>
    by_cases c : (r.all fun x => decide (x = w)) = true
    · have e : oneWord (w :: r) = some w := if_pos c
      rw [e]
      exact sh_w31 (h w List.mem_cons_self)
    · have e : oneWord (w :: r) = none := if_neg c
      rw [e]
      exact sh_non31.up (Nat.le_refl _) (by decide)
theorem test_rows31 {K : PySem.W.Frag} {a b L : Addr} {us : List V} {rows : List (List Pr)} {i : Nat} {σ : L2.St} {H : Hp} {R : Bool → Hp → Prop} (e : σ[i]? = some (some (.ref L))) (hL : Bs31 a b H L = some (.lst us)) (pz : Paired (ZRow31 K (Bs31 a b H)) us rows) (hs : ∀ r ∈ rows, RStr r) (k : ∀ H', Same H H' → R (!decide (rows = [])) H') : tTest (tOp (rNeD K) (tVar i) (tLst tNil)) σ H R := by
  refine ⟨_, e, by show 0 ≤ sizeLine; decide, fun z hz => ?_⟩
  have sz := new_same hz (.lst [])
  refine ⟨.list (rows.map ruleD), .list (([] : List (List Pr)).map ruleD), .lst (SqL.of (sz _ _ (rm_le _ _ hL))) (dps_same (rm_le.trans sz) (zrows_dp31 pz)), .lst (SqL.of upd_same) .nil, rules_shaped hs, rules_shaped (fun r h => absurd h List.not_mem_nil), _, rfl, ?_⟩
  have er : PyData.eqv (.list (rows.map ruleD)) (.list (([] : List (List Pr)).map ruleD)) = decide (rows = []) := by
    rw [PyData.eqv]
    exact eqvAll_rules _ _
  rw [er]
  exact k _ sz
def spLaw (K : PySem.W.Frag) : Sp := fun vs H Q _ => ∃ (sc : Addr) (ns : List Int), vs = [.ref sc] ∧ SqL K H sc (ns.map V.int) ∧ ∀ H', Q (.bl true) H'
abbrev nLaw : List Str := ["script", "st", "book", "rows", "pairs", "kept", "turn", "handed", "row", "due", "lot"]
section
variable {P : Program} {w : World} {K : PySem.W.Frag} {mg : Str → Option Value} {base : Heap}
theorem scLaw : FnScope nLaw ["script"] (defScope sLaw) := ⟨rfl, rfl, rfl, by decide +kernel, rfl, by decide +kernel, by decide +kernel⟩
theorem ok_law {f fRR fOC fSE C CV : Addr} {fd fdRR fdOC fdSE : FuncData} (F : Fun K "law" "law" sLaw f fd) (T : Be31 mg) (Tr : mg "repr" = none)
    (KS : Kn P w K mg base 1 "_law_start" ["script"] (spStart31 K)) (KD : Kn P w K mg base 2 "_law_draw" ["st", "many"] spDraw31) (KO : Kn P w K mg base 3 "_law_one" ["st", "row"] (spOne31 K)) (KU : Kn P w K mg base 3 "_law_turned" ["st", "row"] (spTurn31 K))
    (KB : Kn P w K mg base 8 "_law_book" ["st", "most", "values"] (spBook31 K C)) (KA : Kn P w K mg base 2 "_law_all" ["book"] (spAll31 K)) (KP : Kn P w K mg base 5 "_law_pairs" ["st", "book", "most"] (spPairs31 K C)) (KI : Kn P w K mg base 7 "_law_listed" ["st", "value"] (spLis31 K 4))
    (KL : Kn P w K mg base 4 "_law_lot" ["st", "parts", "many"] (spLot31 K)) (KW : Kn P w K mg base 2 "_law_word" ["pairs", "filling"] (spWord31 K)) (KX : Kn P w K mg base 3 "_law_settled_word" ["book", "pairs", "lot"] (spSw31 K)) (KQ : Kn P w K mg base 9 "_law_asked" ["name", "given"] (spAsk31 K C))
    (GRR : XG.FnG P w K mg base CX0 10 fRR fdRR ["st", "book", "pairs", "rows"] (spRr31 K C)) (kRR : PySem.W.keepIn K (.ref fRR) = true) (bRR : Binds K fdRR ["st", "book", "pairs", "rows"] []) (mRR : mg "_law_refusals_right" = some (.ref fRR))
    (GOC : FnOk P w K mg base (L2N.CX P w) 8 fOC fdOC ["form", "outcomes", "filling"] (spOutc K C CV)) (kOC : PySem.W.keepIn K (.ref fOC) = true) (mOC : mg "outcome" = some (.ref fOC)) (wOC : KBn K fdOC ["form", "outcomes", "filling"] 0 ["filling", "outcomes", "form"] XW.rev3 XW.rev3)
    (GSE : FnOk P w K mg base (L2N.CX P w) 7 fSE fdSE ["form", "outcomes", "facts"] (spSettled K C CV)) (kSE : PySem.W.keepIn K (.ref fSE) = true) (mSE : mg "settled" = some (.ref fSE)) (wSE : KBn K fdSE ["form", "outcomes", "facts"] 0 ["facts", "outcomes", "form"] XW.rev3 XW.rev3) :
    XG.FnG P w K mg base CX0 11 f fd ["script"] (spLaw K) := by
  obtain ⟨fS, fdS, GS, kS, bS, mS⟩ := KS.ex
  obtain ⟨fD, fdD, GD, kD, bD, mD⟩ := KD.ex
  obtain ⟨fO, fdO, GO, kO, bO, mO⟩ := KO.ex
  obtain ⟨fU, fdU, GU, kU, bU, mU⟩ := KU.ex
  obtain ⟨fB, fdB, GB, kB, bB, mB⟩ := KB.ex
  obtain ⟨fA, fdA, GA, kA, bA, mA⟩ := KA.ex
  obtain ⟨fP, fdP, GP, kP, bP, mP⟩ := KP.ex
  obtain ⟨fI, fdI, GI, kI, bI, mI⟩ := KI.ex
  obtain ⟨fL, fdL, GL, kL, bL, mL⟩ := KL.ex
  obtain ⟨fW, fdW, GW, kW, bW, mW⟩ := KW.ex
  obtain ⟨fX, fdX, GX, kX, bX, mX⟩ := KX.ex
  obtain ⟨fQ, fdQ, GQ, kQ, bQ, mQ⟩ := KQ.ex
  refine XG.FnG.of F scLaw (fun vs H Q E h => ?_) (fun cdv A outer s H vs Q E bare hr h => ?_)
  · obtain ⟨sc, ns, rfl, _⟩ := h
    rfl
  have hr1 := hr.mono (show 1 ≤ 10 by decide)
  have hr2 := hr.mono (show 2 ≤ 10 by decide)
  have hr3 := hr.mono (show 3 ≤ 10 by decide)
  have hr4 := hr.mono (show 4 ≤ 10 by decide)
  have hr5 := hr.mono (show 5 ≤ 10 by decide)
  have hr7 := hr.mono (show 7 ≤ 10 by decide)
  have hr8 := hr.mono (show 8 ≤ 10 by decide)
  have hr9 := hr.mono (show 9 ≤ 10 by decide)
  have vr_ : PySem.bootBuiltins "repr" = some (.builtin "repr") := by decide +kernel
  have vt_ : PySem.bootBuiltins "tuple" = some (.type "tuple") := by decide +kernel
  have hu1 : (A.deeper (PyProof.Rows.envOfC "law" (defScope sLaw) s.heap.objs.size f cdv)).units + 1 < cLine := by
    have := hr.un
    omega
  have hu : (A.deeper (PyProof.Rows.envOfC "law" (defScope sLaw) s.heap.objs.size f cdv)).units + 64 < cLine := by
    have := hr.un
    omega
  have hu2 : (A.deeper (PyProof.Rows.envOfC "law" (defScope sLaw) s.heap.objs.size f cdv)).units + 65 < cLine := by
    have := hr.un
    omega
  refine ⟨_, pss_cons (ps_set (i := 1) scLaw.nd rfl (.inl rfl) (pe_call GS hr1 (by rfl) mS kS bS .nil pass0 (pa_cons (pv 0) pa_nil)))
    (pss_cons (ps_set (i := 2) scLaw.nd rfl (.inl rfl) (pe_call GB hr8 (by rfl) mB kB bB .nil pass0 (pa_cons (pv 1) (pa_cons pe_int (pa_cons pe_int pa_nil)))))
    (pss_cons (ps_set (i := 3) scLaw.nd rfl (.inl rfl) (pe_call GA hr2 (by rfl) mA kA bA .nil pass0 (pa_cons (pv 2) pa_nil)))
    (pss_cons (ps_set (i := 4) scLaw.nd rfl (.inl rfl) (pe_call GP hr5 (by rfl) mP kP bP .nil pass0 (pa_cons (pv 1) (pa_cons (pv 2) (pa_cons pe_int pa_nil)))))
    (pss_cons (ps_set (i := 5) scLaw.nd rfl (.inl rfl) (pe_callB (call_reprD31 bare hu2 K rfl) (by rfl) Tr vr_ (pa_cons (pe_tupZ (pa_cons (pe_dget hu1 (pv 2) pe_str (fun _ _ => rfl)) (pa_cons (pv 4) pa_nil))) pa_nil)))
    (pss_cons (ps_for PassesOwn.never rfl (pi_range1 rfl T.range (pa_cons pe_int pa_nil)) (pg_name (i := 6) scLaw.nd rfl (.inl rfl))
      (pss_cons (ps_set (i := 7) scLaw.nd rfl (.inl rfl) (pe_call GI hr7 (by rfl) mI kI bI .nil pass0 (pa_cons (pv 1) (pa_cons (pv 4) pa_nil))))
    (pss_cons (ps_if (pt_cmpR (op_neDK31 K rfl hu) (pv 3) (pe_lst pa_nil) (nomark _)) (pss_cons (ps_set (i := 8) scLaw.nd rfl (.inl rfl) (pe_call GO hr3 (by rfl) mO kO bO .nil pass0 (pa_cons (pv 1) (pa_cons (pv 3) pa_nil))))
    (pss_cons (ps_set (i := 9) scLaw.nd rfl (.inl rfl) (pe_call GW hr2 (by rfl) mW kW bW .nil pass0 (pa_cons (pv 4) (pa_cons (pv 8) pa_nil))))
    (pss_cons (ps_if (pt_cmpR op_ne (pe_callB (call_reprD31 bare hu2 K rfl) (by rfl) Tr vr_ (pa_cons (pe_call GQ hr9 (by rfl) mQ kQ bQ .nil pass0 (pa_cons pe_str (pa_cons (pe_tupZ (pa_cons (pe_dget hu1 (pv 2) pe_str (fun _ _ => rfl)) (pa_cons (pv 7) (pa_cons (pe_call GI hr7 (by rfl) mI kI bI .nil pass0 (pa_cons (pv 1) (pa_cons (pv 8) pa_nil))) pa_nil)))) pa_nil))) pa_nil)) (pe_callB (call_reprD31 bare hu2 K rfl) (by rfl) Tr vr_ (pa_cons (pe_tupZ (pa_cons pe_str (pa_cons (pv 9) pa_nil))) pa_nil)) (nomark _)) (pss_one (ps_ret pe_bl)) pss_nil)
    (pss_one (ps_if (pt_cmpR op_ne (pe_callB (call_reprD31 bare hu2 K rfl) (by rfl) Tr vr_ (pa_cons (XW.pe_callKw GOC hr8 (by rfl) mOC kOC wOC passF (pk_cons (pv 8) (pk_cons (pv 4) (pk_cons (pe_dget hu1 (pv 2) pe_str (fun _ _ => rfl)) pk_nil)))) pa_nil)) (pe_callB (call_reprD31 bare hu2 K rfl) (by rfl) Tr vr_ (pa_cons (pv 9) pa_nil)) (nomark _)) (pss_one (ps_ret pe_bl)) pss_nil))))) pss_nil)
    (pss_cons (ps_set (i := 10) scLaw.nd rfl (.inl rfl) (pe_call GL hr4 (by rfl) mL kL bL .nil pass0 (pa_cons (pv 1) (pa_cons (pe_dget hu1 (pv 2) pe_str (fun _ _ => rfl)) (pa_cons (pe_call GD hr2 (by rfl) mD kD bD .nil pass0 (pa_cons (pv 1) (pa_cons (pe_op op_add (pe_callB call_len_seq (by rfl) T.len PySem.boot_len (pa_cons (pe_dget hu1 (pv 2) pe_str (fun _ _ => rfl)) pa_nil)) pe_int) pa_nil))) pa_nil)))))
    (pss_cons (ps_if (PW.pt (pw_and (pt_cmpR (op_neDK31 K rfl hu) (pv 3) (pe_lst pa_nil) (nomark _)) (pw_and1 (pt_cmpR op_gt (pe_call GD hr2 (by rfl) mD kD bD .nil pass0 (pa_cons (pv 1) (pa_cons pe_int pa_nil))) pe_int (nomark _))))) (pss_one (ps_set (i := 10) scLaw.nd rfl (.inl rfl) (pe_callTy (call_tupK K rfl) (by rfl) T.tup vt_ (pa_cons (pe_slice (sl_bothK K rfl) (pe_call GU hr3 (by rfl) mU kU bU .nil pass0 (pa_cons (pv 1) (pa_cons (pv 8) pa_nil))) po_none (po_some (pe_call GD hr2 (by rfl) mD kD bD .nil pass0 (pa_cons (pv 1) (pa_cons (pe_op op_add (pe_callB call_len_seq (by rfl) T.len PySem.boot_len (pa_cons (pv 8) pa_nil)) pe_int) pa_nil))))) pa_nil)))) pss_nil)
    (pss_cons (ps_set (i := 9) scLaw.nd rfl (.inl rfl) (pe_call GX hr3 (by rfl) mX kX bX .nil pass0 (pa_cons (pv 2) (pa_cons (pv 4) (pa_cons (pv 10) pa_nil)))))
    (pss_cons (ps_if (pt_cmpR op_ne (pe_callB (call_reprD31 bare hu2 K rfl) (by rfl) Tr vr_ (pa_cons (pe_call GQ hr9 (by rfl) mQ kQ bQ .nil pass0 (pa_cons pe_str (pa_cons (pe_tupZ (pa_cons (pe_dget hu1 (pv 2) pe_str (fun _ _ => rfl)) (pa_cons (pv 7) (pa_cons (pe_call GI hr7 (by rfl) mI kI bI .nil pass0 (pa_cons (pv 1) (pa_cons (pv 10) pa_nil))) pa_nil)))) pa_nil))) pa_nil)) (pe_callB (call_reprD31 bare hu2 K rfl) (by rfl) Tr vr_ (pa_cons (pe_tupZ (pa_cons pe_str (pa_cons (pv 9) pa_nil))) pa_nil)) (nomark _)) (pss_one (ps_ret pe_bl)) pss_nil)
    (pss_one (ps_if (pt_cmpR op_ne (pe_callB (call_reprD31 bare hu2 K rfl) (by rfl) Tr vr_ (pa_cons (XW.pe_callKw GSE hr7 (by rfl) mSE kSE wSE passF (pk_cons (pv 10) (pk_cons (pv 4) (pk_cons (pe_dget hu1 (pv 2) pe_str (fun _ _ => rfl)) pk_nil)))) pa_nil)) (pe_callB (call_reprD31 bare hu2 K rfl) (by rfl) Tr vr_ (pa_cons (pv 9) pa_nil)) (nomark _)) (pss_one (ps_ret pe_bl)) pss_nil)))))))))
    (pss_one (ps_ret (pe_and (XG.pe_callG GRR bare hr (by rfl) mRR kRR bRR pass0 (pa_cons (pv 1) (pa_cons (pv 2) (pa_cons (pv 4) (pa_cons (pv 3) pa_nil))))) (pe_one (pe_cmpR op_eq (pe_callB (call_reprD31 bare hu2 K rfl) (by rfl) Tr vr_ (pa_cons (pe_tupZ (pa_cons (pe_dget hu1 (pv 2) pe_str (fun _ _ => rfl)) (pa_cons (pv 4) pa_nil))) pa_nil)) (pv 5) (nomark _))))))))))), ?_⟩
  obtain ⟨sc, ns, rfl, hs, k⟩ := h
  try simp only [L2.start, gName, List.map_cons, List.map_nil, List.length_cons, List.length_nil, Nat.reduceAdd, Nat.reduceSub, List.replicate_succ, List.replicate_zero, List.cons_append, List.nil_append, List.set_cons_succ, List.set_cons_zero]
  refine ⟨_, rfl, sc, ns, rfl, hs, fun a b H1 s1 F1 => ?_⟩
  clear s1 hs
  try simp only [gName, List.set_cons_succ, List.set_cons_zero]
  refine ⟨_, rfl, a, b, 4, 3, rfl, F1, by decide, by decide, by decide, by decide, by decide, fun B x pf pr t bans H2 bk2 F2 s2 => ?_⟩
  clear s2 F1
  have G := bk2.gd
  have tk := G.tb
  obtain ⟨vt, lt, ts, wt, hb, lb⟩ := good_all31 G
  have srows := lawAll_str31 (bans := bans) ts
  have t4 := bk2.t4
  try simp only [gName, List.set_cons_succ, List.set_cons_zero]
  refine ⟨_, rfl, B, t, bans, rfl, bk2.book.same rm_le, vt, lt, ts, wt, hb, lb, fun L us H3 s3 hL0 hL pz => ?_⟩
  have F3 : Fl31 b H3 a := flo31.same s3 F2
  have bk3 := bk2.same (rm_same (S := [a, b]) s3)
  have nL : L ∉ [a, b] := flo31.out F2 hL0
  have hL3 : Bs31 a b H3 L = some (.lst us) := (rm_at nL).trans hL
  have pz3 : Paired (ZRow31 K (Bs31 a b H3)) us (lawAll t bans) := prd_imp (fun v r h => zr_nl31 F3.all h) pz
  clear s3 bk2 F2 pz hL hL0
  try simp only [gName, List.set_cons_succ, List.set_cons_zero]
  refine ⟨_, rfl, _, rfl, a, b, B, x, pf, pr, t, bans, 6, rfl, F3, bk3, by decide, fun vp os H4 hp oo F4 s4 => ?_⟩
  have W4 : St31 K C a b B x pf pr t bans vp os L us H4 := ⟨F4, bk3.same s4, hp, oo, s4 _ _ hL3, prd_imp (fun _ _ h => h.same s4) pz3⟩
  clear F3 bk3 s4 hL3 pz3 hp F4
  obtain ⟨gF4, vt4, gP4, dP4⟩ := W4.gets
  try simp only [gName, List.set_cons_succ, List.set_cons_zero]
  refine ⟨_, rfl, B, _, rfl, gP4, _, rfl, by show 2 ≤ sizeLine; decide, fun g og hg hog => ?_⟩
  have skept := (sh_kept31 tk oo (by decide)).fin (by decide) (by decide)
  have sg := new_same hg (.frz og (.tup [vt4, vp]))
  refine ⟨.ref g, .tuple [tabD t, outsD os], rfl, .tup (.inl (.inr ⟨og, upd_same⟩)) (.cons (dp_same (rm_le.trans sg) dP4) (.cons (dp_same (rm_le.trans sg) W4.ps) .nil)), skept.1, skept.2.1, skept.2.2.1, skept.2.2.2, ?_⟩
  have W5 := W4.move (flo31.same sg W4.fl) (rm_same sg)
  generalize L2.upd H4 g (.frz og (.tup [vt4, vp])) = H5 at W5
  clear W4 gF4 gP4 dP4 sg hg
  obtain ⟨kept, hk⟩ : ∃ kept, (PyData.tuple [tabD t, outsD os]).shown = kept := ⟨_, rfl⟩
  rw [hk]
  try simp only [gName, List.set_cons_succ, List.set_cons_zero]
  refine ⟨_, rfl, by decide, by decide, ?_⟩
  refine for_range (lo := 0) (n := 4) (fun i σ H' => ∃ f6 f7 f8 f9 f10 : Option V, σ = [some (.ref sc), some (.ref a), some (.ref B), some (.ref L), some vp, some (.str kept), f6, f7, f8, f9, f10] ∧ Fl31 b H' a ∧ Same (Bs31 a b H5) (Bs31 a b H')) ⟨none, none, none, none, none, rfl, W5.fl, Same.refl _⟩ ?_ ?_
  · rintro i σ H6 hi ⟨f6, f7, f8, f9, f10, rfl, F6, s6⟩
    have W6 := W5.move F6 s6
    try simp only [gName, List.set_cons_succ, List.set_cons_zero]
    obtain ⟨gF6, vt6, gP6, dP6⟩ := W6.gets
    have los := oo.ln
    have ouw := outs_w31 tk oo
    have oks : ∀ o ∈ os, PyData.strOk o.2 = true := fun o ho => word_ok (ouw o ho).2.2
    have ostr : OStr os := fun o ho => ⟨fun e he => ⟨word_ok ((ouw o ho).1 e he).1, word_ok ((ouw o ho).1 e he).2⟩, by have := (ouw o ho).2.1; omega⟩
    have wow : ∀ row, word (wordOf os row) = true := wordOf_word31 fun o ho => (ouw o ho).2.2
    refine ⟨_, rfl, _, rfl, a, b, [a, b], vp, outsD os, rfl, F6, List.mem_cons_self, List.mem_cons_of_mem _ List.mem_cons_self, flo31.alive F6, W6.ps, noL_outs31 os, deep_outs31 (by omega) (fun o ho => by have := (ouw o ho).2.1; omega), fun vh eh H7 dh th F7 s7 => ?_⟩
    have W7 := W6.move F7 s7
    obtain ⟨oy, oe, ok1, ok2⟩ := outs_good31 tk oo (by decide) th
    have s57 := s6.trans s7
    clear W6 F6 s6 s7 gF6 gP6 dP6
    try simp only [gName, List.set_cons_succ, List.set_cons_zero]
    refine seq_cut (fun σ H' => ∃ f8 f9 : Option V, σ = [some (.ref sc), some (.ref a), some (.ref B), some (.ref L), some vp, some (.str kept), some (.int (0 + (i : Int))), some vh, f8, f9, f10] ∧ Fl31 b H' a ∧ Same (Bs31 a b H7) (Bs31 a b H') ∧ (lawAll t bans ≠ [] → ∃ vr row, f8 = some vr ∧ ZRow31 K (Bs31 a b H') vr row ∧ row ∈ lawAll t bans)) ?_ (fun join => ?_)
    · rintro σ H8 ⟨f8, f9, rfl, F8, s8, hr8⟩
      have W8 := W7.move F8 s8
      obtain ⟨gF8, vt8, gP8, dP8⟩ := W8.gets
      obtain ⟨q8, ys8, rfl, hq8, hys8⟩ := dp_tup31 dP8
      have ly8 := dps_len hys8
      rw [List.length_map] at ly8
      try simp only [gName, List.set_cons_succ, List.set_cons_zero]
      refine ⟨_, rfl, _, rfl, B, _, rfl, gP8, _, rfl, _, rfl, B, _, rfl, gP8, q8, ys8, rfl, .inr (seqT_same rm_le hq8), _, _, rfl, rfl, a, b, t.length + 1, (by show [V.ref a, V.int ((ys8.length : Int) + 1)] = _; rw [ly8]; rfl), F8, by omega, by omega, fun r H9 hr9 F9 s9 => ?_⟩
      refine ⟨a, b, [a, b], .ref q8, t, r, rfl, F9, List.mem_cons_self, List.mem_cons_of_mem _ List.mem_cons_self, flo31.alive F9, dp_same s9 dP8, by omega, tk.nm.1, vt, fun vl l H10 dl fz hl F10 s10 => ?_⟩
      have N0 : Known t l := ⟨by have := hl.ln; omega, hl.nd, hl.of⟩
      have u10 := s8.trans (s9.trans s10)
      replace hr8 : lawAll t bans ≠ [] → ∃ vr row, f8 = some vr ∧ ZRow31 K (Bs31 a b H10) vr row ∧ row ∈ lawAll t bans := fun ne => by
        obtain ⟨vr, row, e1, e2, e3⟩ := hr8 ne
        exact ⟨vr, row, e1, e2.same (s9.trans s10), e3⟩
      clear W8 F8 s8 gF8 gP8 dP8 hq8 hys8 ly8 s9 F9 s10 hl
      have W10 := W7.move F10 u10
      try simp only [gName, List.set_cons_succ, List.set_cons_zero]
      refine seq_cut (fun σ H' => ∃ (f8 : Option V) (vl : V) (l : List Pr), σ = [some (.ref sc), some (.ref a), some (.ref B), some (.ref L), some vp, some (.str kept), some (.int (0 + (i : Int))), some vh, f8, f9, some vl] ∧ Fl31 b H' a ∧ Same (Bs31 a b H7) (Bs31 a b H') ∧ Dp K (Bs31 a b H') vl (ruleD l) ∧ FaZ K (Bs31 a b H') vl (ruleD l) ∧ Known t l) ?_ (fun join2 => ?_)
      · clear N0 fz dl hr8 W10 u10 F10
        rintro σ H11 ⟨f8, vl, l, rfl, F11, u11, dl, fz, N⟩
        have W11 := W7.move F11 u11
        have rl : RStr l := fun e he => by
          obtain ⟨ws, h1, h2⟩ := N.of e he
          exact ⟨(ts _ h1).1, (ts _ h1).2 _ h2⟩
        have ll := N.hi
        try simp only [gName, List.set_cons_succ, List.set_cons_zero]
        refine ⟨_, rfl, _, rfl, _, rfl, B, vp, vl, t, bans, os, l, rfl, W11.bk.book.same rm_le, vt, lt, ts, wt, hb, lb, dp_same rm_le W11.ps, ostr, oks, dp_same rm_le dl, rl, by omega, fun H12 s12 => ?_⟩
        have eow : (fills (rsB31 t bans) l t).map (wordOf os) = ((lawAll t bans).filter (within l)).map (wordOf os) := by rw [fills_law31 G N]
        have wws : ∀ x ∈ ((lawAll t bans).filter (within l)).map (wordOf os), word x = true := fun x hx => by
          obtain ⟨row, _, rfl⟩ := List.mem_map.mp hx
          exact wow row
        have sho := sh_opt31 wws
        generalize ((lawAll t bans).filter (within l)).map (wordOf os) = wl at eow wws sho
        generalize eo : oneWord wl = ow at sho
        have u12 := rm_same (S := [a, b]) s12
        have F12 : Fl31 b H12 a := flo31.same s12 F11
        have W12 := W11.move F12 u12
        have dl12 := dp_same u12 dl
        obtain ⟨gF12, _⟩ := W12.gets
        have fz12 : FaZ K (Bs31 a b H12) vl (ruleD l) := FaZ.same u12 fz
        obtain ⟨kd1, kd2, kd3⟩ := known_facts tk N (frule_D31 l)
        clear W11 F11 s12 fz dl
        try simp only [gName, List.set_cons_succ, List.set_cons_zero]
        -- asked, in any form
        refine ⟨_, rfl, B, _, rfl, gF12, _, rfl, _, rfl, _, rfl, a, b, [a, b], vl, ruleD l, rfl, F12, List.mem_cons_self, List.mem_cons_of_mem _ List.mem_cons_self, flo31.alive F12, dl12, noL_rule31 l, deep_rule31 (n := 2) (by omega), fun v2 e2 H13 d2 t2 F13 s13 => ⟨by show 3 ≤ sizeLine; decide, fun g og hg hog => ?_⟩⟩
        have W13 := W12.move F13 s13
        have t13 := new_same hg (.frz og (.tup [V.ref x, vh, v2]))
        obtain ⟨kf1, kf2, kf3⟩ := known_facts tk N (frule31 t2)
        obtain ⟨gs2, egs2, _⟩ := frule31 t2
        have dh13 := dh.same (u11.trans (u12.trans s13))
        refine rep_ask31 (c := false) (rs := rsB31 t bans) (o := eh) (d := e2) (e := toldD (optD ow)) (.inl (.inr ⟨og, upd_same⟩)) ((W13.bk.fr.same rm_le).same t13) ((⟨dp_same rm_le dh13.dp, ok1, ok2⟩ : Ocs K H13 vh eh).same t13) ((⟨d2.dp, kf3, fun _ => d2.fz egs2⟩ : Fcs K (Bs31 a b H13) t v2 e2).same (rm_le.trans t13)) (by rw [ask_s31 oy kf1, oe, kf2, eow, eo]) (sh_told31 sho) (mk_tup (fun x h => absurd h List.not_mem_nil) (by rfl) (mkl_cons (mk_str "told") (mkl_cons (mk_var (i := 9) (by rfl) (optV_dp _)) mkl_nil))) fun H14 s14 => iteF (nxt ?_)
        have F14 : Fl31 b H14 a := flo31.same (t13.trans s14) F13
        have u14 := s13.trans (rm_same (S := [a, b]) (t13.trans s14))
        have W14 := W12.move F14 u14
        obtain ⟨gF14, _⟩ := W14.gets
        obtain ⟨oc14, oc14y, oc14o⟩ := W14.ocs
        have dl14 := dp_same u14 dl12
        have fz14 : FaZ K (Bs31 a b H14) vl (ruleD l) := FaZ.same u14 fz12
        clear W13 t13 s14 hg d2 dh13 W12 F13 gF12
        try simp only [gName, List.set_cons_succ, List.set_cons_zero]
        -- asked, by name
        have so := sho.fin (by decide) (by decide)
        refine ⟨_, rfl, _, rfl, _, rfl, B, _, rfl, gF14, rfl, x, pf, pr, t, rsB31 t bans, vp, vl, outsD os, ruleD l, rfl, W14.bk.fr.same rm_le, oc14, ((⟨dl14, kd3, fun _ => fz14⟩ : Fcs K (Bs31 a b H14) t vl (ruleD l)).same rm_le), (fun no => by rw [oc14y] at no; cases no), (fun _ no => by rw [kd1] at no; cases no), fun _ _ H15 s15 => ?_⟩
        rw [oc14o, facts_ruleD31, eow, eo]
        refine ⟨_, optD ow, rfl, optV_dp _, so.1, so.2.1, so.2.2.1, so.2.2.2, _, rfl, _, optD ow, rfl, optV_dp _, so.1, so.2.1, so.2.2.1, so.2.2.2, rfl, _, rfl, ?_⟩
        rw [decide_eq_true rfl]
        exact iteF (nxt ⟨_, _, _, _, _, rfl, flo31.same s15 F14, s57.trans (u11.trans (u12.trans (u14.trans (rm_same s15))))⟩)
      · refine test_rows31 (i := 3) rfl W10.ls W10.rw_ srows fun H11 s11 => ?_
        have F11 : Fl31 b H11 a := flo31.same s11 F10
        have u11 := rm_same (S := [a, b]) s11
        have plain : ∀ (H' : Hp), Fl31 b H' a → Same (Bs31 a b H11) (Bs31 a b H') → ∃ (f8' : Option V) (vl' : V) (l' : List Pr), [some (.ref sc), some (.ref a), some (.ref B), some (.ref L), some vp, some (.str kept), some (.int (0 + (i : Int))), some vh, f8, f9, some vl] = [some (.ref sc), some (.ref a), some (.ref B), some (.ref L), some vp, some (.str kept), some (.int (0 + (i : Int))), some vh, f8', f9, some vl'] ∧ Fl31 b H' a ∧ Same (Bs31 a b H7) (Bs31 a b H') ∧ Dp K (Bs31 a b H') vl' (ruleD l') ∧ FaZ K (Bs31 a b H') vl' (ruleD l') ∧ Known t l' := fun H' F' s' =>
          ⟨f8, vl, l, rfl, F', u10.trans (u11.trans s'), dp_same (u11.trans s') dl, FaZ.same (u11.trans s') fz, N0⟩
        cases ce : decide (lawAll t bans = []) with
        | true => exact iteF (nxt (join2 _ _ (plain H11 F11 (Same.refl _))))
        | false =>
        refine iteT ?_
        refine ⟨_, rfl, a, b, 3, rfl, F11, by decide, by decide, fun r2 H12 hr12 F12 s12 => ⟨_, _, rfl, rfl, _, rfl, iteB (fun e => ?_) (fun e => nxt (join2 _ _ (plain H12 F12 s12)))⟩⟩
        obtain ⟨vr, row, rfl, hzr, hrm⟩ := hr8 (of_decide_eq_false ce)
        have hzr12 := hzr.same (u11.trans s12)
        obtain ⟨qr, zs, rfl, hqr, hzs⟩ := hzr12
        have lzs := dps_len hzs
        rw [List.length_map] at lzs
        have lrow := law_len31 hrm
        have Nr := chs_known31 tk.nm.1 (List.mem_filter.mp hrm).1
        refine ⟨_, rfl, _, rfl, a, b, qr, zs, rfl, F12, .inr hqr.sqT, by omega, fun p ws H13 hp hpw pm F13 s13 => ?_⟩
        have np : p ∉ [a, b] := flo31.out F12 hp
        have hzs13 := dps_same s13 hzs
        obtain ⟨es, pme, hes⟩ := perm_dps31 pm hzs13
        obtain ⟨l2, pml, rfl⟩ := perm_map31 pme row rfl
        refine ⟨_, rfl, _, rfl, qr, zs, rfl, .inr (hqr.same (s13.trans rm_le)).sqT, _, _, rfl, rfl, a, b, zs.length + 1, rfl, F13, by omega, by omega, fun r3 H14 hr14 F14 s14 => ⟨_, rfl, ?_⟩⟩
        refine sl_toI31 (n := r3) rfl (at31 s14 np hpw) fun q2 hq2 => ⟨q2, _, rfl, .inl ⟨SqL.of upd_same, fun z oz hz hoz => ?_⟩⟩
        have n2 : q2 ∉ [a, b] := flo31.out F14 hq2
        have F15 := flo31.off (o := .lst (ws.take r3)) n2 F14
        have s15 := off_upd31 (a := a) (b := b) (o := .lst (ws.take r3)) hq2
        generalize L2.upd H14 q2 (.lst (ws.take r3)) = H15 at hz F15 s15
        have nz : z ∉ [a, b] := flo31.out F15 hz
        have F16 := flo31.off (o := .frz oz (.tup (ws.take r3))) nz F15
        have s16 := off_upd31 (a := a) (b := b) (o := .frz oz (.tup (ws.take r3))) hz
        have ez : Bs31 a b (L2.upd H15 z (.frz oz (.tup (ws.take r3)))) z = some (.frz oz (.tup (ws.take r3))) := (rm_at nz).trans upd_same
        generalize L2.upd H15 z (.frz oz (.tup (ws.take r3))) = H16 at F16 s16 ez
        have dt : DpAll K (Bs31 a b H16) (ws.take r3) ((l2.take r3).map pD) := by
          rw [List.map_take]
          exact dps_take _ (dps_same (s14.trans (s15.trans s16)) hes)
        have Nl : Known t (l2.take r3) := by
          have hl2 := pml.length_eq
          refine ⟨by rw [List.length_take]; omega, ?_, fun e he => Nr.of e (pml.mem_iff.mp (List.mem_of_mem_take he))⟩
          rw [List.map_take]
          exact (List.take_sublist _ _).nodup ((pml.map _).nodup_iff.mpr Nr.nd)
        exact join2 _ _ ⟨_, _, l2.take r3, rfl, F16, u10.trans (u11.trans (s12.trans (s13.trans (s14.trans (s15.trans s16))))), .tup (.inl (.inr ⟨oz, ez⟩)) dt, ⟨z, _, _, rfl, .inr ⟨oz, ez, hoz⟩, rfl, dt⟩, Nl⟩
    · refine test_rows31 (i := 3) rfl W7.ls W7.rw_ srows fun H8 s8 => ?_
      have F8 : Fl31 b H8 a := flo31.same s8 F7
      have W8 := W7.move F8 (rm_same s8)
      have u8 := rm_same (S := [a, b]) s8
      cases ce : decide (lawAll t bans = []) with
      | true => exact iteF (nxt (join _ _ ⟨_, _, rfl, F8, u8, fun ne => absurd (of_decide_eq_true ce) ne⟩))
      | false =>
      refine iteT ?_
      have ne : lawAll t bans ≠ [] := of_decide_eq_false ce
      have lus := prd_len W8.rw_
      have pos : 0 < (lawAll t bans).length := List.length_pos_iff.mpr ne
      have lrows := lawAll_len31 (bans := bans) wt
      refine ⟨_, rfl, _, rfl, a, b, L, us, rfl, F8, .inl (SqL.of W8.ls), by omega, by omega, fun j vr H9 hvr F9 s9 => ?_⟩
      have W9 := W8.move F9 s9
      obtain ⟨row, hrow, hzr⟩ := prd_at W9.rw_ hvr
      have hrm := List.mem_of_getElem? hrow
      have rs := srows row hrm
      have u9 := u8.trans s9
      clear W8 F8 u8 s8 s9 hrow hvr
      try simp only [gName, List.set_cons_succ, List.set_cons_zero]
      refine ⟨_, rfl, _, rfl, vp, vr, os, row, rfl, dp_same rm_le W9.ps, dp_same rm_le hzr.dp, ostr, rs, fun H10 s10 => ?_⟩
      have F10 : Fl31 b H10 a := flo31.same s10 F9
      have W10 := W9.move F10 (rm_same s10)
      have hzr10 := hzr.same (rm_same (S := [a, b]) s10)
      have u10 := u9.trans (rm_same (S := [a, b]) s10)
      obtain ⟨gF10, _⟩ := W10.gets
      clear W9 F9 u9 s10 hzr
      have lrow := law_len31 hrm
      have N := chs_known31 tk.nm.1 (List.mem_filter.mp hrm).1
      try simp only [gName, List.set_cons_succ, List.set_cons_zero]
      -- asked, in any form
      refine ⟨_, rfl, B, _, rfl, gF10, _, rfl, _, rfl, _, rfl, a, b, [a, b], vr, ruleD row, rfl, F10, List.mem_cons_self, List.mem_cons_of_mem _ List.mem_cons_self, flo31.alive F10, hzr10.dp, noL_rule31 row, deep_rule31 (n := 2) (by omega), fun v2 e2 H11 d2 t2 F11 s11 => ⟨by show 3 ≤ sizeLine; decide, fun g og hg hog => ?_⟩⟩
      have W11 := W10.move F11 s11
      have t11 := new_same hg (.frz og (.tup [V.ref x, vh, v2]))
      obtain ⟨kf1, kf2, kf3⟩ := known_facts tk N (frule31 t2)
      obtain ⟨gs2, egs2, _⟩ := frule31 t2
      have dh11 := dh.same (u10.trans s11)
      refine rep_ask31 (c := true) (rs := rsB31 t bans) (o := eh) (d := e2) (e := toldD (.str (wordOf os row))) (.inl (.inr ⟨og, upd_same⟩)) ((W11.bk.fr.same rm_le).same t11) ((⟨dp_same rm_le dh11.dp, ok1, ok2⟩ : Ocs K H11 vh eh).same t11) ((⟨d2.dp, kf3, fun _ => d2.fz egs2⟩ : Fcs K (Bs31 a b H11) t v2 e2).same (rm_le.trans t11)) (by rw [ask_o31 oy (fill_yes31 G hrm (frule31 t2)), oe, kf2]) (sh_told31 (sh_w31 (wow row))) (mk_tup (fun x h => absurd h List.not_mem_nil) (by rfl) (mkl_cons (mk_str "told") (mkl_cons (mk_var (i := 9) (by rfl) (.str _)) mkl_nil))) fun H12 s12 => iteF (nxt ?_)
      have F12 : Fl31 b H12 a := flo31.same (t11.trans s12) F11
      have u12 := s11.trans (rm_same (S := [a, b]) (t11.trans s12))
      have W12 := W10.move F12 u12
      have hzr12 := hzr10.same u12
      obtain ⟨gF12, _⟩ := W12.gets
      obtain ⟨oc12, oc12y, oc12o⟩ := W12.ocs
      clear W11 t11 s12 hg d2 dh11 W10 F10 F11 gF10
      try simp only [gName, List.set_cons_succ, List.set_cons_zero]
      -- asked, by name
      have sw := (sh_w31 (wow row)).fin (by decide) (by decide)
      refine ⟨_, rfl, _, rfl, _, rfl, B, _, rfl, gF12, rfl, x, pf, pr, t, rsB31 t bans, vp, vr, outsD os, ruleD row, rfl, W12.bk.fr.same rm_le, oc12, ((⟨hzr12.dp, rule_fok31 rs, fun _ => hzr12.fz⟩ : Fcs K (Bs31 a b H12) t vr (ruleD row)).same rm_le), (fun no => by rw [oc12y] at no; cases no), (fun _ no => by rw [fill_yes31 G hrm (frule_D31 row)] at no; cases no), fun _ _ H13 s13 => ?_⟩
      rw [oc12o, facts_ruleD31]
      refine ⟨_, .str (wordOf os row), rfl, .str _, sw.1, sw.2.1, sw.2.2.1, sw.2.2.2, _, rfl, _, .str (wordOf os row), rfl, .str _, sw.1, sw.2.1, sw.2.2.1, sw.2.2.2, rfl, _, rfl, ?_⟩
      rw [decide_eq_true rfl]
      have u13 := rm_same (S := [a, b]) s13
      exact iteF (nxt (join _ _ ⟨_, _, rfl, flo31.same s13 F12, u10.trans (u12.trans u13), fun _ => ⟨vr, row, rfl, hzr12.same u13, hrm⟩⟩))
  · rintro σ H6 ⟨f6, f7, f8, f9, f10, rfl, F6, s6⟩
    have W6 := W5.move F6 s6
    refine ⟨_, rfl, _, rfl, _, rfl, _, rfl, a, b, B, x, pf, pr, t, bans, vp, os, L, us, rfl, W6, fun H7 F7 s7 => ⟨_, rfl, iteT ?_⟩⟩
    have W7 := W6.move F7 s7
    obtain ⟨gF7, vt7, gP7, dP7⟩ := W7.gets
    refine ⟨_, rfl, B, _, rfl, gP7, _, rfl, by show 2 ≤ sizeLine; decide, fun g og hg hog => ?_⟩
    have sg := new_same hg (.frz og (.tup [vt7, vp]))
    refine ⟨.ref g, .tuple [tabD t, outsD os], rfl, .tup (.inl (.inr ⟨og, upd_same⟩)) (.cons (dp_same (rm_le.trans sg) dP7) (.cons (dp_same (rm_le.trans sg) W7.ps) .nil)), skept.1, skept.2.1, skept.2.2.1, skept.2.2.2, _, rfl, rfl, ?_⟩
    rw [hk, decide_eq_true rfl]
    exact k _
end
end Q
set_option Elab.async false
set_option linter.all false
set_option maxRecDepth 100000
set_option maxHeartbeats 8000000
namespace Q
open PySem L2 XD
theorem kit_own {K : PySem.W.Frag} {C D : Addr} {b : Bool} (hc : PySem.W.isClsIn K D = true) (ht : PySem.W.typeIn K (.ref D) = some (.type "type")) (s : PySem.W.subIn K (.ref C) (.ref D) = some b) (o : PySem.W.subIn K (.ref D) (.ref D) = some true) :
    PySem.W.kitOne K (.ref C) (.ref D) = some b := by
  unfold PySem.W.kitOne
  by_cases e : (Value.ref C == Value.ref D) = true
  · rw [if_pos e]
    have q : C = D := Value.ref.inj (beq_iff_eq.mp e)
    subst q
    rw [s] at o
    exact o.symm
  · rw [if_neg e]
    have hc' : (PySem.W.clsIn K D).isSome = true := hc
    show (if ((PySem.W.clsIn K D).isSome && PySem.W.typeIn K (.ref D) == some (.type "type")) = true then PySem.W.subIn K (.ref C) (.ref D) else none) = some b
    rw [hc', ht]
    exact s
theorem kit_data {K : PySem.W.Frag} {D : Addr} {T : String} {b : Bool} (hc : PySem.W.isClsIn K D = true) (ht : PySem.W.typeIn K (.ref D) = some (.type "type")) (s : PySem.W.subIn K (.type T) (.ref D) = some b) : PySem.W.kitOne K (.type T) (.ref D) = some b := by
  unfold PySem.W.kitOne
  rw [if_neg (show ¬ ((Value.type T == Value.ref D) = true) from fun e => by cases beq_iff_eq.mp e)]
  have hc' : (PySem.W.clsIn K D).isSome = true := hc
  show (if ((PySem.W.clsIn K D).isSome && PySem.W.typeIn K (.ref D) == some (.type "type")) = true then PySem.W.subIn K (.type T) (.ref D) else none) = some b
  rw [hc', ht]
  exact s
theorem not_first {K : PySem.W.Frag} {D : Addr} {T : String} (s : PySem.W.subIn K (.type T) (.ref D) = some false) : PySem.W.notFirst K D (.type T) = true := by
  unfold PySem.W.notFirst
  rw [s]
  simp
theorem fn_of_ty {K : PySem.W.Frag} {f : Addr} (h : PySem.W.typeIn K (.ref f) = some (.type "function")) : PySem.W.isFn K (.ref f) = true := by
  unfold PySem.W.isFn
  rw [h]
  simp
theorem data_all {p : PyData → Prop} (h1 : p .none) (h2 : ∀ b, p (.bool b)) (h3 : ∀ i, p (.int i)) (h4 : ∀ s, p (.str s)) (h5 : ∀ xs, p (.list xs)) (h6 : ∀ xs, p (.tuple xs)) : ∀ d : PyData, (∀ kvs, d ≠ .dict kvs) → p d := fun d h => by
  cases d with
  | dict kvs => exact absurd rfl (h kvs)
  | none => exact h1
  | bool b => exact h2 b
  | int i => exact h3 i
  | str s => exact h4 s
  | list xs => exact h5 xs
  | tuple xs => exact h6 xs
theorem all_mk {l : PySem.W.OpenLaw} {w : World} {K : PySem.W.Frag} {h : Heap} {mg : Str → Option Value} {fa c0 i0 c1 i1 cB cF fInit fFieldsM fRulesM fEqM fIsRow fIsPair fIsSmall fIsWord fUnlike fAreFacts fInSeq fInTuples fRowsThatFit fFillings fIsFilling fBars fOneStands fAreFields fAreValues fAreRules fWays fEach fCheckOutcomes fOutcomeOf fOutcome fSettled fLStart fLMixed fLDraw fLOne fLTurned fLListed fLWords fLBook fLLot fLIsIn fLAll fLPairs fLWord fLBadPairs fLAsked fLSettledWord fLBadLot fLBadFilling fLRefusalsRight fLaw : Addr} (X : K.In h) (G : h.Ns mainGlobals mg) (hfa : mg "law" = some (.ref fa))
    {odc0 anc0 odc1 anc1 odInit anInit odFieldsM anFieldsM odRulesM anRulesM odEqM anEqM odIsRow anIsRow odIsPair anIsPair odIsSmall anIsSmall odIsWord anIsWord odUnlike anUnlike odAreFacts anAreFacts odInSeq anInSeq odInTuples anInTuples odRowsThatFit anRowsThatFit odFillings anFillings odIsFilling anIsFilling odBars anBars odOneStands anOneStands odAreFields anAreFields odAreValues anAreValues odAreRules anAreRules odWays anWays odEach anEach odCheckOutcomes anCheckOutcomes odOutcomeOf anOutcomeOf odOutcome anOutcome odSettled anSettled odLStart anLStart odLMixed anLMixed odLDraw anLDraw odLOne anLOne odLTurned anLTurned odLListed anLListed odLWords anLWords odLBook anLBook odLLot anLLot odLIsIn anLIsIn odLAll anLAll odLPairs anLPairs odLWord anLWord odLBadPairs anLBadPairs odLAsked anLAsked odLSettledWord anLSettledWord odLBadLot anLBadLot odLBadFilling anLBadFilling odLRefusalsRight anLRefusalsRight odLaw anLaw : Option Addr} {slc0 slc1 slInit slFieldsM slRulesM slEqM slIsRow slIsPair slIsSmall slIsWord slUnlike slAreFacts slInSeq slInTuples slRowsThatFit slFillings slIsFilling slBars slOneStands slAreFields slAreValues slAreRules slWays slEach slCheckOutcomes slOutcomeOf slOutcome slSettled slLStart slLMixed slLDraw slLOne slLTurned slLListed slLWords slLBook slLLot slLIsIn slLAll slLPairs slLWord slLBadPairs slLAsked slLSettledWord slLBadLot slLBadFilling slLRefusalsRight slLaw : Array (Option Value)} {occ0 dcc0 pmc0 cdc0 ctc0 occ1 dcc1 pmc1 cdc1 ctc1 ocInit kVInit dcInit pmInit cdInit ctInit ocFieldsM kVFieldsM dcFieldsM pmFieldsM cdFieldsM ctFieldsM ocRulesM kVRulesM dcRulesM pmRulesM cdRulesM ctRulesM ocEqM kVEqM dcEqM pmEqM cdEqM ctEqM ocIsRow kVIsRow dcIsRow pmIsRow cdIsRow ctIsRow ocIsPair kVIsPair dcIsPair pmIsPair cdIsPair ctIsPair ocIsSmall kVIsSmall dcIsSmall pmIsSmall cdIsSmall ctIsSmall ocIsWord kVIsWord dcIsWord pmIsWord cdIsWord ctIsWord ocUnlike kVUnlike dcUnlike pmUnlike cdUnlike ctUnlike ocAreFacts kVAreFacts dcAreFacts pmAreFacts cdAreFacts ctAreFacts ocInSeq kVInSeq dcInSeq pmInSeq cdInSeq ctInSeq ocInTuples kVInTuples dcInTuples pmInTuples cdInTuples ctInTuples ocRowsThatFit kVRowsThatFit dcRowsThatFit pmRowsThatFit cdRowsThatFit ctRowsThatFit ocFillings kVFillings dcFillings pmFillings cdFillings ctFillings ocIsFilling kVIsFilling dcIsFilling pmIsFilling cdIsFilling ctIsFilling ocBars kVBars dcBars pmBars cdBars ctBars ocOneStands kVOneStands dcOneStands pmOneStands cdOneStands ctOneStands ocAreFields kVAreFields dcAreFields pmAreFields cdAreFields ctAreFields ocAreValues kVAreValues dcAreValues pmAreValues cdAreValues ctAreValues ocAreRules kVAreRules dcAreRules pmAreRules cdAreRules ctAreRules ocWays kVWays dcWays pmWays cdWays ctWays ocEach kVEach dcEach pmEach cdEach ctEach ocCheckOutcomes kVCheckOutcomes dcCheckOutcomes pmCheckOutcomes cdCheckOutcomes ctCheckOutcomes ocOutcomeOf kVOutcomeOf dcOutcomeOf pmOutcomeOf cdOutcomeOf ctOutcomeOf ocOutcome kVOutcome dcOutcome pmOutcome cdOutcome ctOutcome ocSettled kVSettled dcSettled pmSettled cdSettled ctSettled ocLStart kVLStart dcLStart pmLStart cdLStart ctLStart ocLMixed kVLMixed dcLMixed pmLMixed cdLMixed ctLMixed ocLDraw kVLDraw dcLDraw pmLDraw cdLDraw ctLDraw ocLOne kVLOne dcLOne pmLOne cdLOne ctLOne ocLTurned kVLTurned dcLTurned pmLTurned cdLTurned ctLTurned ocLListed kVLListed dcLListed pmLListed cdLListed ctLListed ocLWords kVLWords dcLWords pmLWords cdLWords ctLWords ocLBook kVLBook dcLBook pmLBook cdLBook ctLBook ocLLot kVLLot dcLLot pmLLot cdLLot ctLLot ocLIsIn kVLIsIn dcLIsIn pmLIsIn cdLIsIn ctLIsIn ocLAll kVLAll dcLAll pmLAll cdLAll ctLAll ocLPairs kVLPairs dcLPairs pmLPairs cdLPairs ctLPairs ocLWord kVLWord dcLWord pmLWord cdLWord ctLWord ocLBadPairs kVLBadPairs dcLBadPairs pmLBadPairs cdLBadPairs ctLBadPairs ocLAsked kVLAsked dcLAsked pmLAsked cdLAsked ctLAsked ocLSettledWord kVLSettledWord dcLSettledWord pmLSettledWord cdLSettledWord ctLSettledWord ocLBadLot kVLBadLot dcLBadLot pmLBadLot cdLBadLot ctLBadLot ocLBadFilling kVLBadFilling dcLBadFilling pmLBadFilling cdLBadFilling ctLBadFilling ocLRefusalsRight kVLRefusalsRight dcLRefusalsRight pmLRefusalsRight cdLRefusalsRight ctLRefusalsRight ocLaw kVLaw dcLaw pmLaw cdLaw ctLaw : Value}
    (g0 : PySem.W.nsIn K mainGlobals "BadValue" = some (some (.ref c0)))
    (ini0 : PySem.W.excInitIn K c0 XM.exTail "Exception.__new__" = true)
    (ovr0 : PySem.W.excOver K c0 XM.exTail = true)
    (tkn0 : PySem.W.takerIn K c0 "at" = some none)
    (sa0 : PySem.W.findIn K (.ref c0) "__setattr__" = some (some (.builtin "object.__setattr__")))
    (ga0 : PySem.W.findIn K (.ref c0) "__getattribute__" = some (some (.builtin "BaseException.__getattribute__")))
    (gg0 : PySem.W.findIn K (.ref c0) "__getattr__" = some none)
    (no0 : PySem.W.findIn K (.ref c0) "at" = some none)
    (ic0 : PySem.W.findIn K (.ref c0) "__init__" = some (some (.ref i0)))
    (tc0 : PySem.W.typeIn K (.ref i0) = some (.type "function"))
    (kc0 : PySem.W.keepIn K (.ref c0) = true)
    (ex0 : PySem.W.subIn K (.ref c0) (.type "BaseException") = some true)
    (ty0 : PySem.W.typeIn K (.ref c0) = some (.type "type"))
    (hd0 : PySem.W.hasDictIn K c0 = true)
    (is0 : PySem.W.isClsIn K c0 = true)
    (cc0 : PySem.W.findIn K (.ref c0) "__class__" = some (some (.builtin "object.__class__")))
    (mo0 : PySem.W.mroIn K c0 (.type "object") = some true)
    (lc0 : K.lookup i0 = some ⟨occ0, odc0, .func (PySem.W.fnOf "__init__" "BadValue.__init__" (defArgs (inClass (sEBadValue) 0)) (defBody (inClass (sEBadValue) 0)) (defScope (inClass (sEBadValue) 0)) .none .none dcc0 pmc0 anc0 cdc0 ctc0), slc0⟩)
    (cc0X : PySem.W.codeIn K cdc0 "BadValue.__init__" = true)
    (s00 : PySem.W.subIn K (.ref c0) (.ref c0) = some true)
    (s01 : PySem.W.subIn K (.ref c0) (.ref c1) = some false)
    (sB0 : PySem.W.subIn K (.ref c0) (.ref cB) = some true)
    (g1 : PySem.W.nsIn K mainGlobals "TooMany" = some (some (.ref c1)))
    (ini1 : PySem.W.excInitIn K c1 XM.exTail "Exception.__new__" = true)
    (ovr1 : PySem.W.excOver K c1 XM.exTail = true)
    (tkn1 : PySem.W.takerIn K c1 "word" = some none)
    (sa1 : PySem.W.findIn K (.ref c1) "__setattr__" = some (some (.builtin "object.__setattr__")))
    (ga1 : PySem.W.findIn K (.ref c1) "__getattribute__" = some (some (.builtin "BaseException.__getattribute__")))
    (gg1 : PySem.W.findIn K (.ref c1) "__getattr__" = some none)
    (no1 : PySem.W.findIn K (.ref c1) "word" = some none)
    (ic1 : PySem.W.findIn K (.ref c1) "__init__" = some (some (.ref i1)))
    (tc1 : PySem.W.typeIn K (.ref i1) = some (.type "function"))
    (kc1 : PySem.W.keepIn K (.ref c1) = true)
    (ex1 : PySem.W.subIn K (.ref c1) (.type "BaseException") = some true)
    (ty1 : PySem.W.typeIn K (.ref c1) = some (.type "type"))
    (hd1 : PySem.W.hasDictIn K c1 = true)
    (is1 : PySem.W.isClsIn K c1 = true)
    (cc1 : PySem.W.findIn K (.ref c1) "__class__" = some (some (.builtin "object.__class__")))
    (mo1 : PySem.W.mroIn K c1 (.type "object") = some true)
    (lc1 : K.lookup i1 = some ⟨occ1, odc1, .func (PySem.W.fnOf "__init__" "TooMany.__init__" (defArgs (inClass (sETooMany) 0)) (defBody (inClass (sETooMany) 0)) (defScope (inClass (sETooMany) 0)) .none .none dcc1 pmc1 anc1 cdc1 ctc1), slc1⟩)
    (cc1X : PySem.W.codeIn K cdc1 "TooMany.__init__" = true)
    (s10 : PySem.W.subIn K (.ref c1) (.ref c0) = some false)
    (s11 : PySem.W.subIn K (.ref c1) (.ref c1) = some true)
    (sB1 : PySem.W.subIn K (.ref c1) (.ref cB) = some true)
    (gB : PySem.W.nsIn K mainGlobals "TalkError" = some (some (.ref cB)))
    (exB : PySem.W.subIn K (.ref cB) (.type "BaseException") = some true)
    (tyB : PySem.W.typeIn K (.ref cB) = some (.type "type"))
    (hdB : PySem.W.hasDictIn K cB = true)
    (isB : PySem.W.isClsIn K cB = true)
    (sBB : PySem.W.subIn K (.ref cB) (.ref cB) = some true)
    (spG : PySem.W.specialIn K (.builtin "object.__class__") "__get__" = some (some (.builtin "getset_descriptor.__get__")))
    (tkG : PySem.W.takesIn K (.builtin "object.__class__") = some true)
    (gF : PySem.W.nsIn K mainGlobals "Form" = some (some (.ref cF)))
    (pgF : PySem.W.plainGet K cF Str.empty = true)
    (hdF : PySem.W.hasDictIn K cF = true)
    (poF : PySem.W.plainOver K cF = true)
    (saF : PySem.W.findIn K (.ref cF) "__setattr__" = some (some (.builtin "object.__setattr__")))
    (nfF : PySem.W.findIn K (.ref cF) "_fields" = some none)
    (nrF : PySem.W.findIn K (.ref cF) "_rules" = some none)
    (ccF : PySem.W.findIn K (.ref cF) "__class__" = some (some (.builtin "object.__class__")))
    (moF : PySem.W.mroIn K cF (.type "object") = some true)
    (isF : PySem.W.isClsIn K cF = true)
    (tyF : PySem.W.typeIn K (.ref cF) = some (.type "type"))
    (sFF : PySem.W.subIn K (.ref cF) (.ref cF) = some true)
    (mkF : PySem.W.makesIn K cF = true)
    (kF : PySem.W.keepIn K (.ref cF) = true)
    (aInit : PySem.W.findIn K (.ref cF) "__init__" = some (some (.ref fInit)))
    (tInit : PySem.W.typeIn K (.ref fInit) = some (.type "function"))
    (lInit : K.lookup fInit = some ⟨ocInit, odInit, .func (PySem.W.fnOf "__init__" "Form.__init__" (defArgs sInit) (defBody sInit) (defScope sInit) .none kVInit dcInit pmInit anInit cdInit ctInit), slInit⟩)
    (cInit : PySem.W.codeIn K cdInit "Form.__init__" = true)
    (kInit : PySem.W.keepIn K (.ref fInit) = true)
    (aFieldsM : PySem.W.findIn K (.ref cF) "fields" = some (some (.ref fFieldsM)))
    (tFieldsM : PySem.W.typeIn K (.ref fFieldsM) = some (.type "function"))
    (lFieldsM : K.lookup fFieldsM = some ⟨ocFieldsM, odFieldsM, .func (PySem.W.fnOf "fields" "Form.fields" (defArgs sFieldsM) (defBody sFieldsM) (defScope sFieldsM) .none kVFieldsM dcFieldsM pmFieldsM anFieldsM cdFieldsM ctFieldsM), slFieldsM⟩)
    (cFieldsM : PySem.W.codeIn K cdFieldsM "Form.fields" = true)
    (kFieldsM : PySem.W.keepIn K (.ref fFieldsM) = true)
    (aRulesM : PySem.W.findIn K (.ref cF) "rules" = some (some (.ref fRulesM)))
    (tRulesM : PySem.W.typeIn K (.ref fRulesM) = some (.type "function"))
    (lRulesM : K.lookup fRulesM = some ⟨ocRulesM, odRulesM, .func (PySem.W.fnOf "rules" "Form.rules" (defArgs sRulesM) (defBody sRulesM) (defScope sRulesM) .none kVRulesM dcRulesM pmRulesM anRulesM cdRulesM ctRulesM), slRulesM⟩)
    (cRulesM : PySem.W.codeIn K cdRulesM "Form.rules" = true)
    (kRulesM : PySem.W.keepIn K (.ref fRulesM) = true)
    (aEqM : PySem.W.findIn K (.ref cF) "__eq__" = some (some (.ref fEqM)))
    (tEqM : PySem.W.typeIn K (.ref fEqM) = some (.type "function"))
    (lEqM : K.lookup fEqM = some ⟨ocEqM, odEqM, .func (PySem.W.fnOf "__eq__" "Form.__eq__" (defArgs sEqM) (defBody sEqM) (defScope sEqM) .none kVEqM dcEqM pmEqM anEqM cdEqM ctEqM), slEqM⟩)
    (cEqM : PySem.W.codeIn K cdEqM "Form.__eq__" = true)
    (kEqM : PySem.W.keepIn K (.ref fEqM) = true)
    (nNoneType : PySem.W.subIn K (.type "NoneType") (.ref cF) = some false)
    (nbool : PySem.W.subIn K (.type "bool") (.ref cF) = some false)
    (nint : PySem.W.subIn K (.type "int") (.ref cF) = some false)
    (nstr : PySem.W.subIn K (.type "str") (.ref cF) = some false)
    (nlist : PySem.W.subIn K (.type "list") (.ref cF) = some false)
    (ntuple : PySem.W.subIn K (.type "tuple") (.ref cF) = some false)
    (aIsRow : PySem.W.nsIn K mainGlobals "is_row" = some (some (.ref fIsRow)))
    (lIsRow : K.lookup fIsRow = some ⟨ocIsRow, odIsRow, .func (PySem.W.fnOf "is_row" "is_row" (defArgs sIsRow) (defBody sIsRow) (defScope sIsRow) .none kVIsRow dcIsRow pmIsRow anIsRow cdIsRow ctIsRow), slIsRow⟩)
    (cIsRow : PySem.W.codeIn K cdIsRow "is_row" = true)
    (kIsRow : PySem.W.keepIn K (.ref fIsRow) = true)
    (aIsPair : PySem.W.nsIn K mainGlobals "is_pair" = some (some (.ref fIsPair)))
    (lIsPair : K.lookup fIsPair = some ⟨ocIsPair, odIsPair, .func (PySem.W.fnOf "is_pair" "is_pair" (defArgs sIsPair) (defBody sIsPair) (defScope sIsPair) .none kVIsPair dcIsPair pmIsPair anIsPair cdIsPair ctIsPair), slIsPair⟩)
    (cIsPair : PySem.W.codeIn K cdIsPair "is_pair" = true)
    (kIsPair : PySem.W.keepIn K (.ref fIsPair) = true)
    (aIsSmall : PySem.W.nsIn K mainGlobals "is_small" = some (some (.ref fIsSmall)))
    (lIsSmall : K.lookup fIsSmall = some ⟨ocIsSmall, odIsSmall, .func (PySem.W.fnOf "is_small" "is_small" (defArgs sIsSmall) (defBody sIsSmall) (defScope sIsSmall) .none kVIsSmall dcIsSmall pmIsSmall anIsSmall cdIsSmall ctIsSmall), slIsSmall⟩)
    (cIsSmall : PySem.W.codeIn K cdIsSmall "is_small" = true)
    (kIsSmall : PySem.W.keepIn K (.ref fIsSmall) = true)
    (aIsWord : PySem.W.nsIn K mainGlobals "is_word" = some (some (.ref fIsWord)))
    (lIsWord : K.lookup fIsWord = some ⟨ocIsWord, odIsWord, .func (PySem.W.fnOf "is_word" "is_word" (defArgs sIsWord) (defBody sIsWord) (defScope sIsWord) .none kVIsWord dcIsWord pmIsWord anIsWord cdIsWord ctIsWord), slIsWord⟩)
    (cIsWord : PySem.W.codeIn K cdIsWord "is_word" = true)
    (kIsWord : PySem.W.keepIn K (.ref fIsWord) = true)
    (aUnlike : PySem.W.nsIn K mainGlobals "are_unlike_words" = some (some (.ref fUnlike)))
    (lUnlike : K.lookup fUnlike = some ⟨ocUnlike, odUnlike, .func (PySem.W.fnOf "are_unlike_words" "are_unlike_words" (defArgs sUnlike) (defBody sUnlike) (defScope sUnlike) .none kVUnlike dcUnlike pmUnlike anUnlike cdUnlike ctUnlike), slUnlike⟩)
    (cUnlike : PySem.W.codeIn K cdUnlike "are_unlike_words" = true)
    (kUnlike : PySem.W.keepIn K (.ref fUnlike) = true)
    (aAreFacts : PySem.W.nsIn K mainGlobals "are_facts" = some (some (.ref fAreFacts)))
    (lAreFacts : K.lookup fAreFacts = some ⟨ocAreFacts, odAreFacts, .func (PySem.W.fnOf "are_facts" "are_facts" (defArgs sAreFacts) (defBody sAreFacts) (defScope sAreFacts) .none kVAreFacts dcAreFacts pmAreFacts anAreFacts cdAreFacts ctAreFacts), slAreFacts⟩)
    (cAreFacts : PySem.W.codeIn K cdAreFacts "are_facts" = true)
    (kAreFacts : PySem.W.keepIn K (.ref fAreFacts) = true)
    (aInSeq : PySem.W.nsIn K mainGlobals "in_sequence" = some (some (.ref fInSeq)))
    (lInSeq : K.lookup fInSeq = some ⟨ocInSeq, odInSeq, .func (PySem.W.fnOf "in_sequence" "in_sequence" (defArgs sInSeq) (defBody sInSeq) (defScope sInSeq) .none kVInSeq dcInSeq pmInSeq anInSeq cdInSeq ctInSeq), slInSeq⟩)
    (cInSeq : PySem.W.codeIn K cdInSeq "in_sequence" = true)
    (kInSeq : PySem.W.keepIn K (.ref fInSeq) = true)
    (aInTuples : PySem.W.nsIn K mainGlobals "in_tuples" = some (some (.ref fInTuples)))
    (lInTuples : K.lookup fInTuples = some ⟨ocInTuples, odInTuples, .func (PySem.W.fnOf "in_tuples" "in_tuples" (defArgs sInTuples) (defBody sInTuples) (defScope sInTuples) .none kVInTuples dcInTuples pmInTuples anInTuples cdInTuples ctInTuples), slInTuples⟩)
    (cInTuples : PySem.W.codeIn K cdInTuples "in_tuples" = true)
    (kInTuples : PySem.W.keepIn K (.ref fInTuples) = true)
    (aRowsThatFit : PySem.W.nsIn K mainGlobals "rows_that_fit" = some (some (.ref fRowsThatFit)))
    (lRowsThatFit : K.lookup fRowsThatFit = some ⟨ocRowsThatFit, odRowsThatFit, .func (PySem.W.fnOf "rows_that_fit" "rows_that_fit" (defArgs sRowsThatFit) (defBody sRowsThatFit) (defScope sRowsThatFit) .none kVRowsThatFit dcRowsThatFit pmRowsThatFit anRowsThatFit cdRowsThatFit ctRowsThatFit), slRowsThatFit⟩)
    (cRowsThatFit : PySem.W.codeIn K cdRowsThatFit "rows_that_fit" = true)
    (kRowsThatFit : PySem.W.keepIn K (.ref fRowsThatFit) = true)
    (aFillings : PySem.W.nsIn K mainGlobals "fillings" = some (some (.ref fFillings)))
    (lFillings : K.lookup fFillings = some ⟨ocFillings, odFillings, .func (PySem.W.fnOf "fillings" "fillings" (defArgs sFillings) (defBody sFillings) (defScope sFillings) .none kVFillings dcFillings pmFillings anFillings cdFillings ctFillings), slFillings⟩)
    (cFillings : PySem.W.codeIn K cdFillings "fillings" = true)
    (kFillings : PySem.W.keepIn K (.ref fFillings) = true)
    (aIsFilling : PySem.W.nsIn K mainGlobals "is_filling" = some (some (.ref fIsFilling)))
    (lIsFilling : K.lookup fIsFilling = some ⟨ocIsFilling, odIsFilling, .func (PySem.W.fnOf "is_filling" "is_filling" (defArgs sIsFilling) (defBody sIsFilling) (defScope sIsFilling) .none kVIsFilling dcIsFilling pmIsFilling anIsFilling cdIsFilling ctIsFilling), slIsFilling⟩)
    (cIsFilling : PySem.W.codeIn K cdIsFilling "is_filling" = true)
    (kIsFilling : PySem.W.keepIn K (.ref fIsFilling) = true)
    (aBars : PySem.W.nsIn K mainGlobals "_bars" = some (some (.ref fBars)))
    (lBars : K.lookup fBars = some ⟨ocBars, odBars, .func (PySem.W.fnOf "_bars" "_bars" (defArgs sBars) (defBody sBars) (defScope sBars) .none kVBars dcBars pmBars anBars cdBars ctBars), slBars⟩)
    (cBars : PySem.W.codeIn K cdBars "_bars" = true)
    (kBars : PySem.W.keepIn K (.ref fBars) = true)
    (aOneStands : PySem.W.nsIn K mainGlobals "_one_stands" = some (some (.ref fOneStands)))
    (lOneStands : K.lookup fOneStands = some ⟨ocOneStands, odOneStands, .func (PySem.W.fnOf "_one_stands" "_one_stands" (defArgs sOneStands) (defBody sOneStands) (defScope sOneStands) .none kVOneStands dcOneStands pmOneStands anOneStands cdOneStands ctOneStands), slOneStands⟩)
    (cOneStands : PySem.W.codeIn K cdOneStands "_one_stands" = true)
    (kOneStands : PySem.W.keepIn K (.ref fOneStands) = true)
    (aAreFields : PySem.W.nsIn K mainGlobals "_are_fields" = some (some (.ref fAreFields)))
    (lAreFields : K.lookup fAreFields = some ⟨ocAreFields, odAreFields, .func (PySem.W.fnOf "_are_fields" "_are_fields" (defArgs sAreFields) (defBody sAreFields) (defScope sAreFields) .none kVAreFields dcAreFields pmAreFields anAreFields cdAreFields ctAreFields), slAreFields⟩)
    (cAreFields : PySem.W.codeIn K cdAreFields "_are_fields" = true)
    (kAreFields : PySem.W.keepIn K (.ref fAreFields) = true)
    (aAreValues : PySem.W.nsIn K mainGlobals "_are_values" = some (some (.ref fAreValues)))
    (lAreValues : K.lookup fAreValues = some ⟨ocAreValues, odAreValues, .func (PySem.W.fnOf "_are_values" "_are_values" (defArgs sAreValues) (defBody sAreValues) (defScope sAreValues) .none kVAreValues dcAreValues pmAreValues anAreValues cdAreValues ctAreValues), slAreValues⟩)
    (cAreValues : PySem.W.codeIn K cdAreValues "_are_values" = true)
    (kAreValues : PySem.W.keepIn K (.ref fAreValues) = true)
    (aAreRules : PySem.W.nsIn K mainGlobals "_are_rules" = some (some (.ref fAreRules)))
    (lAreRules : K.lookup fAreRules = some ⟨ocAreRules, odAreRules, .func (PySem.W.fnOf "_are_rules" "_are_rules" (defArgs sAreRules) (defBody sAreRules) (defScope sAreRules) .none kVAreRules dcAreRules pmAreRules anAreRules cdAreRules ctAreRules), slAreRules⟩)
    (cAreRules : PySem.W.codeIn K cdAreRules "_are_rules" = true)
    (kAreRules : PySem.W.keepIn K (.ref fAreRules) = true)
    (aWays : PySem.W.nsIn K mainGlobals "_ways_to_fill" = some (some (.ref fWays)))
    (lWays : K.lookup fWays = some ⟨ocWays, odWays, .func (PySem.W.fnOf "_ways_to_fill" "_ways_to_fill" (defArgs sWays) (defBody sWays) (defScope sWays) .none kVWays dcWays pmWays anWays cdWays ctWays), slWays⟩)
    (cWays : PySem.W.codeIn K cdWays "_ways_to_fill" = true)
    (kWays : PySem.W.keepIn K (.ref fWays) = true)
    (aEach : PySem.W.nsIn K mainGlobals "_each_once" = some (some (.ref fEach)))
    (lEach : K.lookup fEach = some ⟨ocEach, odEach, .func (PySem.W.fnOf "_each_once" "_each_once" (defArgs sEach) (defBody sEach) (defScope sEach) .none kVEach dcEach pmEach anEach cdEach ctEach), slEach⟩)
    (cEach : PySem.W.codeIn K cdEach "_each_once" = true)
    (kEach : PySem.W.keepIn K (.ref fEach) = true)
    (aCheckOutcomes : PySem.W.nsIn K mainGlobals "check_outcomes" = some (some (.ref fCheckOutcomes)))
    (lCheckOutcomes : K.lookup fCheckOutcomes = some ⟨ocCheckOutcomes, odCheckOutcomes, .func (PySem.W.fnOf "check_outcomes" "check_outcomes" (defArgs sCheckOutcomes) (defBody sCheckOutcomes) (defScope sCheckOutcomes) .none kVCheckOutcomes dcCheckOutcomes pmCheckOutcomes anCheckOutcomes cdCheckOutcomes ctCheckOutcomes), slCheckOutcomes⟩)
    (cCheckOutcomes : PySem.W.codeIn K cdCheckOutcomes "check_outcomes" = true)
    (kCheckOutcomes : PySem.W.keepIn K (.ref fCheckOutcomes) = true)
    (aOutcomeOf : PySem.W.nsIn K mainGlobals "outcome_of" = some (some (.ref fOutcomeOf)))
    (lOutcomeOf : K.lookup fOutcomeOf = some ⟨ocOutcomeOf, odOutcomeOf, .func (PySem.W.fnOf "outcome_of" "outcome_of" (defArgs sOutcomeOf) (defBody sOutcomeOf) (defScope sOutcomeOf) .none kVOutcomeOf dcOutcomeOf pmOutcomeOf anOutcomeOf cdOutcomeOf ctOutcomeOf), slOutcomeOf⟩)
    (cOutcomeOf : PySem.W.codeIn K cdOutcomeOf "outcome_of" = true)
    (kOutcomeOf : PySem.W.keepIn K (.ref fOutcomeOf) = true)
    (aOutcome : PySem.W.nsIn K mainGlobals "outcome" = some (some (.ref fOutcome)))
    (lOutcome : K.lookup fOutcome = some ⟨ocOutcome, odOutcome, .func (PySem.W.fnOf "outcome" "outcome" (defArgs sOutcome) (defBody sOutcome) (defScope sOutcome) .none kVOutcome dcOutcome pmOutcome anOutcome cdOutcome ctOutcome), slOutcome⟩)
    (cOutcome : PySem.W.codeIn K cdOutcome "outcome" = true)
    (kOutcome : PySem.W.keepIn K (.ref fOutcome) = true)
    (aSettled : PySem.W.nsIn K mainGlobals "settled" = some (some (.ref fSettled)))
    (lSettled : K.lookup fSettled = some ⟨ocSettled, odSettled, .func (PySem.W.fnOf "settled" "settled" (defArgs sSettled) (defBody sSettled) (defScope sSettled) .none kVSettled dcSettled pmSettled anSettled cdSettled ctSettled), slSettled⟩)
    (cSettled : PySem.W.codeIn K cdSettled "settled" = true)
    (kSettled : PySem.W.keepIn K (.ref fSettled) = true)
    (aLStart : PySem.W.nsIn K mainGlobals "_law_start" = some (some (.ref fLStart)))
    (lLStart : K.lookup fLStart = some ⟨ocLStart, odLStart, .func (PySem.W.fnOf "_law_start" "_law_start" (defArgs sLStart) (defBody sLStart) (defScope sLStart) .none kVLStart dcLStart pmLStart anLStart cdLStart ctLStart), slLStart⟩)
    (cLStart : PySem.W.codeIn K cdLStart "_law_start" = true)
    (kLStart : PySem.W.keepIn K (.ref fLStart) = true)
    (aLMixed : PySem.W.nsIn K mainGlobals "_law_mixed" = some (some (.ref fLMixed)))
    (lLMixed : K.lookup fLMixed = some ⟨ocLMixed, odLMixed, .func (PySem.W.fnOf "_law_mixed" "_law_mixed" (defArgs sLMixed) (defBody sLMixed) (defScope sLMixed) .none kVLMixed dcLMixed pmLMixed anLMixed cdLMixed ctLMixed), slLMixed⟩)
    (cLMixed : PySem.W.codeIn K cdLMixed "_law_mixed" = true)
    (kLMixed : PySem.W.keepIn K (.ref fLMixed) = true)
    (aLDraw : PySem.W.nsIn K mainGlobals "_law_draw" = some (some (.ref fLDraw)))
    (lLDraw : K.lookup fLDraw = some ⟨ocLDraw, odLDraw, .func (PySem.W.fnOf "_law_draw" "_law_draw" (defArgs sLDraw) (defBody sLDraw) (defScope sLDraw) .none kVLDraw dcLDraw pmLDraw anLDraw cdLDraw ctLDraw), slLDraw⟩)
    (cLDraw : PySem.W.codeIn K cdLDraw "_law_draw" = true)
    (kLDraw : PySem.W.keepIn K (.ref fLDraw) = true)
    (aLOne : PySem.W.nsIn K mainGlobals "_law_one" = some (some (.ref fLOne)))
    (lLOne : K.lookup fLOne = some ⟨ocLOne, odLOne, .func (PySem.W.fnOf "_law_one" "_law_one" (defArgs sLOne) (defBody sLOne) (defScope sLOne) .none kVLOne dcLOne pmLOne anLOne cdLOne ctLOne), slLOne⟩)
    (cLOne : PySem.W.codeIn K cdLOne "_law_one" = true)
    (kLOne : PySem.W.keepIn K (.ref fLOne) = true)
    (aLTurned : PySem.W.nsIn K mainGlobals "_law_turned" = some (some (.ref fLTurned)))
    (lLTurned : K.lookup fLTurned = some ⟨ocLTurned, odLTurned, .func (PySem.W.fnOf "_law_turned" "_law_turned" (defArgs sLTurned) (defBody sLTurned) (defScope sLTurned) .none kVLTurned dcLTurned pmLTurned anLTurned cdLTurned ctLTurned), slLTurned⟩)
    (cLTurned : PySem.W.codeIn K cdLTurned "_law_turned" = true)
    (kLTurned : PySem.W.keepIn K (.ref fLTurned) = true)
    (aLListed : PySem.W.nsIn K mainGlobals "_law_listed" = some (some (.ref fLListed)))
    (lLListed : K.lookup fLListed = some ⟨ocLListed, odLListed, .func (PySem.W.fnOf "_law_listed" "_law_listed" (defArgs sLListed) (defBody sLListed) (defScope sLListed) .none kVLListed dcLListed pmLListed anLListed cdLListed ctLListed), slLListed⟩)
    (cLListed : PySem.W.codeIn K cdLListed "_law_listed" = true)
    (kLListed : PySem.W.keepIn K (.ref fLListed) = true)
    (aLWords : PySem.W.nsIn K mainGlobals "_law_words" = some (some (.ref fLWords)))
    (lLWords : K.lookup fLWords = some ⟨ocLWords, odLWords, .func (PySem.W.fnOf "_law_words" "_law_words" (defArgs sLWords) (defBody sLWords) (defScope sLWords) .none kVLWords dcLWords pmLWords anLWords cdLWords ctLWords), slLWords⟩)
    (cLWords : PySem.W.codeIn K cdLWords "_law_words" = true)
    (kLWords : PySem.W.keepIn K (.ref fLWords) = true)
    (aLBook : PySem.W.nsIn K mainGlobals "_law_book" = some (some (.ref fLBook)))
    (lLBook : K.lookup fLBook = some ⟨ocLBook, odLBook, .func (PySem.W.fnOf "_law_book" "_law_book" (defArgs sLBook) (defBody sLBook) (defScope sLBook) .none kVLBook dcLBook pmLBook anLBook cdLBook ctLBook), slLBook⟩)
    (cLBook : PySem.W.codeIn K cdLBook "_law_book" = true)
    (kLBook : PySem.W.keepIn K (.ref fLBook) = true)
    (aLLot : PySem.W.nsIn K mainGlobals "_law_lot" = some (some (.ref fLLot)))
    (lLLot : K.lookup fLLot = some ⟨ocLLot, odLLot, .func (PySem.W.fnOf "_law_lot" "_law_lot" (defArgs sLLot) (defBody sLLot) (defScope sLLot) .none kVLLot dcLLot pmLLot anLLot cdLLot ctLLot), slLLot⟩)
    (cLLot : PySem.W.codeIn K cdLLot "_law_lot" = true)
    (kLLot : PySem.W.keepIn K (.ref fLLot) = true)
    (aLIsIn : PySem.W.nsIn K mainGlobals "_law_is_in" = some (some (.ref fLIsIn)))
    (lLIsIn : K.lookup fLIsIn = some ⟨ocLIsIn, odLIsIn, .func (PySem.W.fnOf "_law_is_in" "_law_is_in" (defArgs sLIsIn) (defBody sLIsIn) (defScope sLIsIn) .none kVLIsIn dcLIsIn pmLIsIn anLIsIn cdLIsIn ctLIsIn), slLIsIn⟩)
    (cLIsIn : PySem.W.codeIn K cdLIsIn "_law_is_in" = true)
    (kLIsIn : PySem.W.keepIn K (.ref fLIsIn) = true)
    (aLAll : PySem.W.nsIn K mainGlobals "_law_all" = some (some (.ref fLAll)))
    (lLAll : K.lookup fLAll = some ⟨ocLAll, odLAll, .func (PySem.W.fnOf "_law_all" "_law_all" (defArgs sLAll) (defBody sLAll) (defScope sLAll) .none kVLAll dcLAll pmLAll anLAll cdLAll ctLAll), slLAll⟩)
    (cLAll : PySem.W.codeIn K cdLAll "_law_all" = true)
    (kLAll : PySem.W.keepIn K (.ref fLAll) = true)
    (aLPairs : PySem.W.nsIn K mainGlobals "_law_pairs" = some (some (.ref fLPairs)))
    (lLPairs : K.lookup fLPairs = some ⟨ocLPairs, odLPairs, .func (PySem.W.fnOf "_law_pairs" "_law_pairs" (defArgs sLPairs) (defBody sLPairs) (defScope sLPairs) .none kVLPairs dcLPairs pmLPairs anLPairs cdLPairs ctLPairs), slLPairs⟩)
    (cLPairs : PySem.W.codeIn K cdLPairs "_law_pairs" = true)
    (kLPairs : PySem.W.keepIn K (.ref fLPairs) = true)
    (aLWord : PySem.W.nsIn K mainGlobals "_law_word" = some (some (.ref fLWord)))
    (lLWord : K.lookup fLWord = some ⟨ocLWord, odLWord, .func (PySem.W.fnOf "_law_word" "_law_word" (defArgs sLWord) (defBody sLWord) (defScope sLWord) .none kVLWord dcLWord pmLWord anLWord cdLWord ctLWord), slLWord⟩)
    (cLWord : PySem.W.codeIn K cdLWord "_law_word" = true)
    (kLWord : PySem.W.keepIn K (.ref fLWord) = true)
    (aLBadPairs : PySem.W.nsIn K mainGlobals "_law_bad_pairs" = some (some (.ref fLBadPairs)))
    (lLBadPairs : K.lookup fLBadPairs = some ⟨ocLBadPairs, odLBadPairs, .func (PySem.W.fnOf "_law_bad_pairs" "_law_bad_pairs" (defArgs sLBadPairs) (defBody sLBadPairs) (defScope sLBadPairs) .none kVLBadPairs dcLBadPairs pmLBadPairs anLBadPairs cdLBadPairs ctLBadPairs), slLBadPairs⟩)
    (cLBadPairs : PySem.W.codeIn K cdLBadPairs "_law_bad_pairs" = true)
    (kLBadPairs : PySem.W.keepIn K (.ref fLBadPairs) = true)
    (aLAsked : PySem.W.nsIn K mainGlobals "_law_asked" = some (some (.ref fLAsked)))
    (lLAsked : K.lookup fLAsked = some ⟨ocLAsked, odLAsked, .func (PySem.W.fnOf "_law_asked" "_law_asked" (defArgs sLAsked) (defBody sLAsked) (defScope sLAsked) .none kVLAsked dcLAsked pmLAsked anLAsked cdLAsked ctLAsked), slLAsked⟩)
    (cLAsked : PySem.W.codeIn K cdLAsked "_law_asked" = true)
    (kLAsked : PySem.W.keepIn K (.ref fLAsked) = true)
    (aLSettledWord : PySem.W.nsIn K mainGlobals "_law_settled_word" = some (some (.ref fLSettledWord)))
    (lLSettledWord : K.lookup fLSettledWord = some ⟨ocLSettledWord, odLSettledWord, .func (PySem.W.fnOf "_law_settled_word" "_law_settled_word" (defArgs sLSettledWord) (defBody sLSettledWord) (defScope sLSettledWord) .none kVLSettledWord dcLSettledWord pmLSettledWord anLSettledWord cdLSettledWord ctLSettledWord), slLSettledWord⟩)
    (cLSettledWord : PySem.W.codeIn K cdLSettledWord "_law_settled_word" = true)
    (kLSettledWord : PySem.W.keepIn K (.ref fLSettledWord) = true)
    (aLBadLot : PySem.W.nsIn K mainGlobals "_law_bad_lot" = some (some (.ref fLBadLot)))
    (lLBadLot : K.lookup fLBadLot = some ⟨ocLBadLot, odLBadLot, .func (PySem.W.fnOf "_law_bad_lot" "_law_bad_lot" (defArgs sLBadLot) (defBody sLBadLot) (defScope sLBadLot) .none kVLBadLot dcLBadLot pmLBadLot anLBadLot cdLBadLot ctLBadLot), slLBadLot⟩)
    (cLBadLot : PySem.W.codeIn K cdLBadLot "_law_bad_lot" = true)
    (kLBadLot : PySem.W.keepIn K (.ref fLBadLot) = true)
    (aLBadFilling : PySem.W.nsIn K mainGlobals "_law_bad_filling" = some (some (.ref fLBadFilling)))
    (lLBadFilling : K.lookup fLBadFilling = some ⟨ocLBadFilling, odLBadFilling, .func (PySem.W.fnOf "_law_bad_filling" "_law_bad_filling" (defArgs sLBadFilling) (defBody sLBadFilling) (defScope sLBadFilling) .none kVLBadFilling dcLBadFilling pmLBadFilling anLBadFilling cdLBadFilling ctLBadFilling), slLBadFilling⟩)
    (cLBadFilling : PySem.W.codeIn K cdLBadFilling "_law_bad_filling" = true)
    (kLBadFilling : PySem.W.keepIn K (.ref fLBadFilling) = true)
    (aLRefusalsRight : PySem.W.nsIn K mainGlobals "_law_refusals_right" = some (some (.ref fLRefusalsRight)))
    (lLRefusalsRight : K.lookup fLRefusalsRight = some ⟨ocLRefusalsRight, odLRefusalsRight, .func (PySem.W.fnOf "_law_refusals_right" "_law_refusals_right" (defArgs sLRefusalsRight) (defBody sLRefusalsRight) (defScope sLRefusalsRight) .none kVLRefusalsRight dcLRefusalsRight pmLRefusalsRight anLRefusalsRight cdLRefusalsRight ctLRefusalsRight), slLRefusalsRight⟩)
    (cLRefusalsRight : PySem.W.codeIn K cdLRefusalsRight "_law_refusals_right" = true)
    (kLRefusalsRight : PySem.W.keepIn K (.ref fLRefusalsRight) = true)
    (aLaw : PySem.W.nsIn K mainGlobals "law" = some (some (.ref fLaw)))
    (lLaw : K.lookup fLaw = some ⟨ocLaw, odLaw, .func (PySem.W.fnOf "law" "law" (defArgs sLaw) (defBody sLaw) (defScope sLaw) .none kVLaw dcLaw pmLaw anLaw cdLaw ctLaw), slLaw⟩)
    (cLaw : PySem.W.codeIn K cdLaw "law" = true)
    (kLaw : PySem.W.keepIn K (.ref fLaw) = true)
    (v_MOST_LETTERS : ∃ t, PySem.W.nsIn K mainGlobals "MOST_LETTERS" = some (some (.int 8 t)))
    (v_MOST_FIELDS : ∃ t, PySem.W.nsIn K mainGlobals "MOST_FIELDS" = some (some (.int 6 t)))
    (v_MOST_VALUES : ∃ t, PySem.W.nsIn K mainGlobals "MOST_VALUES" = some (some (.int 5 t)))
    (v_MOST_RULES : ∃ t, PySem.W.nsIn K mainGlobals "MOST_RULES" = some (some (.int 20 t)))
    (v_MOST_PAIRS : ∃ t, PySem.W.nsIn K mainGlobals "MOST_PAIRS" = some (some (.int 4 t)))
    (v_MOST_FILLINGS : ∃ t, PySem.W.nsIn K mainGlobals "MOST_FILLINGS" = some (some (.int 1000 t)))
    (v_MOST_OUTCOMES : ∃ t, PySem.W.nsIn K mainGlobals "MOST_OUTCOMES" = some (some (.int 30 t)))
    (v_NO_OUTCOME : ∃ t, PySem.W.nsIn K mainGlobals "NO_OUTCOME" = some (some (.str "none" t)))
    (z_isinstance : PySem.W.nsIn K mainGlobals "isinstance" = some none)
    (z_list : PySem.W.nsIn K mainGlobals "list" = some none)
    (z_tuple : PySem.W.nsIn K mainGlobals "tuple" = some none)
    (z_str : PySem.W.nsIn K mainGlobals "str" = some none)
    (z_len : PySem.W.nsIn K mainGlobals "len" = some none)
    (z_all : PySem.W.nsIn K mainGlobals "all" = some none)
    (z_set : PySem.W.nsIn K mainGlobals "set" = some none)
    (z_dict : PySem.W.nsIn K mainGlobals "dict" = some none)
    (z_int : PySem.W.nsIn K mainGlobals "int" = some none)
    (z_range : PySem.W.nsIn K mainGlobals "range" = some none)
    (z_repr : PySem.W.nsIn K mainGlobals "repr" = some none) :
    ∃ fd : FuncData, (∀ (s : Shared) (v : Value), BindsTo s fd ⟨[v], []⟩ [("script", v)]) ∧ ∀ base : Heap, K.In base → base.Ns mainGlobals mg → XG.FnG l.prog w K mg base CX0 11 fa fd ["script"] (spLaw K) := by
  have e := hfa.symm.trans (PySem.W.mg_of X G aLaw)
  cases e
  have t0 : XM.XcT K c0 i0 "at" "BadValue.__init__" := ⟨.inl rfl, ini0, ovr0, tkn0, sa0, ga0, gg0, no0, ic0, tc0, kc0, ex0, ty0, hd0, ⟨_, _, _, _, _, _, _, _, _, _, _, _, _, _, lc0, cc0X⟩⟩
  have q0 : XH.ClsQ K c0 := ⟨ga0, gg0, ex0, hd0, cc0, spG, tkG, mo0⟩
  have m_g0 := PySem.W.mg_of X G g0
  have t1 : XM.XcT K c1 i1 "word" "TooMany.__init__" := ⟨.inr (.inr rfl), ini1, ovr1, tkn1, sa1, ga1, gg1, no1, ic1, tc1, kc1, ex1, ty1, hd1, ⟨_, _, _, _, _, _, _, _, _, _, _, _, _, _, lc1, cc1X⟩⟩
  have q1 : XH.ClsQ K c1 := ⟨ga1, gg1, ex1, hd1, cc1, spG, tkG, mo1⟩
  have m_g1 := PySem.W.mg_of X G g1
  have m_gB := PySem.W.mg_of X G gB
  have m_gF := PySem.W.mg_of X G gF
  have clF : Cls K cF := ⟨pgF, hdF, poF, saF⟩
  have mkF' : Mk K cF fInit := ⟨mkF, aInit, fn_of_ty tInit, kF⟩
  have FInit := fun_mk (st := sInit) lInit cInit kInit
  have bInit := FInit.binds (ps := ["self", "fields", "rules"]) fun _ _ _ _ _ _ us hl => match us, hl with | [_, _, _], _ => rfl
  have meInit : Meth K cF "__init__" fInit := ⟨aInit, fn_of_ty tInit, kInit⟩
  have FFieldsM := fun_mk (st := sFieldsM) lFieldsM cFieldsM kFieldsM
  have bFieldsM := FFieldsM.binds (ps := ["self"]) fun _ _ _ _ _ _ us hl => match us, hl with | [_], _ => rfl
  have meFieldsM : Meth K cF "fields" fFieldsM := ⟨aFieldsM, fn_of_ty tFieldsM, kFieldsM⟩
  have FRulesM := fun_mk (st := sRulesM) lRulesM cRulesM kRulesM
  have bRulesM := FRulesM.binds (ps := ["self"]) fun _ _ _ _ _ _ us hl => match us, hl with | [_], _ => rfl
  have meRulesM : Meth K cF "rules" fRulesM := ⟨aRulesM, fn_of_ty tRulesM, kRulesM⟩
  have FEqM := fun_mk (st := sEqM) lEqM cEqM kEqM
  have bEqM := FEqM.binds (ps := ["self", "other"]) fun _ _ _ _ _ _ us hl => match us, hl with | [_, _], _ => rfl
  have meEqM : Meth K cF "__eq__" fEqM := ⟨aEqM, fn_of_ty tEqM, kEqM⟩
  have FIsRow := fun_mk (st := sIsRow) lIsRow cIsRow kIsRow
  have bIsRow := FIsRow.binds (ps := ["thing"]) fun _ _ _ _ _ _ us hl => match us, hl with | [_], _ => rfl
  have mIsRow := PySem.W.mg_of X G aIsRow
  have FIsPair := fun_mk (st := sIsPair) lIsPair cIsPair kIsPair
  have bIsPair := FIsPair.binds (ps := ["thing"]) fun _ _ _ _ _ _ us hl => match us, hl with | [_], _ => rfl
  have mIsPair := PySem.W.mg_of X G aIsPair
  have FIsSmall := fun_mk (st := sIsSmall) lIsSmall cIsSmall kIsSmall
  have bIsSmall := FIsSmall.binds (ps := ["string"]) fun _ _ _ _ _ _ us hl => match us, hl with | [_], _ => rfl
  have mIsSmall := PySem.W.mg_of X G aIsSmall
  have FIsWord := fun_mk (st := sIsWord) lIsWord cIsWord kIsWord
  have bIsWord := FIsWord.binds (ps := ["thing"]) fun _ _ _ _ _ _ us hl => match us, hl with | [_], _ => rfl
  have mIsWord := PySem.W.mg_of X G aIsWord
  have FUnlike := fun_mk (st := sUnlike) lUnlike cUnlike kUnlike
  have bUnlike := FUnlike.binds (ps := ["things"]) fun _ _ _ _ _ _ us hl => match us, hl with | [_], _ => rfl
  have mUnlike := PySem.W.mg_of X G aUnlike
  have FAreFacts := fun_mk (st := sAreFacts) lAreFacts cAreFacts kAreFacts
  have bAreFacts := FAreFacts.binds (ps := ["fields", "facts"]) fun _ _ _ _ _ _ us hl => match us, hl with | [_, _], _ => rfl
  have mAreFacts := PySem.W.mg_of X G aAreFacts
  have FInSeq := fun_mk (st := sInSeq) lInSeq cInSeq kInSeq
  have bInSeq := FInSeq.binds (ps := ["fields", "facts"]) fun _ _ _ _ _ _ us hl => match us, hl with | [_, _], _ => rfl
  have mInSeq := PySem.W.mg_of X G aInSeq
  have FInTuples := fun_mk (st := sInTuples) lInTuples cInTuples kInTuples
  have bInTuples := FInTuples.binds (ps := ["thing"]) fun _ _ _ _ _ _ us hl => match us, hl with | [_], _ => rfl
  have mInTuples := PySem.W.mg_of X G aInTuples
  have FRowsThatFit := fun_mk (st := sRowsThatFit) lRowsThatFit cRowsThatFit kRowsThatFit
  have bRowsThatFit := FRowsThatFit.binds (ps := ["form", "facts"]) fun _ _ _ _ _ _ us hl => match us, hl with | [_, _], _ => rfl
  have mRowsThatFit := PySem.W.mg_of X G aRowsThatFit
  have FFillings := fun_mk (st := sFillings) lFillings cFillings kFillings
  have bFillings := FFillings.binds (ps := ["form", "facts"]) fun _ _ _ _ _ _ us hl => match us, hl with | [_, _], _ => rfl
  have mFillings := PySem.W.mg_of X G aFillings
  have FIsFilling := fun_mk (st := sIsFilling) lIsFilling cIsFilling kIsFilling
  have bIsFilling := FIsFilling.binds (ps := ["form", "thing"]) fun _ _ _ _ _ _ us hl => match us, hl with | [_, _], _ => rfl
  have mIsFilling := PySem.W.mg_of X G aIsFilling
  have FBars := fun_mk (st := sBars) lBars cBars kBars
  have bBars := FBars.binds (ps := ["form", "pair"]) fun _ _ _ _ _ _ us hl => match us, hl with | [_, _], _ => rfl
  have mBars := PySem.W.mg_of X G aBars
  have FOneStands := fun_mk (st := sOneStands) lOneStands cOneStands kOneStands
  have bOneStands := FOneStands.binds (ps := ["lots", "row"]) fun _ _ _ _ _ _ us hl => match us, hl with | [_, _], _ => rfl
  have mOneStands := PySem.W.mg_of X G aOneStands
  have FAreFields := fun_mk (st := sAreFields) lAreFields cAreFields kAreFields
  have bAreFields := FAreFields.binds (ps := ["fields"]) fun _ _ _ _ _ _ us hl => match us, hl with | [_], _ => rfl
  have mAreFields := PySem.W.mg_of X G aAreFields
  have FAreValues := fun_mk (st := sAreValues) lAreValues cAreValues kAreValues
  have bAreValues := FAreValues.binds (ps := ["values"]) fun _ _ _ _ _ _ us hl => match us, hl with | [_], _ => rfl
  have mAreValues := PySem.W.mg_of X G aAreValues
  have FAreRules := fun_mk (st := sAreRules) lAreRules cAreRules kAreRules
  have bAreRules := FAreRules.binds (ps := ["fields", "rules"]) fun _ _ _ _ _ _ us hl => match us, hl with | [_, _], _ => rfl
  have mAreRules := PySem.W.mg_of X G aAreRules
  have FWays := fun_mk (st := sWays) lWays cWays kWays
  have bWays := FWays.binds (ps := ["fields"]) fun _ _ _ _ _ _ us hl => match us, hl with | [_], _ => rfl
  have mWays := PySem.W.mg_of X G aWays
  have FEach := fun_mk (st := sEach) lEach cEach kEach
  have bEach := FEach.binds (ps := ["rules"]) fun _ _ _ _ _ _ us hl => match us, hl with | [_], _ => rfl
  have mEach := PySem.W.mg_of X G aEach
  have FCheckOutcomes := fun_mk (st := sCheckOutcomes) lCheckOutcomes cCheckOutcomes kCheckOutcomes
  have bCheckOutcomes := FCheckOutcomes.binds (ps := ["form", "outcomes"]) fun _ _ _ _ _ _ us hl => match us, hl with | [_, _], _ => rfl
  have mCheckOutcomes := PySem.W.mg_of X G aCheckOutcomes
  have FOutcomeOf := fun_mk (st := sOutcomeOf) lOutcomeOf cOutcomeOf kOutcomeOf
  have bOutcomeOf := FOutcomeOf.binds (ps := ["outcomes", "filling"]) fun _ _ _ _ _ _ us hl => match us, hl with | [_, _], _ => rfl
  have mOutcomeOf := PySem.W.mg_of X G aOutcomeOf
  have FOutcome := fun_mk (st := sOutcome) lOutcome cOutcome kOutcome
  have bOutcome := FOutcome.binds (ps := ["form", "outcomes", "filling"]) fun _ _ _ _ _ _ us hl => match us, hl with | [_, _, _], _ => rfl
  have mOutcome := PySem.W.mg_of X G aOutcome
  have FSettled := fun_mk (st := sSettled) lSettled cSettled kSettled
  have bSettled := FSettled.binds (ps := ["form", "outcomes", "facts"]) fun _ _ _ _ _ _ us hl => match us, hl with | [_, _, _], _ => rfl
  have mSettled := PySem.W.mg_of X G aSettled
  have FLStart := fun_mk (st := sLStart) lLStart cLStart kLStart
  have bLStart := FLStart.binds (ps := ["script"]) fun _ _ _ _ _ _ us hl => match us, hl with | [_], _ => rfl
  have mLStart := PySem.W.mg_of X G aLStart
  have FLMixed := fun_mk (st := sLMixed) lLMixed cLMixed kLMixed
  have bLMixed := FLMixed.binds (ps := ["cell", "count"]) fun _ _ _ _ _ _ us hl => match us, hl with | [_, _], _ => rfl
  have mLMixed := PySem.W.mg_of X G aLMixed
  have FLDraw := fun_mk (st := sLDraw) lLDraw cLDraw kLDraw
  have bLDraw := FLDraw.binds (ps := ["st", "many"]) fun _ _ _ _ _ _ us hl => match us, hl with | [_, _], _ => rfl
  have mLDraw := PySem.W.mg_of X G aLDraw
  have FLOne := fun_mk (st := sLOne) lLOne cLOne kLOne
  have bLOne := FLOne.binds (ps := ["st", "row"]) fun _ _ _ _ _ _ us hl => match us, hl with | [_, _], _ => rfl
  have mLOne := PySem.W.mg_of X G aLOne
  have FLTurned := fun_mk (st := sLTurned) lLTurned cLTurned kLTurned
  have bLTurned := FLTurned.binds (ps := ["st", "row"]) fun _ _ _ _ _ _ us hl => match us, hl with | [_, _], _ => rfl
  have mLTurned := PySem.W.mg_of X G aLTurned
  have FLListed := fun_mk (st := sLListed) lLListed cLListed kLListed
  have bLListed := FLListed.binds (ps := ["st", "value"]) fun _ _ _ _ _ _ us hl => match us, hl with | [_, _], _ => rfl
  have mLListed := PySem.W.mg_of X G aLListed
  have FLWords := fun_mk (st := sLWords) lLWords cLWords kLWords
  have bLWords := FLWords.binds (ps := ["st", "many"]) fun _ _ _ _ _ _ us hl => match us, hl with | [_, _], _ => rfl
  have mLWords := PySem.W.mg_of X G aLWords
  have FLBook := fun_mk (st := sLBook) lLBook cLBook kLBook
  have bLBook := FLBook.binds (ps := ["st", "most", "values"]) fun _ _ _ _ _ _ us hl => match us, hl with | [_, _, _], _ => rfl
  have mLBook := PySem.W.mg_of X G aLBook
  have FLLot := fun_mk (st := sLLot) lLLot cLLot kLLot
  have bLLot := FLLot.binds (ps := ["st", "parts", "many"]) fun _ _ _ _ _ _ us hl => match us, hl with | [_, _, _], _ => rfl
  have mLLot := PySem.W.mg_of X G aLLot
  have FLIsIn := fun_mk (st := sLIsIn) lLIsIn cLIsIn kLIsIn
  have bLIsIn := FLIsIn.binds (ps := ["lot", "filling"]) fun _ _ _ _ _ _ us hl => match us, hl with | [_, _], _ => rfl
  have mLIsIn := PySem.W.mg_of X G aLIsIn
  have FLAll := fun_mk (st := sLAll) lLAll cLAll kLAll
  have bLAll := FLAll.binds (ps := ["book"]) fun _ _ _ _ _ _ us hl => match us, hl with | [_], _ => rfl
  have mLAll := PySem.W.mg_of X G aLAll
  have FLPairs := fun_mk (st := sLPairs) lLPairs cLPairs kLPairs
  have bLPairs := FLPairs.binds (ps := ["st", "book", "most"]) fun _ _ _ _ _ _ us hl => match us, hl with | [_, _, _], _ => rfl
  have mLPairs := PySem.W.mg_of X G aLPairs
  have FLWord := fun_mk (st := sLWord) lLWord cLWord kLWord
  have bLWord := FLWord.binds (ps := ["pairs", "filling"]) fun _ _ _ _ _ _ us hl => match us, hl with | [_, _], _ => rfl
  have mLWord := PySem.W.mg_of X G aLWord
  have FLBadPairs := fun_mk (st := sLBadPairs) lLBadPairs cLBadPairs kLBadPairs
  have bLBadPairs := FLBadPairs.binds (ps := ["st", "book"]) fun _ _ _ _ _ _ us hl => match us, hl with | [_, _], _ => rfl
  have mLBadPairs := PySem.W.mg_of X G aLBadPairs
  have FLAsked := fun_mk (st := sLAsked) lLAsked cLAsked kLAsked
  have bLAsked := FLAsked.binds (ps := ["name", "given"]) fun _ _ _ _ _ _ us hl => match us, hl with | [_, _], _ => rfl
  have mLAsked := PySem.W.mg_of X G aLAsked
  have FLSettledWord := fun_mk (st := sLSettledWord) lLSettledWord cLSettledWord kLSettledWord
  have bLSettledWord := FLSettledWord.binds (ps := ["book", "pairs", "lot"]) fun _ _ _ _ _ _ us hl => match us, hl with | [_, _, _], _ => rfl
  have mLSettledWord := PySem.W.mg_of X G aLSettledWord
  have FLBadLot := fun_mk (st := sLBadLot) lLBadLot cLBadLot kLBadLot
  have bLBadLot := FLBadLot.binds (ps := ["st", "book"]) fun _ _ _ _ _ _ us hl => match us, hl with | [_, _], _ => rfl
  have mLBadLot := PySem.W.mg_of X G aLBadLot
  have FLBadFilling := fun_mk (st := sLBadFilling) lLBadFilling cLBadFilling kLBadFilling
  have bLBadFilling := FLBadFilling.binds (ps := ["st", "book", "row"]) fun _ _ _ _ _ _ us hl => match us, hl with | [_, _, _], _ => rfl
  have mLBadFilling := PySem.W.mg_of X G aLBadFilling
  have FLRefusalsRight := fun_mk (st := sLRefusalsRight) lLRefusalsRight cLRefusalsRight kLRefusalsRight
  have bLRefusalsRight := FLRefusalsRight.binds (ps := ["st", "book", "pairs", "rows"]) fun _ _ _ _ _ _ us hl => match us, hl with | [_, _, _, _], _ => rfl
  have mLRefusalsRight := PySem.W.mg_of X G aLRefusalsRight
  have FLaw := fun_mk (st := sLaw) lLaw cLaw kLaw
  have bLaw := FLaw.binds (ps := ["script"]) fun _ _ _ _ _ _ us hl => match us, hl with | [_], _ => rfl
  have mLaw := PySem.W.mg_of X G aLaw
  have m_MOST_LETTERS : ∃ t, mg "MOST_LETTERS" = some (.int 8 t) := by
    obtain ⟨t, h⟩ := v_MOST_LETTERS
    exact ⟨t, PySem.W.mg_of X G h⟩
  have m_MOST_FIELDS : ∃ t, mg "MOST_FIELDS" = some (.int 6 t) := by
    obtain ⟨t, h⟩ := v_MOST_FIELDS
    exact ⟨t, PySem.W.mg_of X G h⟩
  have m_MOST_VALUES : ∃ t, mg "MOST_VALUES" = some (.int 5 t) := by
    obtain ⟨t, h⟩ := v_MOST_VALUES
    exact ⟨t, PySem.W.mg_of X G h⟩
  have m_MOST_RULES : ∃ t, mg "MOST_RULES" = some (.int 20 t) := by
    obtain ⟨t, h⟩ := v_MOST_RULES
    exact ⟨t, PySem.W.mg_of X G h⟩
  have m_MOST_PAIRS : ∃ t, mg "MOST_PAIRS" = some (.int 4 t) := by
    obtain ⟨t, h⟩ := v_MOST_PAIRS
    exact ⟨t, PySem.W.mg_of X G h⟩
  have m_MOST_FILLINGS : ∃ t, mg "MOST_FILLINGS" = some (.int 1000 t) := by
    obtain ⟨t, h⟩ := v_MOST_FILLINGS
    exact ⟨t, PySem.W.mg_of X G h⟩
  have m_MOST_OUTCOMES : ∃ t, mg "MOST_OUTCOMES" = some (.int 30 t) := by
    obtain ⟨t, h⟩ := v_MOST_OUTCOMES
    exact ⟨t, PySem.W.mg_of X G h⟩
  have m_NO_OUTCOME : ∃ t, mg "NO_OUTCOME" = some (.str "none" t) := by
    obtain ⟨t, h⟩ := v_NO_OUTCOME
    exact ⟨t, PySem.W.mg_of X G h⟩
  have m_isinstance := PySem.W.mg_none_of X G z_isinstance
  have m_list := PySem.W.mg_none_of X G z_list
  have m_tuple := PySem.W.mg_none_of X G z_tuple
  have m_str := PySem.W.mg_none_of X G z_str
  have m_len := PySem.W.mg_none_of X G z_len
  have m_all := PySem.W.mg_none_of X G z_all
  have m_set := PySem.W.mg_none_of X G z_set
  have m_dict := PySem.W.mg_none_of X G z_dict
  have m_int := PySem.W.mg_none_of X G z_int
  have m_range := PySem.W.mg_none_of X G z_range
  have m_repr := PySem.W.mg_none_of X G z_repr
  have Tb : Bb mg := ⟨m_isinstance, m_list, m_tuple, m_str, m_len, m_all, m_set, m_dict, m_MOST_LETTERS⟩
  have Tm : Fm mg := ⟨m_MOST_FIELDS, m_MOST_VALUES, m_MOST_RULES, m_MOST_PAIRS, m_MOST_FILLINGS⟩
  have T31 : Be31 mg := ⟨m_int, m_list, m_len, m_range, m_tuple, m_isinstance⟩
  have T24 : Bs24 mg := ⟨m_isinstance, m_list, m_tuple, m_str, m_len, m_all, m_set⟩
  have R : Er K mg c0 c1 := ⟨⟨_, _, t0⟩, ⟨_, _, t1⟩, m_g0, m_g1⟩
  have Rv : Bv K mg c0 := ⟨⟨_, _, t0⟩, m_g0⟩
  have Ev : Ev31 K mg c0 := ⟨⟨_, _, t0⟩, m_g0, PySem.W.exm_ref ex0 hd0 ty0 s00⟩
  have T : Fc K mg cF := ⟨clF, nfF, nrF, m_gF, m_isinstance, fun e => .ins e clF ccF spG tkG moF, kit_own isF tyF sFF sFF, data_all (kit_data isF tyF nNoneType) (fun _ => kit_data isF tyF nbool) (fun _ => kit_data isF tyF nint) (fun _ => kit_data isF tyF nstr) (fun _ => kit_data isF tyF nlist) (fun _ => kit_data isF tyF ntuple)⟩
  refine ⟨PySem.W.fnOf "law" "law" (defArgs sLaw) (defBody sLaw) (defScope sLaw) .none kVLaw dcLaw pmLaw anLaw cdLaw ctLaw, fun s v => .of_eq rfl, fun base _ _ => ?_⟩
  have GIsRow := ok_isrow (P := l.prog) (w := w) (base := base) FIsRow Tb
  have KIsRow : Kn l.prog w K mg base _ _ _ _ := ⟨fIsRow, _, GIsRow, FIsRow.kp, bIsRow, mIsRow⟩
  have GIsPair := ok_ispair FIsPair Tb GIsRow FIsRow.kp bIsRow mIsRow
  have KIsPair : Kn l.prog w K mg base _ _ _ _ := ⟨fIsPair, _, GIsPair, FIsPair.kp, bIsPair, mIsPair⟩
  have GIsSmall := ok_issmall (P := l.prog) (w := w) (base := base) FIsSmall Tb
  have GIsWord := ok_isword FIsWord Tb GIsSmall FIsSmall.kp bIsSmall mIsSmall
  have KIsWord : Kn l.prog w K mg base _ _ _ _ := ⟨fIsWord, _, GIsWord, FIsWord.kp, bIsWord, mIsWord⟩
  have GUnlike := ok_unlike FUnlike Tb GIsWord FIsWord.kp bIsWord mIsWord
  have KUnlike : Kn l.prog w K mg base _ _ _ _ := ⟨fUnlike, _, GUnlike, FUnlike.kp, bUnlike, mUnlike⟩
  have GAreFacts := ok_arefacts FAreFacts Tb GIsRow FIsRow.kp bIsRow mIsRow GIsPair FIsPair.kp bIsPair mIsPair
  have KAreFacts : Kn l.prog w K mg base _ _ _ _ := ⟨fAreFacts, _, GAreFacts, FAreFacts.kp, bAreFacts, mAreFacts⟩
  have KInSeq : Kn l.prog w K mg base _ _ _ _ := ⟨fInSeq, _, ok_inseq FInSeq Tb, FInSeq.kp, bInSeq, mInSeq⟩
  have KAreValues : Kn l.prog w K mg base _ _ _ _ := ⟨fAreValues, _, ok_arevalues FAreValues Tb Tm KIsRow KUnlike, FAreValues.kp, bAreValues, mAreValues⟩
  have KAreFields : Kn l.prog w K mg base _ _ _ _ := ⟨fAreFields, _, ok_arefields FAreFields Tb Tm KIsRow KIsPair KUnlike KAreValues, FAreFields.kp, bAreFields, mAreFields⟩
  have KAreRules : Kn l.prog w K mg base _ _ _ _ := ⟨fAreRules, _, ok_arerules FAreRules Tb Tm KIsRow KAreFacts, FAreRules.kp, bAreRules, mAreRules⟩
  have KWays : Kn l.prog w K mg base _ _ _ _ := ⟨fWays, _, ok_ways FWays Tb, FWays.kp, bWays, mWays⟩
  have KEach : Kn l.prog w K mg base _ _ _ _ := ⟨fEach, _, ok_each FEach Tb, FEach.kp, bEach, mEach⟩
  have GInit := ok_init FInit Tb Tm R clF nfF nrF KAreFields KAreRules KWays KEach KInSeq
  have GFieldsM := ok_fieldsM (P := l.prog) (w := w) (base := base) FFieldsM T
  have GRulesM := ok_rulesM (P := l.prog) (w := w) (base := base) FRulesM T
  have Zk : Fk l.prog w K mg base cF := ⟨T, ⟨_, _, GFieldsM, bFieldsM, meFieldsM⟩, ⟨_, _, GRulesM, bRulesM, meRulesM⟩⟩
  have KBars : Kn l.prog w K mg base _ _ _ _ := ⟨fBars, _, ok_bars FBars Zk, FBars.kp, bBars, mBars⟩
  have KOneStands : Kn l.prog w K mg base _ _ _ _ := ⟨fOneStands, _, ok_stands FOneStands m_all, FOneStands.kp, bOneStands, mOneStands⟩
  have KRowsThatFit : Kn l.prog w K mg base _ _ _ _ := ⟨fRowsThatFit, _, ok_rowsfit FRowsThatFit Zk m_dict m_tuple KBars KOneStands, FRowsThatFit.kp, bRowsThatFit, mRowsThatFit⟩
  have KFillings : Ke31 l.prog w K mg base _ _ _ _ := ⟨fFillings, _, ok_fillings FFillings Zk Rv KAreFacts KRowsThatFit, FFillings.kp, bFillings, mFillings⟩
  have KInT : Kn l.prog w K mg base 6 "in_tuples" ["thing"] (spInT24 K 4) := ⟨fInTuples, _, ok_inT24 FInTuples T24 KIsRow bInTuples mInTuples 4, FInTuples.kp, bInTuples, mInTuples⟩
  have KOutcomeOf : Kn l.prog w K mg base _ _ _ _ := ⟨fOutcomeOf, _, ok_outcomeof FOutcomeOf m_all m_NO_OUTCOME, FOutcomeOf.kp, bOutcomeOf, mOutcomeOf⟩
  have KCheckOutcomes : Ke31 l.prog w K mg base _ _ _ _ := ⟨fCheckOutcomes, _, ok_checkO FCheckOutcomes Tb Zk Rv m_MOST_OUTCOMES KIsRow KIsPair KIsWord KAreFacts, FCheckOutcomes.kp, bCheckOutcomes, mCheckOutcomes⟩
  have KIsFilling : Kn l.prog w K mg base _ _ _ _ := ⟨fIsFilling, _, ok_isfill FIsFilling Zk KAreFacts KRowsThatFit KInT, FIsFilling.kp, bIsFilling, mIsFilling⟩
  have GOutcome := ok_outcome FOutcome Zk Rv KCheckOutcomes KIsFilling KInT KOutcomeOf
  have GSettled := ok_settled FSettled Zk Rv m_len KCheckOutcomes KAreFacts KFillings KInT KOutcomeOf
  have wOutcome := XW.kbn3 FOutcome (p1 := "form") (p2 := "outcomes") (p3 := "filling") (fun _ _ _ _ _ _ _ _ _ => rfl)
  have wSettled := XW.kbn3 FSettled (p1 := "form") (p2 := "outcomes") (p3 := "facts") (fun _ _ _ _ _ _ _ _ _ => rfl)
  have KLMixed : Kn l.prog w K mg base _ _ _ _ := ⟨fLMixed, _, ok_mixed31 FLMixed T31, FLMixed.kp, bLMixed, mLMixed⟩
  have KLDraw : Kn l.prog w K mg base _ _ _ _ := ⟨fLDraw, _, ok_draw31 FLDraw T31 KLMixed, FLDraw.kp, bLDraw, mLDraw⟩
  have KLStart : Kn l.prog w K mg base _ _ _ _ := ⟨fLStart, _, ok_start31 FLStart T31, FLStart.kp, bLStart, mLStart⟩
  have KLOne : Kn l.prog w K mg base _ _ _ _ := ⟨fLOne, _, ok_one31 FLOne T31 KLDraw, FLOne.kp, bLOne, mLOne⟩
  have KLTurned : Kn l.prog w K mg base _ _ _ _ := ⟨fLTurned, _, ok_turned31 FLTurned T31 KLDraw, FLTurned.kp, bLTurned, mLTurned⟩
  have KLListed : Kn l.prog w K mg base 7 "_law_listed" ["st", "value"] (spLis31 K 4) := ⟨fLListed, _, ok_listed31 FLListed T31 KLDraw bLListed FLListed.kp mLListed 4, FLListed.kp, bLListed, mLListed⟩
  have KLWords : Kn l.prog w K mg base _ _ _ _ := ⟨fLWords, _, ok_words31 FLWords T31 KLTurned KLOne, FLWords.kp, bLWords, mLWords⟩
  have KLLot : Kn l.prog w K mg base _ _ _ _ := ⟨fLLot, _, ok_lot31 FLLot T31 KLTurned KLOne, FLLot.kp, bLLot, mLLot⟩
  have KLIsIn : Kn l.prog w K mg base _ _ _ _ := ⟨fLIsIn, _, ok_isin31 FLIsIn, FLIsIn.kp, bLIsIn, mLIsIn⟩
  have KLWord : Kn l.prog w K mg base _ _ _ _ := ⟨fLWord, _, ok_lword31 FLWord KLIsIn, FLWord.kp, bLWord, mLWord⟩
  have KLAll : Kn l.prog w K mg base _ _ _ _ := ⟨fLAll, _, ok_all31 FLAll KLIsIn, FLAll.kp, bLAll, mLAll⟩
  have KLBook : Kn l.prog w K mg base _ _ _ _ := ⟨fLBook, _, ok_book31 FLBook T31 mkF' GInit bInit m_gF KLDraw KLOne KLTurned KLWords KLLot KLListed, FLBook.kp, bLBook, mLBook⟩
  have KLPairs : Kn l.prog w K mg base 5 "_law_pairs" ["st", "book", "most"] (spPairs31 K cF) := ⟨fLPairs, _, ok_pairs31 FLPairs T31 KLDraw KLOne KLWords KLLot, FLPairs.kp, bLPairs, mLPairs⟩
  have KLAsked : Kn l.prog w K mg base _ _ _ _ := ⟨fLAsked, _, ok_asked31 FLAsked Ev GOutcome FOutcome.kp bOutcome mOutcome GSettled FSettled.kp bSettled mSettled, FLAsked.kp, bLAsked, mLAsked⟩
  have KLSettledWord : Kn l.prog w K mg base _ _ _ _ := ⟨fLSettledWord, _, ok_sword31 FLSettledWord KLIsIn KLAll KLWord, FLSettledWord.kp, bLSettledWord, mLSettledWord⟩
  have KLBadLot : Kn l.prog w K mg base 4 "_law_bad_lot" ["st", "book"] (spBl31 K cF) := ⟨fLBadLot, _, ok_badlot31 FLBadLot KLOne, FLBadLot.kp, bLBadLot, mLBadLot⟩
  have KLBadPairs : Kn l.prog w K mg base 4 "_law_bad_pairs" ["st", "book"] (spBp31 K cF) := ⟨fLBadPairs, _, ok_badpairs31 FLBadPairs KLOne, FLBadPairs.kp, bLBadPairs, mLBadPairs⟩
  have KLBadFilling : Kn l.prog w K mg base 4 "_law_bad_filling" ["st", "book", "row"] (spBf31 K cF) := ⟨fLBadFilling, _, ok_badfill31 FLBadFilling T31 KLOne KLAll, FLBadFilling.kp, bLBadFilling, mLBadFilling⟩
  have GRefus := ok_refus31 FLRefusalsRight T31 m_repr KLOne KLLot KLBadPairs KLBadLot KLBadFilling KLAsked
  exact ok_law FLaw T31 m_repr KLStart KLDraw KLOne KLTurned KLBook KLAll KLPairs KLListed KLLot KLWord KLSettledWord KLAsked GRefus FLRefusalsRight.kp bLRefusalsRight mLRefusalsRight GOutcome FOutcome.kp mOutcome wOutcome GSettled FSettled.kp mSettled wSettled
theorem walk {l : PySem.W.OpenLaw} {q : Program} {loose : List Str} {XP : (Str → Option Value) → Heap → Prop} {YP : World → Heap → Prop} {d : DefRec} {K : Params → PySem.W.Frag} (hn : l.most = some 63) (hdf : d.params.defaults = [])
    (hY : ∀ (w : World) (h : Heap), YP w h → (K w.params).In h)
    (F : ∀ (w : World) (mg : Str → Option Value) (fa : Addr) (h : Heap), (K w.params).In h → h.Ns mainGlobals mg → mg d.name = some (.ref fa) →
      ∃ fd : FuncData, (∀ (s : Shared) (u : Value), BindsTo s fd ⟨[u], []⟩ [("script", u)]) ∧ ∀ base : Heap, (K w.params).In base → base.Ns mainGlobals mg → XG.FnG l.prog w (K w.params) mg base CX0 11 fa fd ["script"] (spLaw (K w.params))) :
    PySem.W.WalkO q loose XP YP l.row.toRowW d [] (fun f vs => PySem.call f vs) :=
  XG.walk_ofG (n := 63) (k := 11) (x := "script") (sp := fun w => spLaw (K w.params)) hn (by decide) hdf ⟨rfl, by decide, by decide⟩ hY F fun _ _ a ns hl _ hS => ⟨a, ns, rfl, hS, fun _ => rfl⟩
end Q
set_option Elab.async false
open PySem PySem.W PyProof.Rows
set_option maxRecDepth 100000 in
set_option maxHeartbeats 0 in
theorem PySem.Challenge.cw_sayfill_k31_outcomes_and_settled_ones_holds : PySem.Challenge.rw_sayfill_k31_outcomes_and_settled_ones.Holds := by
  w_on; o_law; k_head; (case hw => w_witness2)
  k_fill
  refine Q.walk (l := PySem.Challenge.rw_sayfill_k31_outcomes_and_settled_ones) rfl rfl (fun w h Y => PySem.W.kIn_of Y) ?zz_F
  case zz_F =>
    intro w mg fa h KX G hmg
    refine' Q.all_mk KX G hmg ?zz_g0 ?zz_ini0 ?zz_ovr0 ?zz_tkn0 ?zz_sa0 ?zz_ga0 ?zz_gg0 ?zz_no0 ?zz_ic0 ?zz_tc0 ?zz_kc0 ?zz_ex0 ?zz_ty0 ?zz_hd0 ?zz_is0 ?zz_cc0 ?zz_mo0 ?zz_lc0 ?zz_cc0X ?zz_s00 ?zz_s01 ?zz_sB0 ?zz_g1 ?zz_ini1 ?zz_ovr1 ?zz_tkn1 ?zz_sa1 ?zz_ga1 ?zz_gg1 ?zz_no1 ?zz_ic1 ?zz_tc1 ?zz_kc1 ?zz_ex1 ?zz_ty1 ?zz_hd1 ?zz_is1 ?zz_cc1 ?zz_mo1 ?zz_lc1 ?zz_cc1X ?zz_s10 ?zz_s11 ?zz_sB1 ?zz_gB ?zz_exB ?zz_tyB ?zz_hdB ?zz_isB ?zz_sBB ?zz_spG ?zz_tkG ?zz_gF ?zz_pgF ?zz_hdF ?zz_poF ?zz_saF ?zz_nfF ?zz_nrF ?zz_ccF ?zz_moF ?zz_isF ?zz_tyF ?zz_sFF ?zz_mkF ?zz_kF ?zz_aInit ?zz_tInit ?zz_lInit ?zz_cInit ?zz_kInit ?zz_aFieldsM ?zz_tFieldsM ?zz_lFieldsM ?zz_cFieldsM ?zz_kFieldsM ?zz_aRulesM ?zz_tRulesM ?zz_lRulesM ?zz_cRulesM ?zz_kRulesM ?zz_aEqM ?zz_tEqM ?zz_lEqM ?zz_cEqM ?zz_kEqM ?zz_nNoneType ?zz_nbool ?zz_nint ?zz_nstr ?zz_nlist ?zz_ntuple ?zz_aIsRow ?zz_lIsRow ?zz_cIsRow ?zz_kIsRow ?zz_aIsPair ?zz_lIsPair ?zz_cIsPair ?zz_kIsPair ?zz_aIsSmall ?zz_lIsSmall ?zz_cIsSmall ?zz_kIsSmall ?zz_aIsWord ?zz_lIsWord ?zz_cIsWord ?zz_kIsWord ?zz_aUnlike ?zz_lUnlike ?zz_cUnlike ?zz_kUnlike ?zz_aAreFacts ?zz_lAreFacts ?zz_cAreFacts ?zz_kAreFacts ?zz_aInSeq ?zz_lInSeq ?zz_cInSeq ?zz_kInSeq ?zz_aInTuples ?zz_lInTuples ?zz_cInTuples ?zz_kInTuples ?zz_aRowsThatFit ?zz_lRowsThatFit ?zz_cRowsThatFit ?zz_kRowsThatFit ?zz_aFillings ?zz_lFillings ?zz_cFillings ?zz_kFillings ?zz_aIsFilling ?zz_lIsFilling ?zz_cIsFilling ?zz_kIsFilling ?zz_aBars ?zz_lBars ?zz_cBars ?zz_kBars ?zz_aOneStands ?zz_lOneStands ?zz_cOneStands ?zz_kOneStands ?zz_aAreFields ?zz_lAreFields ?zz_cAreFields ?zz_kAreFields ?zz_aAreValues ?zz_lAreValues ?zz_cAreValues ?zz_kAreValues ?zz_aAreRules ?zz_lAreRules ?zz_cAreRules ?zz_kAreRules ?zz_aWays ?zz_lWays ?zz_cWays ?zz_kWays ?zz_aEach ?zz_lEach ?zz_cEach ?zz_kEach ?zz_aCheckOutcomes ?zz_lCheckOutcomes ?zz_cCheckOutcomes ?zz_kCheckOutcomes ?zz_aOutcomeOf ?zz_lOutcomeOf ?zz_cOutcomeOf ?zz_kOutcomeOf ?zz_aOutcome ?zz_lOutcome ?zz_cOutcome ?zz_kOutcome ?zz_aSettled ?zz_lSettled ?zz_cSettled ?zz_kSettled ?zz_aLStart ?zz_lLStart ?zz_cLStart ?zz_kLStart ?zz_aLMixed ?zz_lLMixed ?zz_cLMixed ?zz_kLMixed ?zz_aLDraw ?zz_lLDraw ?zz_cLDraw ?zz_kLDraw ?zz_aLOne ?zz_lLOne ?zz_cLOne ?zz_kLOne ?zz_aLTurned ?zz_lLTurned ?zz_cLTurned ?zz_kLTurned ?zz_aLListed ?zz_lLListed ?zz_cLListed ?zz_kLListed ?zz_aLWords ?zz_lLWords ?zz_cLWords ?zz_kLWords ?zz_aLBook ?zz_lLBook ?zz_cLBook ?zz_kLBook ?zz_aLLot ?zz_lLLot ?zz_cLLot ?zz_kLLot ?zz_aLIsIn ?zz_lLIsIn ?zz_cLIsIn ?zz_kLIsIn ?zz_aLAll ?zz_lLAll ?zz_cLAll ?zz_kLAll ?zz_aLPairs ?zz_lLPairs ?zz_cLPairs ?zz_kLPairs ?zz_aLWord ?zz_lLWord ?zz_cLWord ?zz_kLWord ?zz_aLBadPairs ?zz_lLBadPairs ?zz_cLBadPairs ?zz_kLBadPairs ?zz_aLAsked ?zz_lLAsked ?zz_cLAsked ?zz_kLAsked ?zz_aLSettledWord ?zz_lLSettledWord ?zz_cLSettledWord ?zz_kLSettledWord ?zz_aLBadLot ?zz_lLBadLot ?zz_cLBadLot ?zz_kLBadLot ?zz_aLBadFilling ?zz_lLBadFilling ?zz_cLBadFilling ?zz_kLBadFilling ?zz_aLRefusalsRight ?zz_lLRefusalsRight ?zz_cLRefusalsRight ?zz_kLRefusalsRight ?zz_aLaw ?zz_lLaw ?zz_cLaw ?zz_kLaw ?zz_v_MOST_LETTERS ?zz_v_MOST_FIELDS ?zz_v_MOST_VALUES ?zz_v_MOST_RULES ?zz_v_MOST_PAIRS ?zz_v_MOST_FILLINGS ?zz_v_MOST_OUTCOMES ?zz_v_NO_OUTCOME ?zz_z_isinstance ?zz_z_list ?zz_z_tuple ?zz_z_str ?zz_z_len ?zz_z_all ?zz_z_set ?zz_z_dict ?zz_z_int ?zz_z_range ?zz_z_repr
    (case zz_g0 => k_is)
    (case zz_g1 => k_is)
    (case zz_gB => k_is)
    (case zz_gF => k_is)
    (case zz_aIsRow => k_is)
    (case zz_aIsPair => k_is)
    (case zz_aIsSmall => k_is)
    (case zz_aIsWord => k_is)
    (case zz_aUnlike => k_is)
    (case zz_aAreFacts => k_is)
    (case zz_aInSeq => k_is)
    (case zz_aInTuples => k_is)
    (case zz_aRowsThatFit => k_is)
    (case zz_aFillings => k_is)
    (case zz_aIsFilling => k_is)
    (case zz_aBars => k_is)
    (case zz_aOneStands => k_is)
    (case zz_aAreFields => k_is)
    (case zz_aAreValues => k_is)
    (case zz_aAreRules => k_is)
    (case zz_aWays => k_is)
    (case zz_aEach => k_is)
    (case zz_aCheckOutcomes => k_is)
    (case zz_aOutcomeOf => k_is)
    (case zz_aOutcome => k_is)
    (case zz_aSettled => k_is)
    (case zz_aLStart => k_is)
    (case zz_aLMixed => k_is)
    (case zz_aLDraw => k_is)
    (case zz_aLOne => k_is)
    (case zz_aLTurned => k_is)
    (case zz_aLListed => k_is)
    (case zz_aLWords => k_is)
    (case zz_aLBook => k_is)
    (case zz_aLLot => k_is)
    (case zz_aLIsIn => k_is)
    (case zz_aLAll => k_is)
    (case zz_aLPairs => k_is)
    (case zz_aLWord => k_is)
    (case zz_aLBadPairs => k_is)
    (case zz_aLAsked => k_is)
    (case zz_aLSettledWord => k_is)
    (case zz_aLBadLot => k_is)
    (case zz_aLBadFilling => k_is)
    (case zz_aLRefusalsRight => k_is)
    (case zz_aLaw => k_is)
    (case zz_ini0 => first | kx_is | k_is)
    (case zz_ovr0 => first | kx_is | k_is)
    (case zz_tkn0 => k_is)
    (case zz_sa0 => k_is)
    (case zz_ga0 => k_is)
    (case zz_gg0 => k_is)
    (case zz_no0 => k_is)
    (case zz_ic0 => k_is)
    (case zz_tc0 => k_is)
    (case zz_kc0 => k_is)
    (case zz_ex0 => k_is)
    (case zz_ty0 => k_is)
    (case zz_hd0 => k_is)
    (case zz_is0 => k_is)
    (case zz_cc0 => k_is)
    (case zz_mo0 => k_is)
    (case zz_lc0 => k_is)
    (case zz_cc0X => k_is)
    (case zz_s00 => k_is)
    (case zz_s01 => k_is)
    (case zz_sB0 => k_is)
    (case zz_ini1 => first | kx_is | k_is)
    (case zz_ovr1 => first | kx_is | k_is)
    (case zz_tkn1 => k_is)
    (case zz_sa1 => k_is)
    (case zz_ga1 => k_is)
    (case zz_gg1 => k_is)
    (case zz_no1 => k_is)
    (case zz_ic1 => k_is)
    (case zz_tc1 => k_is)
    (case zz_kc1 => k_is)
    (case zz_ex1 => k_is)
    (case zz_ty1 => k_is)
    (case zz_hd1 => k_is)
    (case zz_is1 => k_is)
    (case zz_cc1 => k_is)
    (case zz_mo1 => k_is)
    (case zz_lc1 => k_is)
    (case zz_cc1X => k_is)
    (case zz_s10 => k_is)
    (case zz_s11 => k_is)
    (case zz_sB1 => k_is)
    (case zz_exB => k_is)
    (case zz_tyB => k_is)
    (case zz_hdB => k_is)
    (case zz_isB => k_is)
    (case zz_sBB => k_is)
    (case zz_spG => k_is)
    (case zz_tkG => k_is)
    (case zz_pgF => k_is)
    (case zz_hdF => k_is)
    (case zz_poF => k_is)
    (case zz_saF => k_is)
    (case zz_nfF => k_is)
    (case zz_nrF => k_is)
    (case zz_ccF => k_is)
    (case zz_moF => k_is)
    (case zz_isF => k_is)
    (case zz_tyF => k_is)
    (case zz_sFF => k_is)
    (case zz_mkF => k_is)
    (case zz_kF => k_is)
    (case zz_aInit => k_is)
    (case zz_tInit => k_is)
    (case zz_lInit => k_is)
    (case zz_cInit => k_is)
    (case zz_kInit => k_is)
    (case zz_aFieldsM => k_is)
    (case zz_tFieldsM => k_is)
    (case zz_lFieldsM => k_is)
    (case zz_cFieldsM => k_is)
    (case zz_kFieldsM => k_is)
    (case zz_aRulesM => k_is)
    (case zz_tRulesM => k_is)
    (case zz_lRulesM => k_is)
    (case zz_cRulesM => k_is)
    (case zz_kRulesM => k_is)
    (case zz_aEqM => k_is)
    (case zz_tEqM => k_is)
    (case zz_lEqM => k_is)
    (case zz_cEqM => k_is)
    (case zz_kEqM => k_is)
    (case zz_nNoneType => k_is)
    (case zz_nbool => k_is)
    (case zz_nint => k_is)
    (case zz_nstr => k_is)
    (case zz_nlist => k_is)
    (case zz_ntuple => k_is)
    (case zz_lIsRow => k_is)
    (case zz_cIsRow => k_is)
    (case zz_kIsRow => k_is)
    (case zz_lIsPair => k_is)
    (case zz_cIsPair => k_is)
    (case zz_kIsPair => k_is)
    (case zz_lIsSmall => k_is)
    (case zz_cIsSmall => k_is)
    (case zz_kIsSmall => k_is)
    (case zz_lIsWord => k_is)
    (case zz_cIsWord => k_is)
    (case zz_kIsWord => k_is)
    (case zz_lUnlike => k_is)
    (case zz_cUnlike => k_is)
    (case zz_kUnlike => k_is)
    (case zz_lAreFacts => k_is)
    (case zz_cAreFacts => k_is)
    (case zz_kAreFacts => k_is)
    (case zz_lInSeq => k_is)
    (case zz_cInSeq => k_is)
    (case zz_kInSeq => k_is)
    (case zz_lInTuples => k_is)
    (case zz_cInTuples => k_is)
    (case zz_kInTuples => k_is)
    (case zz_lRowsThatFit => k_is)
    (case zz_cRowsThatFit => k_is)
    (case zz_kRowsThatFit => k_is)
    (case zz_lFillings => k_is)
    (case zz_cFillings => k_is)
    (case zz_kFillings => k_is)
    (case zz_lIsFilling => k_is)
    (case zz_cIsFilling => k_is)
    (case zz_kIsFilling => k_is)
    (case zz_lBars => k_is)
    (case zz_cBars => k_is)
    (case zz_kBars => k_is)
    (case zz_lOneStands => k_is)
    (case zz_cOneStands => k_is)
    (case zz_kOneStands => k_is)
    (case zz_lAreFields => k_is)
    (case zz_cAreFields => k_is)
    (case zz_kAreFields => k_is)
    (case zz_lAreValues => k_is)
    (case zz_cAreValues => k_is)
    (case zz_kAreValues => k_is)
    (case zz_lAreRules => k_is)
    (case zz_cAreRules => k_is)
    (case zz_kAreRules => k_is)
    (case zz_lWays => k_is)
    (case zz_cWays => k_is)
    (case zz_kWays => k_is)
    (case zz_lEach => k_is)
    (case zz_cEach => k_is)
    (case zz_kEach => k_is)
    (case zz_lCheckOutcomes => k_is)
    (case zz_cCheckOutcomes => k_is)
    (case zz_kCheckOutcomes => k_is)
    (case zz_lOutcomeOf => k_is)
    (case zz_cOutcomeOf => k_is)
    (case zz_kOutcomeOf => k_is)
    (case zz_lOutcome => k_is)
    (case zz_cOutcome => k_is)
    (case zz_kOutcome => k_is)
    (case zz_lSettled => k_is)
    (case zz_cSettled => k_is)
    (case zz_kSettled => k_is)
    (case zz_lLStart => k_is)
    (case zz_cLStart => k_is)
    (case zz_kLStart => k_is)
    (case zz_lLMixed => k_is)
    (case zz_cLMixed => k_is)
    (case zz_kLMixed => k_is)
    (case zz_lLDraw => k_is)
    (case zz_cLDraw => k_is)
    (case zz_kLDraw => k_is)
    (case zz_lLOne => k_is)
    (case zz_cLOne => k_is)
    (case zz_kLOne => k_is)
    (case zz_lLTurned => k_is)
    (case zz_cLTurned => k_is)
    (case zz_kLTurned => k_is)
    (case zz_lLListed => k_is)
    (case zz_cLListed => k_is)
    (case zz_kLListed => k_is)
    (case zz_lLWords => k_is)
    (case zz_cLWords => k_is)
    (case zz_kLWords => k_is)
    (case zz_lLBook => k_is)
    (case zz_cLBook => k_is)
    (case zz_kLBook => k_is)
    (case zz_lLLot => k_is)
    (case zz_cLLot => k_is)
    (case zz_kLLot => k_is)
    (case zz_lLIsIn => k_is)
    (case zz_cLIsIn => k_is)
    (case zz_kLIsIn => k_is)
    (case zz_lLAll => k_is)
    (case zz_cLAll => k_is)
    (case zz_kLAll => k_is)
    (case zz_lLPairs => k_is)
    (case zz_cLPairs => k_is)
    (case zz_kLPairs => k_is)
    (case zz_lLWord => k_is)
    (case zz_cLWord => k_is)
    (case zz_kLWord => k_is)
    (case zz_lLBadPairs => k_is)
    (case zz_cLBadPairs => k_is)
    (case zz_kLBadPairs => k_is)
    (case zz_lLAsked => k_is)
    (case zz_cLAsked => k_is)
    (case zz_kLAsked => k_is)
    (case zz_lLSettledWord => k_is)
    (case zz_cLSettledWord => k_is)
    (case zz_kLSettledWord => k_is)
    (case zz_lLBadLot => k_is)
    (case zz_cLBadLot => k_is)
    (case zz_kLBadLot => k_is)
    (case zz_lLBadFilling => k_is)
    (case zz_cLBadFilling => k_is)
    (case zz_kLBadFilling => k_is)
    (case zz_lLRefusalsRight => k_is)
    (case zz_cLRefusalsRight => k_is)
    (case zz_kLRefusalsRight => k_is)
    (case zz_lLaw => k_is)
    (case zz_cLaw => k_is)
    (case zz_kLaw => k_is)
    (case zz_v_MOST_LETTERS => exact ⟨_, by k_is⟩)
    (case zz_v_MOST_FIELDS => exact ⟨_, by k_is⟩)
    (case zz_v_MOST_VALUES => exact ⟨_, by k_is⟩)
    (case zz_v_MOST_RULES => exact ⟨_, by k_is⟩)
    (case zz_v_MOST_PAIRS => exact ⟨_, by k_is⟩)
    (case zz_v_MOST_FILLINGS => exact ⟨_, by k_is⟩)
    (case zz_v_MOST_OUTCOMES => exact ⟨_, by k_is⟩)
    (case zz_v_NO_OUTCOME => exact ⟨_, by k_is⟩)
    (case zz_z_isinstance => k_is)
    (case zz_z_list => k_is)
    (case zz_z_tuple => k_is)
    (case zz_z_str => k_is)
    (case zz_z_len => k_is)
    (case zz_z_all => k_is)
    (case zz_z_set => k_is)
    (case zz_z_dict => k_is)
    (case zz_z_int => k_is)
    (case zz_z_range => k_is)
    (case zz_z_repr => k_is)
