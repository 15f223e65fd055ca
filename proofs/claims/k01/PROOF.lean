import PyProof.Rows.All
import Wide.All
import OpenK.AllK
import Wide.FinOn
import HandS.ForMost
import HandS.Strs
import HandS.IsInst
import HandS.ForExc
import HandS.Walk
import HandS.Text
import HandS.TryOnly
import HandS.Dict
import HandS.Deep
import HandS.TryMany
import HandS.ExcCtx
import HandS.Hot
import HandS.HotCalls
import HandS.ExcField
import HandS.ExcIs
import KE.KExcInit
import HandS.DeepEq
import HandS.Wide
import HandS.ExcOwn
import HandS.Comp
import HandS.Conv
import HandS.Style
import HandS.TupAny
import HandS.MakeKwOnly
import HandS.OwnEq
import HandS.TupLe
import KE.KStrOpen
import KE.KExcLine
import PySem.Challenge.RW_sayfill_k01_forms
set_option Elab.async false
set_option linter.all false
set_option maxRecDepth 100000
set_option maxHeartbeats 4000000
/-! dict(x): x a list, or a tuple that is kept as it was made; its pairs lists or tuples of two. And tuples kept so. -/
namespace XD
open PySem PySem.Spec PyProof.Rows L2
/-- a list or a tuple of just these -/
def IsPr (h : Heap) (b : Addr) (items : Array Value) : Prop := IsTup h b items ∨ h.IsList b items
theorem IsPr.lt {h : Heap} {b : Addr} {it : Array Value} (x : IsPr h b it) : b < h.objs.size := by
  rcases x with ⟨o, e, _⟩ | ⟨o, e, _⟩ <;> exact Heap.lt_size e
theorem IsPr.at {h h' : Heap} {b : Addr} {it : Array Value} (x : IsPr h b it) (k : ∀ o, h.get? b = some o → h'.get? b = some o) : IsPr h' b it := by
  rcases x with ⟨o, e, r⟩ | ⟨o, e, r⟩
  · exact .inl ⟨o, k _ e, r⟩
  · exact .inr ⟨o, k _ e, r⟩
structure Iter1 (prog : Program) (w : World) (A : Around) (I l : Addr) (items : Array Value) (St : Nat → Heap → Prop) : Prop where
  item : ∀ {i : Nat} {s : Shared} {x : Value} {Q : Option Value → Shared → Prop} {E : Value → Shared → Prop}, St i s.heap → items[i]? = some x →
    (∀ h', St (i + 1) h' → Heap.SameBut I s.heap h' → Q (some x) { s with heap := h' }) → wpAny (model prog w) A (pyNext (.ref I)) Q E s
  done : ∀ {i : Nat} {s : Shared} {Q : Option Value → Shared → Prop} {E : Value → Shared → Prop}, St i s.heap → items[i]? = none →
    (∀ h', Heap.ExtBut I s.heap h' → Q none { s with heap := h' }) → wpAny (model prog w) A (pyNext (.ref I)) Q E s
  keep : ∀ {i : Nat} {h h' : Heap}, St i h → (∀ b o, b = I ∨ b = l → h.get? b = some o → h'.get? b = some o) → St i h'
section
variable {prog : Program} {w : World} {A : Around} {E : Value → Shared → Prop}
theorem iter_list {I l : Addr} {items : Array Value} (hh : A.handled = none) (hne : l ≠ I) : Iter1 prog w A I l items (fun i h => h.IsListIter I l i ∧ h.IsList l items) where
  item := fun st hx hq => wpAny_pyNext_list_item st.1 st.2 hx fun h' it' same => hq h' ⟨it', st.2.extBut same.extBut hne⟩ same
  done := fun st hx hq => wpAny_pyNext_list_end hh st.1 st.2 hx hq
  keep := fun st k => ⟨st.1.at fun o e => k _ o (.inl rfl) e, st.2.at fun o e => k _ o (.inr rfl) e⟩
theorem iter_tup {I l : Addr} {items : Array Value} (hh : A.handled = none) (hne : l ≠ I) : Iter1 prog w A I l items (fun i h => h.IsTupleIter I l i ∧ h.IsTuple l items) where
  item := fun st hx hq => wpAny_pyNext_tuple_item st.1 st.2 hx fun h' it' same => hq h' ⟨it', st.2.extBut same.extBut hne⟩ same
  done := fun st hx hq => wpAny_pyNext_tuple_end hh st.1 st.2 hx hq
  keep := fun st k => ⟨st.1.at fun o e => k _ o (.inl rfl) e, by
    obtain ⟨o, e, r⟩ := st.2
    exact ⟨o, k _ o (.inr rfl) e, r⟩⟩
/-- the walk over the pairs, whatever walks -/
theorem pair_loop {R : Result → Shared → Prop} {S I l : Addr} {items : Array Value} {St : Nat → Heap → Prop} {res : Value} (W : Iter1 prog w A.in1 I l items St) (hSI : S ≠ I) (hSl : S ≠ l) :
    ∀ (rest : List (Key × Value)) (i : Nat) (acc : List (Key × Value)) (ix : Int) (t : Tok) (s : Shared), items.size = i + rest.length → acc.length + rest.length ≤ sizeLine →
      (∀ (j : Nat) (q : Key × Value), rest[j]? = some q → ∃ (b : Addr) (u : Value), items[i + j]? = some (.ref b) ∧ b ≠ S ∧ b ≠ I ∧ IsPr s.heap b #[u, q.2] ∧ keyIs q.1 u = true) →
      St i s.heap → s.heap.DictOf (mixKind prog w) S acc →
      (∀ h' tk, h'.DictOf (mixKind prog w) S (merged acc rest) → (∀ b o, b ≠ S → b ≠ I → s.heap.get? b = some o → h'.get? b = some o) → R (.ok (.ret res)) { s with heap := h', toks := tk }) →
      codeAny (model prog w) A (.builtin "dict.update.loop" ⟨[.ref S, .ref I, .int ix t, res], []⟩) R s := by
  intro rest
  induction rest with
  | nil =>
    intro i acc ix t s hsz hln ht st hm hR
    refine codeAny_builtin ud_entry ?_
    rw [Around.under_plainId ud_plain _]
    show wpAny _ A.in1 (pyNext (.ref I) >>= _) _ _ s
    refine wpAny_bind (W.done st (by first | exact Array.getElem?_eq_none (Nat.le_of_eq hsz) | (simp at hsz; simp; omega)) fun h' he => ?_)
    show wpAny _ A.in1 (Builtin.Dict.addKeywords S [] >>= _) _ _ _
    refine wpAny_bind (wpAny_pure (wpAny_pure ?_))
    exact hR h' s.toks (hm.extBut he hSI) fun b o _ hb e => he b o hb e
  | cons q rest ih =>
    intro i acc ix t s hsz hln ht st hm hR
    obtain ⟨b, u, hb, hbS, hbI, hpr, hk⟩ := ht 0 q rfl
    rw [List.length_cons] at hsz hln
    refine codeAny_builtin ud_entry ?_
    rw [Around.under_plainId ud_plain _]
    show wpAny _ A.in1 (pyNext (.ref I) >>= _) _ _ s
    refine wpAny_bind (W.item (x := .ref b) st (by simpa using hb) fun h1 st1 hs1 => ?_)
    have pr1 : IsPr h1 b #[u, q.2] := hpr.at fun o e => hs1.extBut b o hbI e
    have hm1 : h1.DictOf (mixKind prog w) S acc := hm.extBut hs1.extBut hSI
    show wpAny _ A.in1 (holding [Value.ref b] _ >>= _) _ _ _
    refine wpAny_bind (wpAny_holding ?_)
    refine wpAny_bind (wpAny_tryCatch ?_)
    unfold Builtin.Dict.pairItems
    -- behind the two items: the store, then the next turn
    have go : wpAny (model prog w) A.in1 (holding [u, q.2] (dictSet S u q.2)) (fun _ s' => ∀ (ix' : Int) (t' : Tok), codeAny (model prog w) A (.builtin "dict.update.loop" ⟨[.ref S, .ref I, .int ix' t', res], []⟩) R s') (fun e s' => R (.error e) s') { s with heap := h1 } := by
      refine wpAny_holding (wpAny_dictSet_pairs (knd := mixKind prog w) (k := q.1) hk hm1 (fun h2 hm2 hs2 => ?_) (by omega))
      intro ix' t'
      refine ih (i + 1) (stored acc q.1 q.2) ix' t' _ (show items.size = i + 1 + rest.length by omega) ?_ (fun j q' e => ?_) ?_ hm2 fun h' tk hd' k => ?_
      · have z := stored_length_le acc q.1 q.2
        omega
      · obtain ⟨b', u', hb', hbS', hbI', hp', hk'⟩ := ht (j + 1) q' (by simpa using e)
        refine ⟨b', u', ?_, hbS', hbI', (hp'.at fun o e => hs1.extBut b' o hbI' e).at fun o e => hs2.extBut b' o hbS' e, hk'⟩
        rw [show i + 1 + j = i + (j + 1) by omega]
        exact hb'
      · exact W.keep st1 fun c o hc e => hs2.extBut c o (by rcases hc with rfl | rfl; exact Ne.symm hSI; exact Ne.symm hSl) e
      · exact hR h' tk hd' fun c oc h3 h4 e => k c oc h3 h4 (hs2.extBut c oc h3 (hs1.extBut c oc h4 e))
    rcases pr1 with ⟨o, ho, hc, n, hd⟩ | ⟨o, ho, hc, n, hd⟩
    · refine wpAny_bind (wpAny_typeOf (T := "tuple") ⟨o, ho, hc⟩ ?_)
      rw [if_pos (by first | decide | rfl | simp)]
      refine wpAny_bind (wpAny_seqItems ho hd (wpAny_pure ?_))
      show wpAny _ A.in1 (holding [u, q.2] (dictSet S u q.2)) _ _ _
      exact wpAny_mono go (fun _ s' z => wpAny_pure ⟨plainId_quiet ud_plain _, z _ _⟩) fun _ _ z => z
    · refine wpAny_bind (wpAny_typeOf (T := "list") ⟨o, ho, hc⟩ ?_)
      rw [if_pos (by first | decide | rfl | simp)]
      refine wpAny_bind (wpAny_seqItems ho hd (wpAny_pure ?_))
      show wpAny _ A.in1 (holding [u, q.2] (dictSet S u q.2)) _ _ _
      exact wpAny_mono go (fun _ s' z => wpAny_pure ⟨plainId_quiet ud_plain _, z _ _⟩) fun _ _ z => z
theorem tuple_no_keys : typeLookup (.type "tuple") "keys" = pure none := am_miss_of_fast (by first | decide +kernel | rfl)
/-- a tuple has no attribute 'keys' -/
theorem miss_tuple {s : Shared} {a : Addr} {o : Obj} {xs : Array Value} {k : Nat} {Q : Option Value → Shared → Prop} (hx : s.heap.get? a = some o) (hc : o.cls = .type "tuple") (hdat : o.data = .seq xs k) (hd : o.dict = none) (hA : A.handled = none)
    (h : ∀ h' tk, (∀ b ob, s.heap.get? b = some ob → h'.get? b = some ob) → Q none { s with heap := h', toks := tk }) : wpAny (model prog w) A (getAttr? (.ref a) "keys") Q E s := by
  obtain ⟨c, dct, dat, sl⟩ := o
  simp only at hc hdat hd
  subst hc hdat hd
  obtain ⟨hp, g, d, tk, os⟩ := s
  have hT : ∀ tk', (⟨hp, g, d, tk', os⟩ : Shared).TypeIs (.ref a) "tuple" := fun _ => ⟨_, hx, rfl⟩
  have hmiss := tuple_no_keys
  have hname : (["__module__", "__name__", "__qualname__", "__doc__", "__annotations__"] : List Str).contains "keys" = false := by decide +kernel
  have hsz : ("keys" : Str).length + 100 ≤ sizeLine := by first | size_fits | decide +kernel
  have f1 := sub_AttributeError
  have f3 := PySem.F.slot_tuple_getattribute.lookup
  have f4 := PySem.F.slot_tuple_getattribute.bind (.ref a)
  have f5 := am_tuple_getattr_none
  unfold getAttr? getAttrBy? getAttrBy
  repeat (any_goals (first | assumption | exact hT _ | ((with_reducible show wpAny _ _ (call (Value.builtin "tuple.__getattribute__") _ _) _ _ _); refine call_meets PySem.F.slot_tuple_getattribute (hT _) am_entry_tuple_getattribute (PySem.F.args_tuple_getattribute_2 _ _) (meets_getattribute_miss_tuple a xs k sl "keys" _ hmiss hname hsz) ⟨hx, hA, fun h' tk' e hx' => ?_⟩) | wp_step))
  obtain ⟨t', u', he⟩ := hx'.there
  show wpAny _ _ (getattributeRaised _ _ _ _ _ _ _) _ _ _
  unfold getattributeRaised
  repeat (any_goals (first | assumption | wp_step))
  all_goals first | exact h _ _ hx'.keeps | (dsimp only; repeat (any_goals (first | assumption | exact h _ _ hx'.keeps | wp_step)))
/-- dict(l), l a list or a tuple -/
theorem dict_pairs {s : Shared} {l : Addr} {ol : Obj} {items : Array Value} {n : Nat} {prs : List (Key × Value)} {Q : Value → Shared → Prop} (hh : A.handled = none) (hl : s.heap.get? l = some ol) (hc : ol.cls = .type "list" ∨ ol.cls = .type "tuple") (hd : ol.dict = none)
    (hdat : ol.data = .seq items n) (hsz : items.size = prs.length) (hln : prs.length ≤ sizeLine)
    (ht : ∀ (j : Nat) (q : Key × Value), prs[j]? = some q → ∃ (b : Addr) (u : Value), items[j]? = some (.ref b) ∧ IsPr s.heap b #[u, q.2] ∧ keyIs q.1 u = true)
    (h : ∀ h' tk, h'.DictOf (mixKind prog w) s.heap.objs.size (merged [] prs) → (∀ b o, s.heap.get? b = some o → h'.get? b = some o) → Q (.ref s.heap.objs.size) { s with heap := h', toks := tk }) :
    wpAny (model prog w) A (call (.type "dict") [.ref l]) Q E s := by
  refine callType_codes (Q₁ := fun obj s₁ => obj = .ref s.heap.objs.size ∧ s₁ = { s with heap := s.heap.push { cls := .type "dict", data := .dict #[] } }) PySem.F.kt_called_dict (PySem.F.kt_typeCall_dict_1 _) PySem.F.entry_dict_init (kt_code_dict_new _ ⟨rfl, rfl⟩) ?_
  rintro obj s₁ ⟨rfl, rfl⟩
  have hnew : (s.heap.push { cls := .type "dict", data := .dict #[] }).DictOf (mixKind prog w) s.heap.objs.size [] := Heap.DictOf.new s.heap
  have k0 : ∀ b o, s.heap.get? b = some o → (s.heap.push { cls := .type "dict", data := .dict #[] }).get? b = some o := fun b o e => Heap.get?_push_of_some _ e
  have lt : l < s.heap.objs.size := Heap.lt_size hl
  refine ⟨hnew.typeIs, PySem.F.args_dict_init_2 _ _, ?_⟩
  unfold Builtin.«dict.__init__»
  refine wpAny_bind ?_
  unfold Builtin.Dict.selfAndRest
  refine wpAny_bind (wpAny_notOrdered_dict hnew.typeIs ?_)
  show wpAny _ _ (pure (s.heap.objs.size, [Value.ref l])) _ _ _
  refine wpAny_pure ?_
  show wpAny _ _ (Builtin.Dict.updateFrom "dict.__init__" s.heap.objs.size (.ref l) [] .none) _ _ _
  unfold Builtin.Dict.updateFrom
  -- behind the question for 'keys': the iterator, then the walk
  have walk : ∀ {h1 : Heap} {tk1 : Nat} {I : Addr} {it : Obj} {St : Nat → Heap → Prop}, Iter1 prog w A.in1.in1 I l items St → (∀ b o, (s.heap.push { cls := .type "dict", data := .dict #[] }).get? b = some o → h1.get? b = some o) → I = h1.objs.size → St 0 (h1.push it) →
      codeAny (model prog w) A.in1 (.builtin "dict.update.loop" ⟨[.ref s.heap.objs.size, .ref I, .int 0 0, .none], []⟩) (wants (fun r s₂ => r = .none ∧ Q (.ref s.heap.objs.size) s₂) E) { s with heap := h1.push it, toks := tk1 } := by
    intro h1 tk1 I it St W k1 eI st
    have S1 : s.heap.objs.size < h1.objs.size := by
      have e : (s.heap.push { cls := .type "dict", data := .dict #[] }).get? s.heap.objs.size = some { cls := .type "dict", data := .dict #[] } := Heap.get?_push_size _ rfl
      exact Heap.lt_size (k1 _ _ e)
    have k2 : ∀ b o, s.heap.get? b = some o → (h1.push it).get? b = some o := fun b o e => Heap.get?_push_of_some _ (k1 _ _ (k0 _ _ e))
    subst eI
    refine pair_loop (A := A.in1) W (Nat.ne_of_lt S1) (Nat.ne_of_gt lt) prs 0 [] 0 0 { s with heap := h1.push it, toks := tk1 } (by rw [hsz, Nat.zero_add]) (by rw [List.length_nil, Nat.zero_add]; exact hln)
      (fun j q e => ?_) st ((hnew.at fun o e => k1 _ _ e).at fun o e => Heap.get?_push_of_some _ e) (fun h' tk hd' k => ?_)
    · obtain ⟨b, u, e1, e2, e3⟩ := ht j q e
      have hb : b < s.heap.objs.size := e2.lt
      exact ⟨b, u, by rw [Nat.zero_add]; exact e1, Nat.ne_of_lt hb, Nat.ne_of_lt (Nat.lt_trans hb S1), e2.at fun o z => k2 _ _ z, e3⟩
    · exact ⟨rfl, h h' tk hd' fun b o e => k b o (Nat.ne_of_lt (Heap.lt_size e)) (Nat.ne_of_lt (Nat.lt_trans (Heap.lt_size e) S1)) (k2 _ _ e)⟩
  rcases hc with hc | hc
  · refine wpAny_bind (wpAny_typeOf (T := "list") ⟨ol, k0 _ _ hl, hc⟩ ?_)
    rw [if_pos (by first | decide | rfl | simp)]
    refine wpAny_bind (miss_list (k0 _ _ hl) hc hdat hd hh fun h1 tk1 hk1 => ?_)
    rw [if_pos (show (none : Option Value).isNone = true from rfl)]
    refine wpAny_bind (wpAny_rule ?_)
    have hl1 : h1.IsList l items := ⟨ol, hk1 _ _ (k0 _ _ hl), hc, n, hdat⟩
    refine wpAny_bind (wpAny_pyIter_list hl1 ?_)
    have lt1 : l < h1.objs.size := by
      obtain ⟨o, e, _⟩ := hl1
      exact Heap.lt_size e
    have key := walk (tk1 := tk1) (it := { cls := .type "list_iterator", data := .fields #[.ref l, .int 0 0] }) (iter_list (A := A.in1.in1) hh (Nat.ne_of_lt lt1)) hk1 rfl ⟨⟨_, Heap.get?_push_size _ rfl, rfl, rfl⟩, hl1.at fun o e => Heap.get?_push_of_some _ e⟩
    first
      | exact wpAny_pure ⟨plainId_quiet ud_plain _, key⟩
      | exact wpAny_bind (wpAny_pure (wpAny_pure ⟨plainId_quiet ud_plain _, key⟩))
  · refine wpAny_bind (wpAny_typeOf (T := "tuple") ⟨ol, k0 _ _ hl, hc⟩ ?_)
    rw [if_pos (by first | decide | rfl | simp)]
    refine wpAny_bind (miss_tuple (k0 _ _ hl) hc hdat hd hh fun h1 tk1 hk1 => ?_)
    rw [if_pos (show (none : Option Value).isNone = true from rfl)]
    refine wpAny_bind (wpAny_rule ?_)
    have hl1 : h1.IsTuple l items := ⟨ol, hk1 _ _ (k0 _ _ hl), hc, n, hdat⟩
    refine wpAny_bind (wpAny_pyIter_tuple hl1 ?_)
    have lt1 : l < h1.objs.size := by
      obtain ⟨o, e, _⟩ := hl1
      exact Heap.lt_size e
    have key := walk (tk1 := tk1) (it := { cls := .type "tuple_iterator", data := .fields #[.ref l, .int 0 0] }) (iter_tup (A := A.in1.in1) hh (Nat.ne_of_lt lt1)) hk1 rfl ⟨⟨_, Heap.get?_push_size _ rfl, rfl, rfl⟩, by
      obtain ⟨o, e, r⟩ := hl1
      exact ⟨o, Heap.get?_push_of_some _ e, r⟩⟩
    first
      | exact wpAny_pure ⟨plainId_quiet ud_plain _, key⟩
      | exact wpAny_bind (wpAny_pure (wpAny_pure ⟨plainId_quiet ud_plain _, key⟩))
end
end XD

namespace XD
open PySem PySem.Spec PyProof.Rows L2
/-- a tuple that is kept as it was made: it has no dict of its own -/
def SqZ (H : Hp) (a : Addr) (xs : List V) : Prop := ∃ o : Obj, H a = some (.frz o (.tup xs)) ∧ o.dict = none
theorem SqZ.sqT {K : PySem.W.Frag} {H : Hp} {a : Addr} {xs : List V} (h : SqZ H a xs) : SqT K H a xs := by
  obtain ⟨o, e, _⟩ := h
  exact .inl (.inr ⟨o, e⟩)
theorem SqZ.same {H H' : Hp} {a : Addr} {xs : List V} (h : SqZ H a xs) (s : ∀ b o, H b = some o → H' b = some o) : SqZ H' a xs := by
  obtain ⟨o, e, d⟩ := h
  exact ⟨o, s _ _ e, d⟩
section
variable {X : Cx}
theorem prs_of {pins : List (Addr × Obj)} {σ : L2.St} {H : Hp} {s : Shared} (I : Inv X pins σ H s) : ∀ {ps : List Addr} {kvs : List (Key × V)}, Paired (fun p kv => SqT X.K H p [kV kv.1, kv.2] ∨ SqL X.K H p [kV kv.1, kv.2]) ps kvs →
    ∃ prs : List (Key × Value), KV kvs prs ∧ prs.length = ps.length ∧ ∀ (j : Nat) (q : Key × Value), prs[j]? = some q → ∃ (b : Addr) (u : Value), ps[j]? = some b ∧ IsPr s.heap b #[u, q.2] ∧ keyIs q.1 u = true
  | _, _, .nil => ⟨[], .nil, rfl, fun j q e => by simp at e⟩
  | _, _, .cons (a := p) (b := kv) h t => by
    obtain ⟨prs, r, hl, hp⟩ := prs_of I t
    obtain ⟨u, y, ru, ry, ht⟩ : ∃ u y, RelV (kV kv.1) u ∧ RelV kv.2 y ∧ IsPr s.heap p #[u, y] := by
      rcases h with h | h
      · obtain ⟨its, rv, ht, _⟩ := I.tuple h
        obtain ⟨u, y, ei, ru, ry⟩ := vals2 rv
        subst ei
        exact ⟨u, y, ru, ry, .inl ht⟩
      · obtain ⟨its, rv, ht, _⟩ := I.list h
        obtain ⟨u, y, ei, ru, ry⟩ := vals2 rv
        subst ei
        exact ⟨u, y, ru, ry, .inr ht.isList⟩
    refine ⟨(kv.1, y) :: prs, .cons ⟨rfl, ry⟩ r, by rw [List.length_cons, List.length_cons, hl], fun j q e => ?_⟩
    cases j with
    | zero =>
      have e' : (kv.1, y) = q := Option.some.inj e
      subst e'
      exact ⟨p, u, rfl, ht, kV_is (P := X.prog) (w := X.w) ru⟩
    | succ j =>
      obtain ⟨b, u', e1, e2, e3⟩ := hp j q (by simpa using e)
      exact ⟨b, u', by simpa using e1, e2, e3⟩
def rDictZ (K : PySem.W.Frag) : List V → Hp → VK → Prop := fun xs H Q => ∃ (a : Addr) (ps : List Addr) (kvs : List (Key × V)), xs = [.ref a] ∧ (SqL K H a (ps.map V.ref) ∨ SqZ H a (ps.map V.ref)) ∧
  Paired (fun p kv => SqT K H p [kV kv.1, kv.2] ∨ SqL K H p [kV kv.1, kv.2]) ps kvs ∧ ∀ p, H p = none → Q (.ref p) (upd H p (.dK (mergeK [] kvs)))
/-- dict(xs) of a list or a kept tuple of pairs -/
theorem call_dictZ (hcalm : X.calm = true) : CallR X (.type "dict") (rDictZ X.K) := by
  intro pins s σ H xs us Q I r q
  obtain ⟨a, ps, kvs, rfl, hq, hp, q⟩ := q
  obtain ⟨u, rfl, rx⟩ := vals1 r
  cases rx
  obtain ⟨prs, rel, hl, hpr⟩ := prs_of I hp
  obtain ⟨o, n, ho, hc, hd, hdat, hz⟩ : ∃ (o : Obj) (n : Nat), s.heap.get? a = some o ∧ (o.cls = .type "list" ∨ o.cls = .type "tuple") ∧ o.dict = none ∧ o.data = .seq (ps.map Value.ref).toArray n ∧ ps.length ≤ sizeLine := by
    rcases hq with hq | ⟨o, e, hd⟩
    · obtain ⟨its, rv, pl, hz⟩ := I.list hq
      have ei := refs_at rv
      subst ei
      obtain ⟨o, n, ho, hc, hd, hdat⟩ := pl
      exact ⟨o, n, ho, .inl hc, hd, hdat, by rw [List.length_map] at hz; exact hz⟩
    · have ok : ObjOk X.prog X.w H s.heap a (.frz o (.tup (ps.map V.ref))) := I.hok a _ e
      obtain ⟨ho, hz, its, rv, o2, ho2, hc, n, hdat⟩ := ok
      rw [ho] at ho2
      cases ho2
      have ei := refs_at rv
      subst ei
      exact ⟨o, n, ho, .inr hc, hd, hdat, by rw [List.length_map] at hz; exact hz⟩
  refine dict_pairs (prs := prs) (I.ok.hd hcalm) ho hc hd hdat (by simp [hl]) (by rw [hl]; exact hz) (fun j q' e => ?_) fun h' tk hd' k => ?_
  · obtain ⟨b, u, e1, e2, e3⟩ := hpr j q' e
    exact ⟨b, u, by simp [e1], e2, e3⟩
  · have hm : (s.heap.objs.size == sysModules) = false := beq_eq_false_iff_ne.mpr (Nat.ne_of_gt I.big)
    have hlen : (mergeK [] kvs).length ≤ sizeLine := by
      refine Nat.le_trans (length_mergeK kvs []) ?_
      rw [List.length_nil, Nat.zero_add, rel.length, hl]
      exact hz
    exact ⟨.ref s.heap.objs.size, upd H s.heap.objs.size (.dK (mergeK [] kvs)), I.laid (t' := tk) k (Nat.le_refl _) (show ObjOk X.prog X.w _ _ _ (.dK (mergeK [] kvs)) from ⟨hlen, hm, merged [] prs, KV.merge rel .nil, hd'⟩), rfl, q _ (I.hok.fresh (Nat.le_refl _))⟩
/-- tuple(xs) of a list: a tuple that is kept; of a tuple: itself -/
def rTupZ (K : PySem.W.Frag) : List V → Hp → VK → Prop := fun xs H Q => ∃ (p : Addr) (ys : List V), xs = [.ref p] ∧
  ((SqL K H p ys ∧ ∀ l o, H l = none → o.dict = none → Q (.ref l) (upd H l (.frz o (.tup ys)))) ∨ (SqT K H p ys ∧ Q (.ref p) H))
theorem call_tupZ : CallR X (.type "tuple") (rTupZ X.K) := by
  intro pins s σ H xs us Q I r h
  obtain ⟨p, ys, rfl, h⟩ := h
  obtain ⟨u, rfl, rx⟩ := vals1 r
  cases rx
  rcases h with ⟨hq, q⟩ | ⟨hq, q⟩
  · obtain ⟨its, r', pl, hz⟩ := I.list hq
    have hlen := r'.length
    refine call_tuple_list pl.isList (fun h' kp => ?_) (by simp only [List.size_toArray] <;> omega)
    have I1 : Inv X pins σ H { s with heap := h' } := I.kept (t' := s.toks) kp
    have I2 : Inv X pins σ (upd H h'.objs.size (.frz { cls := .type "tuple", data := .seq its.toArray } (.tup ys))) { s with heap := h'.push { cls := .type "tuple", data := .seq its.toArray } } :=
      I1.laid (t' := s.toks) (fun b o e => Heap.get?_push_of_some _ e) (Nat.le_refl _) (show ObjOk X.prog X.w _ _ _ (.frz _ (.tup ys)) from ⟨Heap.get?_push_size _ rfl, hz, its, r', IsTup.new _ _⟩)
    exact ⟨.ref h'.objs.size, _, I2, rfl, q _ _ (I1.hok.fresh (Nat.le_refl _)) rfl⟩
  · obtain ⟨its, r', pl, hz⟩ := I.tuple hq
    exact call_tuple_same pl ⟨.ref p, H, I, rfl, q⟩
/-- a written tuple, kept as it is made -/
def tTupZ (t : TA) : TE := fun σ H Q => t σ H fun xs H1 => xs.length ≤ sizeLine ∧ ∀ p o, H1 p = none → o.dict = none → Q (.ref p) (upd H1 p (.frz o (.tup xs)))
theorem pe_tupZ {es : List Expr} {t : TA} {x1 : Nat} {pos : Pos} (h : PA X es t) : PE X (.Tuple es x1 pos) (tTupZ t) := by
  refine ⟨fun pins s σ H Q I hq => ?_⟩
  refine wpAny_Tuple_spliced (thn (h.run pos pins s σ H _ I hq) fun us s1 ⟨xs, H1, I1, r, z, q⟩ => ⟨by rw [← r.length]; exact z, ?_⟩)
  have hf : H1 s1.heap.objs.size = none := I1.hok.fresh (Nat.le_refl _)
  refine ⟨.ref s1.heap.objs.size, upd H1 s1.heap.objs.size (.frz { cls := .type "tuple", data := .seq us.toArray } (.tup xs)), I1.laid (t' := s1.toks) (fun b u e => Heap.get?_push_of_some _ e) (Nat.le_refl _) ?_, rfl, q _ _ hf rfl⟩
  exact ⟨Heap.get?_push_size _ rfl, z, us, r, ⟨_, Heap.get?_push_size _ rfl, rfl, _, rfl⟩⟩
end
end XD
set_option Elab.async false
set_option linter.all false
set_option maxRecDepth 100000
set_option maxHeartbeats 4000000
/-! len(set(xs)): xs a list or a tuple of texts, however many are alike. -/
namespace XS
open PySem PySem.Spec PyProof.Rows
/-- how many unlike ones are among the first i -/
def un (xs : List Str) : Nat → Nat
  | 0 => 0
  | i + 1 => if (xs.take i).any (· == xs.getD i Str.empty) = true then un xs i else un xs i + 1
theorem un_le (xs : List Str) : ∀ i, un xs i ≤ i
  | 0 => Nat.le_refl 0
  | i + 1 => by
    have := un_le xs i
    unfold un
    split <;> omega
theorem take_next {xs : List Str} {i : Nat} (h : i < xs.length) : xs.take (i + 1) = xs.take i ++ [xs.getD i Str.empty] := by
  rw [List.take_succ_eq_append_getElem h, List.getD_eq_getElem?_getD, List.getElem?_eq_getElem h]
  rfl
theorem any_next {xs : List Str} {i : Nat} (h : i < xs.length) (k : Str) : (xs.take (i + 1)).any (· == k) = ((xs.take i).any (· == k) || decide (k = xs.getD i Str.empty)) := by
  rw [take_next h, List.any_append]
  congr 1
  by_cases e : k = xs.getD i Str.empty
  · rw [decide_eq_true e, e]
    simp
  · rw [decide_eq_false e]
    simp
    exact fun z => e z.symm
theorem un_nodup (xs : List Str) : ∀ i, i ≤ xs.length → (un xs i = i ↔ (xs.take i).Nodup)
  | 0, _ => by simp [un]
  | i + 1, h => by
    have lt : i < xs.length := h
    have ih := un_nodup xs i (Nat.le_of_lt lt)
    have le := un_le xs i
    rw [take_next lt, List.nodup_append]
    unfold un
    by_cases e : (xs.take i).any (· == xs.getD i Str.empty) = true
    · rw [if_pos e]
      obtain ⟨y, hy, z⟩ := List.any_eq_true.mp e
      have z' : y = xs.getD i Str.empty := beq_iff_eq.mp z
      constructor
      · intro q
        omega
      · rintro ⟨_, _, q⟩
        exact absurd z' (q y hy _ (List.mem_singleton.mpr rfl))
    · rw [if_neg e]
      constructor
      · intro q
        refine ⟨ih.mp (by omega), by simp, fun a ha b hb ab => e (List.any_eq_true.mpr ⟨a, ha, ?_⟩)⟩
        rw [List.mem_singleton.mp hb] at ab
        exact beq_iff_eq.mpr ab
      · rintro ⟨q, _, _⟩
        have := ih.mpr q
        omega
/-- unlike all: as many as there are -/
theorem un_all {xs : List Str} : decide (un xs xs.length = xs.length) = decide xs.Nodup := by
  have h := un_nodup xs xs.length (Nat.le_refl _)
  rw [List.take_length] at h
  exact decide_eq_decide.mpr h
section
variable {prog : Program} {w : World} {A : Around} {R : Result → Shared → Prop} {I : Addr} {fp wr : List Addr} {G : Array GenState → Array GenState → Prop} {n : Nat} {P : Nat → Value → Prop} {St : Nat → Shared → Prop}
theorem set_loop (W : WalksS prog w A.in1 I fp wr G n P St) (S : Addr) (hSf : S ∉ fp) (xs : List Str) (hsz : xs.length = n) (hb : n + 1 < scanBound)
    (hval : ∀ i v, P i v → ∃ t, v = .str (xs.getD i Str.empty) t) :
    ∀ (k i : Nat) (s : Shared), n - i = k → i ≤ n → St i s → s.heap.SetOf (PySem.strKind prog w) S (fun k' => (xs.take i).any (· == k')) (un xs i) →
      (∀ s', Moved (S :: wr) G s s' → s'.heap.SetOf (PySem.strKind prog w) S (fun k' => (xs.take n).any (· == k')) (un xs n) → R (.ok (.ret .none)) s') →
      codeAny (model prog w) A (.builtin "set.update.loop" ⟨[.ref S, .ref I], []⟩) R s := by
  have hSw : S ∉ wr := fun h => hSf (W.sub _ h)
  have more : ∀ b ∈ wr, b ∈ S :: wr := fun b hb => List.mem_cons_of_mem _ hb
  intro k
  induction k with
  | zero =>
    intro i s hk hi hst hS hR
    obtain rfl : i = n := by omega
    refine codeAny_builtin PyProof.Rows.F.entry_set_update_loop ?_
    rw [Around.under_plainId PyProof.Rows.F.plain_set_update_loop _]
    show wpAny _ A.in1 (pyNext (.ref I) >>= _) _ _ s
    refine wpAny_bind (W.done s _ _ hst fun s' hm => ?_)
    show wpAny _ A.in1 (ret Value.none) _ _ s'
    refine wpAny_pure (hR s' (hm.mono more) ?_)
    obtain ⟨o, es, ep, t, ho, rest⟩ := hS
    exact ⟨o, es, ep, t, hm.heap S _ hSw ho, rest⟩
  | succ k ih =>
    intro i s hk hi hst hS hR
    have hlt : i < n := by omega
    have hlx : i < xs.length := by omega
    refine codeAny_builtin PyProof.Rows.F.entry_set_update_loop ?_
    rw [Around.under_plainId PyProof.Rows.F.plain_set_update_loop _]
    show wpAny _ A.in1 (pyNext (.ref I) >>= _) _ _ s
    refine wpAny_bind (W.item i s _ _ hlt hst fun v s' hP hst' hm => ?_)
    obtain ⟨t, rfl⟩ := hval i v hP
    have hS' : s'.heap.SetOf (PySem.strKind prog w) S (fun k' => (xs.take i).any (· == k')) (un xs i) := by
      obtain ⟨o, es, ep, tb, ho, rest⟩ := hS
      exact ⟨o, es, ep, tb, hm.heap S _ hSw ho, rest⟩
    show wpAny _ A.in1 (holding [Value.str (xs.getD i Str.empty) t] (setAdd S (.str (xs.getD i Str.empty) t)) >>= _) _ _ s'
    refine wpAny_bind (wpAny_holding ?_)
    unfold setAdd
    refine wpAny_holding ?_
    refine wpAny_bind ((PySem.strKind prog w).pyHash (k := xs.getD i Str.empty) (strKind_is _ _ _ _) ?_)
    have room : un xs i + 1 < scanBound := by
      have := un_le xs i
      omega
    refine wpAny_setAddHashed_of (knd := PySem.strKind prog w) (s := { s' with toks := s'.toks + 1 }) (strKind_is _ _ _ _) rfl hS' room fun h' hsb hS2 => ?_
    have next : h'.SetOf (PySem.strKind prog w) S (fun k' => (xs.take (i + 1)).any (· == k')) (un xs (i + 1)) :=
      SetOf_congr hS2 (fun k' => (any_next hlx k').symm) rfl
    refine wpAny_pure ⟨plainId_quiet PyProof.Rows.F.plain_set_update_loop _, ih (i + 1) _ (by omega) hlt (W.frame _ s' _ _ hst' (Nat.le_succ _) fun b hb o e => ?_) next fun s'' hm'' hS'' => ?_⟩
    · rw [hsb.2 b (fun h : b = S => hSf (by rw [← h]; exact hb))]
      exact e
    · refine hR s'' (Moved.trans W.gtrans ((hm.mono more).then_heap (Nat.le_succ _) fun b o hb e => ?_) hm'') hS''
      rw [hsb.2 b (fun h : b = S => hb (by rw [h]; exact List.mem_cons_self))]
      exact e
end
section
variable {prog : Program} {w : World} {A : Around} {E : Value → Shared → Prop} {s : Shared}
set_option maxHeartbeats 8000000 in
theorem call_set_strs {l : Addr} {items : Array Value} {xs : List Str} {Q : Value → Shared → Prop} (hh : A.handled = none) (hl : s.heap.IsList l items ∨ s.heap.IsTuple l items) (hi : PyProof.Rows.StrsAre items.toList xs) (hb : xs.length + 1 < scanBound)
    (h : ∀ (h' : Heap) (tk : Nat), h'.SetOf (PySem.strKind prog w) s.heap.objs.size (fun k' => (xs.take items.size).any (· == k')) (un xs items.size) →
      (∀ b o, b < s.heap.objs.size → s.heap.get? b = some o → h'.get? b = some o) → Q (.ref s.heap.objs.size) { s with heap := h', toks := tk }) :
    wpAny (model prog w) A (call (.type "set") [.ref l]) Q E s := by
  obtain ⟨c, tl, hmro⟩ := PySem.F.called_set.mro
  have hmade := PySem.F.called_set.made
  have hsub := PySem.F.called_set.sub
  refine wpAny_call (codeAny_of_tree ?_)
  show wpAny _ _ (callAny (.type "set") _) _ _ _
  refine wpAny_pure ⟨Code.quiet_builtin _ (by decide +kernel), codeAny_builtin PySem.F.entry_type_call ?_⟩
  rw [Around.under_plain (weight_type_call_type "set" [.ref l] []) rfl]
  have h1 := PySem.F.called_set.notType
  have h2 := PySem.F.called_set.canCreate
  have hct := PySem.F.typeCall_set_1 (.ref l)
  repeat (any_goals (first | assumption | wp_step))
  refine codeAny_mono (code_set_new_1 (.ref l) (E := E) (Q₁ := fun obj s₁ => ∃ led : Bool, obj = .ref s.heap.objs.size ∧ s₁ = { s with heap := s.heap.push { cls := .type "set", dict := none, data := .set #[] 0 (.fresh 0 0 led) } }) fun led => ⟨led, rfl, rfl⟩) fun r s₁ hr => ?_
  have hsz : xs.length = items.size := by
    rw [← StrsAre.len_eq hi, Array.length_toList]
  have hval : ∀ (i : Nat) (v : Value), items[i]? = some v → ∃ t, v = .str (xs.getD i Str.empty) t := fun i v hv => SS.strs_at hi i v (by rw [Array.getElem?_toList]; exact hv)
  cases r with
  | error e => exact hr
  | ok fl =>
    cases fl with
    | ret obj =>
      obtain ⟨led, rfl, rfl⟩ := hr
      have hS : (s.heap.push { cls := .type "set", dict := none, data := .set #[] 0 (.fresh 0 0 led) }).get? s.heap.objs.size = some { cls := .type "set", dict := none, data := .set #[] 0 (.fresh 0 0 led) } := Heap.get?_push_size _ rfl
      have hT : Shared.TypeIs { s with heap := s.heap.push { cls := .type "set", dict := none, data := .set #[] 0 (.fresh 0 0 led) } } (.ref s.heap.objs.size) "set" := ⟨_, hS, rfl⟩
      have hli := PySem.F.called_set.init.lookup
      have hbi := PySem.F.called_set.init.bind (.ref s.heap.objs.size)
      repeat (any_goals (first | assumption | wp_step))
      refine codeAny_mono (codeAny_call_builtin (R := wants (fun r s₂ => r = .none ∧ ∃ h' tk, s₂ = { s with heap := h', toks := tk } ∧
          h'.SetOf (PySem.strKind prog w) s.heap.objs.size (fun k' => (xs.take items.size).any (· == k')) (un xs items.size) ∧
          (∀ b o, b < s.heap.objs.size → s.heap.get? b = some o → h'.get? b = some o)) E) PySem.F.called_set.init.plain PySem.F.entry_set_init (check_set_init_1 hT ?_)) fun r₂ s₂ hr₂ => ?_
      · -- behind the iterator at I of the object it: the walk, then the end
        have walk : ∀ {it : Obj} {B : Around} {Rr : Result → Shared → Prop} {St : Nat → Shared → Prop} {P : Nat → Value → Prop},
            WalksS prog w B.in1 (s.heap.push { cls := .type "set", dict := none, data := .set #[] 0 (.fresh 0 0 led) }).objs.size [(s.heap.push { cls := .type "set", dict := none, data := .set #[] 0 (.fresh 0 0 led) }).objs.size, l] [(s.heap.push { cls := .type "set", dict := none, data := .set #[] 0 (.fresh 0 0 led) }).objs.size] (fun a b => b = a) items.size P St →
            l < s.heap.objs.size → (∀ i v, P i v → items[i]? = some v) → St 0 { s with heap := (s.heap.push { cls := .type "set", dict := none, data := .set #[] 0 (.fresh 0 0 led) }).push it } →
            (∀ h' tk, h'.SetOf (PySem.strKind prog w) s.heap.objs.size (fun k' => (xs.take items.size).any (· == k')) (un xs items.size) → (∀ b o, b < s.heap.objs.size → s.heap.get? b = some o → h'.get? b = some o) → Rr (.ok (.ret .none)) { s with heap := h', toks := tk }) →
            codeAny (model prog w) B (.builtin "set.update.loop" ⟨[.ref s.heap.objs.size, .ref (s.heap.push { cls := .type "set", dict := none, data := .set #[] 0 (.fresh 0 0 led) }).objs.size], []⟩) Rr { s with heap := (s.heap.push { cls := .type "set", dict := none, data := .set #[] 0 (.fresh 0 0 led) }).push it } := by
          intro it B Rr St P W lt hP st0 fin
          have hSf : s.heap.objs.size ∉ [(s.heap.push { cls := .type "set", dict := none, data := .set #[] 0 (.fresh 0 0 led) }).objs.size, l] := by
            rw [Heap.size_push]
            simp only [List.mem_cons, List.mem_singleton, List.not_mem_nil, or_false, not_or]
            exact ⟨Nat.ne_of_lt (Nat.lt_succ_self _), Nat.ne_of_gt lt⟩
          refine set_loop W s.heap.objs.size hSf xs hsz (by omega) (fun i v p => hval i v (hP i v p)) (items.size - 0) 0 _ (by omega) (Nat.zero_le _) st0 ?hS0 ?hR
          case hS0 =>
            have hget : ((s.heap.push { cls := .type "set", dict := none, data := .set #[] 0 (.fresh 0 0 led) }).push it).get? s.heap.objs.size = some { cls := .type "set", dict := none, data := .set #[] 0 (.fresh 0 0 led) } := Heap.get?_push_of_some _ hS
            exact PyProof.Rows.SetOf_congr ((PyProof.Rows.setObjOf_fresh (knd := PySem.strKind prog w) led).setOf hget (by unfold scanBound; omega)) (fun _ => rfl) rfl
          case hR =>
            intro s' hm hS'
            obtain ⟨h', g', d', tk', os'⟩ := s'
            have eg : g' = s.gens := hm.gens
            have ed : d' = s.drawn := hm.drawn
            have eo : os' = s.os := hm.os
            subst eg
            subst ed
            subst eo
            refine fin h' tk' hS' fun b o hb e => ?_
            have n1 : b ≠ s.heap.objs.size := Nat.ne_of_lt hb
            have n2 : b ≠ (s.heap.push { cls := .type "set", dict := none, data := .set #[] 0 (.fresh 0 0 led) }).objs.size := by
              rw [Heap.size_push]
              exact Nat.ne_of_lt (Nat.lt_succ_of_lt hb)
            exact hm.heap b o (by simp only [List.mem_cons, List.mem_singleton, List.not_mem_nil, or_false, not_or]; exact ⟨n1, n2⟩) (Heap.get?_push_of_some _ (Heap.get?_push_of_some _ e))
        have hh3 : A.in1.in1.in1.handled = none := by
          simp [hh]
        rcases hl with hl | hl
        · obtain ⟨ol, hol, hcl, nl, hdl⟩ := hl
          obtain ⟨ocls, odict, odata, oslots⟩ := ol
          simp only at hcl hdl
          subst hcl
          subst hdl
          have hol' : (s.heap.push { cls := .type "set", dict := none, data := .set #[] 0 (.fresh 0 0 led) }).get? l = some { cls := .type "list", dict := odict, data := .seq items nl, slots := oslots } := Heap.get?_push_of_some _ hol
          have hsls := PySem.F.sub_list_set
          have hslf := PySem.F.sub_list_frozenset
          have hne : (Value.type "list" == Value.type "dict") = false := by decide
          have hl1 : (s.heap.push { cls := .type "set", dict := none, data := .set #[] 0 (.fresh 0 0 led) }).IsList l items := ⟨_, hol', rfl, nl, rfl⟩
          have lt : l < s.heap.objs.size := Heap.lt_size hol
          have hneI : l ≠ (s.heap.push { cls := .type "set", dict := none, data := .set #[] 0 (.fresh 0 0 led) }).objs.size := by
            rw [Heap.size_push]
            exact Nat.ne_of_lt (Nat.lt_succ_of_lt lt)
          unfold Builtin.«set.__init__» noKeywords Builtin.Frozenset.updateFrom
          generalize hPI : pyIter = PI
          wp_walk
          subst hPI
          refine wpAny_pyIter_list hl1 ?_
          refine wpAny_bind (wpAny_runValue ?_)
          refine walk ((Walks.list hh3 _ l hneI items).toS) lt (fun _ _ z => z) ⟨⟨_, Heap.get?_push_size _ rfl, rfl, rfl⟩, (hl1.push _)⟩ fun h' tk' hS' hk' => ?_
          show wpAny _ _ _ _ _ _
          refine wpAny_pure ?_
          show wpAny _ _ (ret Value.none) _ _ _
          exact wpAny_pure ⟨rfl, h', tk', rfl, hS', hk'⟩
        · obtain ⟨ol, hol, hcl, nl, hdl⟩ := hl
          obtain ⟨ocls, odict, odata, oslots⟩ := ol
          simp only at hcl hdl
          subst hcl
          subst hdl
          have hol' : (s.heap.push { cls := .type "set", dict := none, data := .set #[] 0 (.fresh 0 0 led) }).get? l = some { cls := .type "tuple", dict := odict, data := .seq items nl, slots := oslots } := Heap.get?_push_of_some _ hol
          have hsls := PySem.F.sub_tuple_set
          have hslf := PySem.F.sub_tuple_frozenset
          have hne : (Value.type "tuple" == Value.type "dict") = false := by decide
          have hl1 : (s.heap.push { cls := .type "set", dict := none, data := .set #[] 0 (.fresh 0 0 led) }).IsTuple l items := ⟨_, hol', rfl, nl, rfl⟩
          have lt : l < s.heap.objs.size := Heap.lt_size hol
          have hneI : l ≠ (s.heap.push { cls := .type "set", dict := none, data := .set #[] 0 (.fresh 0 0 led) }).objs.size := by
            rw [Heap.size_push]
            exact Nat.ne_of_lt (Nat.lt_succ_of_lt lt)
          unfold Builtin.«set.__init__» noKeywords Builtin.Frozenset.updateFrom
          generalize hPI : pyIter = PI
          wp_walk
          subst hPI
          refine wpAny_pyIter_tuple hl1 ?_
          refine wpAny_bind (wpAny_runValue ?_)
          refine walk ((Walks.tuple hh3 _ l hneI items).toS) lt (fun _ _ z => z) ⟨⟨_, Heap.get?_push_size _ rfl, rfl, rfl⟩, (hl1.push _)⟩ fun h' tk' hS' hk' => ?_
          show wpAny _ _ _ _ _ _
          refine wpAny_pure ?_
          show wpAny _ _ (ret Value.none) _ _ _
          exact wpAny_pure ⟨rfl, h', tk', rfl, hS', hk'⟩
      · cases r₂ with
        | error e => exact hr₂
        | ok fl₂ =>
          cases fl₂ with
          | ret r =>
            obtain ⟨rfl, h', tk, rfl, hS', hk'⟩ := hr₂
            repeat (any_goals (first | assumption | wp_step))
            exact h _ _ hS' hk'
          | _ => exact hr₂.elim
    | _ => exact hr.elim
end
end XS

namespace XS
open PySem PySem.Spec PyProof.Rows L2
/-- len(set(xs)), xs a list or a tuple of texts -/
def tLenS (K : PySem.W.Frag) (ta : TE) : TE := fun σ H Q => ta σ H fun x H1 => ∃ (l : Addr) (xs : List Str), x = .ref l ∧ (SqL K H1 l (xs.map V.str) ∨ SqT K H1 l (xs.map V.str)) ∧ xs.length ≤ 1000 ∧ Q (.int (un xs xs.length : Nat)) H1
theorem pe_lenS {X : Cx} {a : Expr} {ta : TE} {p p2 q pos : Pos} (hc : X.calm = true) (hg : Gl X "len") (hm : X.mg "len" = none) (hg2 : Gl X "set") (hm2 : X.mg "set" = none) (ha : PE X a ta)
    (na : starEach [a] X.env = (false, eval a X.env) :: starEach [] X.env := by rfl) : PE X (.Call (.Name "len" p) [.Call (.Name "set" p2) [a] [] q] [] pos) (tLenS X.K ta) := by
  refine ⟨fun pins s σ H Q I h => ?_⟩
  refine Call_ (ld_blt I hg hm boot_len ?_)
  refine PyProof.Rows.callWith_builtin1 (PyProof.Rows.args_cons ?_ rfl) rfl rfl
  refine Call_ (ld_blt I hg2 hm2 boot_set ?_)
  refine PyProof.Rows.callWith_type1 (PyProof.Rows.args_cons (thn (ha.run pins s σ H _ I h) fun v s1 ⟨x, H1, I1, r1, q1⟩ => PyProof.Rows.args_nil ?_) na) na rfl
  obtain ⟨l, xs, rfl, hq, h1, q1⟩ := q1
  cases r1
  have small : xs.length + 1 < scanBound := by
    unfold scanBound
    omega
  obtain ⟨its, r, hl⟩ : ∃ its : List Value, Vals (xs.map V.str) its ∧ (s1.heap.IsList l its.toArray ∨ s1.heap.IsTuple l its.toArray) := by
    rcases hq with hq | hq
    · obtain ⟨its, r, pl, _⟩ := I1.list hq
      exact ⟨its, r, .inl pl.isList⟩
    · obtain ⟨its, r, pl, _⟩ := I1.tuple hq
      exact ⟨its, r, .inr pl⟩
  have hlen : its.toArray.size = xs.length := by
    rw [List.size_toArray, ← r.length, List.length_map]
  refine call_set_strs (I1.ok.hd hc) hl (by simpa using strsAre_of r) small fun h' tk hS hk => ?_
  refine PyProof.Rows.args_nil ?_
  rw [hlen] at hS
  obtain ⟨o, es, ep, t, ho, hex, hd, _, _, _, hf, hn⟩ := hS
  have I2 : Inv X pins σ H1 { s1 with heap := h', toks := tk } := I1.kept fun b o e => hk b o (Heap.lt_size e) e
  have := un_le xs xs.length
  exact call_len_set ho hex hd hf (by rw [hn] <;> omega) ⟨.int (un xs xs.length : Nat), H1, I2.tok _, ⟨_, by rw [hn]⟩, q1⟩
end XS
set_option Elab.async false
set_option linter.all false
set_option maxRecDepth 100000
set_option maxHeartbeats 4000000
namespace Q
open PySem L2
def top (i : Nat) : Stmt := PySem.Challenge.pw_sayfill_k01_forms.main.body.getD i (.Pass ⟨0, 0, 0, 0⟩)
abbrev sIsRow : Stmt := top 2
abbrev sIsPair : Stmt := top 3
abbrev sIsSmall : Stmt := top 4
abbrev sIsWord : Stmt := top 5
abbrev sUnlike : Stmt := top 6
abbrev sAreFacts : Stmt := top 7
abbrev sInSeq : Stmt := top 8
abbrev sETalkError : Stmt := top 10
abbrev sEBadValue : Stmt := top 11
abbrev sETooMany : Stmt := top 12
abbrev sForm : Stmt := top 19
abbrev sInit : Stmt := inClass sForm 0
abbrev sFieldsM : Stmt := inClass sForm 1
abbrev sRulesM : Stmt := inClass sForm 2
abbrev sEqM : Stmt := inClass sForm 3
abbrev sAreFields : Stmt := top 20
abbrev sAreValues : Stmt := top 21
abbrev sAreRules : Stmt := top 22
abbrev sWays : Stmt := top 23
abbrev sEach : Stmt := top 24
abbrev sFlow : Stmt := top 26
abbrev sLoad : Stmt := top 27
abbrev sDraw : Stmt := top 28
abbrev sPick : Stmt := top 29
abbrev sSame : Stmt := top 30
abbrev sLetter : Stmt := top 31
abbrev sName : Stmt := top 32
abbrev sNear : Stmt := top 33
abbrev sWords : Stmt := top 34
abbrev sTable : Stmt := top 35
abbrev sBan : Stmt := top 36
abbrev sSorted : Stmt := top 37
abbrev sMade : Stmt := top 38
abbrev sTold : Stmt := top 39
abbrev sRight : Stmt := top 40
abbrev sLists : Stmt := top 41
abbrev sChanged : Stmt := top 42
abbrev sBadT : Stmt := top 43
abbrev sBadB : Stmt := top 44
abbrev sEqual : Stmt := top 45
abbrev sLarge : Stmt := top 46
abbrev sLaw : Stmt := top 47
end Q
set_option Elab.async false
set_option linter.all false
set_option maxRecDepth 100000
set_option maxHeartbeats 4000000
namespace Q
open PySem L2
end Q
/-! ### data: what may be handed in -/
namespace Q
open PySem L2
theorem seqT_same {K : PySem.W.Frag} {H H' : Hp} {a : Addr} {xs : List V} (s : Same H H') (h : SqT K H a xs) : SqT K H' a xs := by
  rcases h with (h | ⟨o, h⟩) | h
  · exact .inl (.inl (s _ _ h))
  · exact .inl (.inr ⟨o, s _ _ h⟩)
  · exact .inr h
mutual
theorem dp_same {K : PySem.W.Frag} {H H' : Hp} (s : Same H H') : ∀ {v : V} {d : PyData}, Dp K H v d → Dp K H' v d
  | _, _, .non => .non
  | _, _, .bl b => .bl b
  | _, _, .int i => .int i
  | _, _, .str x => .str x
  | _, _, .lst h a => .lst (s.seq h) (dps_same s a)
  | _, _, .tup h a => .tup (seqT_same s h) (dps_same s a)
theorem dps_same {K : PySem.W.Frag} {H H' : Hp} (s : Same H H') : ∀ {vs : List V} {ds : List PyData}, DpAll K H vs ds → DpAll K H' vs ds
  | _, _, .nil => .nil
  | _, _, .cons h t => .cons (dp_same s h) (dps_same s t)
end
theorem dps_len {K : PySem.W.Frag} {H : Hp} : ∀ {vs : List V} {ds : List PyData}, DpAll K H vs ds → vs.length = ds.length
  | _, _, .nil => rfl
  | _, _, .cons _ t => by rw [List.length_cons, List.length_cons, dps_len t]
theorem dps_get {K : PySem.W.Frag} {H : Hp} : ∀ {vs : List V} {ds : List PyData} {i : Nat} {v : V}, DpAll K H vs ds → vs[i]? = some v → ∃ d, ds[i]? = some d ∧ Dp K H v d
  | _, _, _, _, .nil, e => by simp at e
  | _, _, 0, v, .cons h _, e => by
    simp at e
    subst e
    exact ⟨_, rfl, h⟩
  | _, _, i + 1, v, .cons _ t, e => by
    obtain ⟨d, h1, h2⟩ := dps_get (i := i) (v := v) t (by simpa using e)
    exact ⟨d, by simpa using h1, h2⟩
def tyName : PyData → String
  | .none => "NoneType"
  | .bool _ => "bool"
  | .int _ => "int"
  | .str _ => "str"
  | .list _ => "list"
  | .tuple _ => "tuple"
  | .dict _ => "dict"
theorem tyD {K : PySem.W.Frag} {H : Hp} {v : V} {d : PyData} (h : Dp K H v d) : TyX K H v (.type (tyName d)) := by
  cases h with
  | non => exact .base .non
  | bl b => exact .base (.bl b)
  | int i => exact .base (.int i)
  | str x => exact .base (.str x)
  | lst h _ =>
    rcases h with (h | ⟨o, h⟩) | ⟨o, its, n, h, c, _⟩
    · exact .base (.lst h)
    · exact .base (.frz h)
    · exact .kList h c
  | tup h _ =>
    rcases h with (h | ⟨o, h⟩) | ⟨o, its, n, h, c, _⟩
    · exact .base (.tup h)
    · exact .fTuple h
    · exact .kTuple h c
/-! ### the mirror -/
def rowOf : PyData → Option (List PyData)
  | .list xs => some xs
  | .tuple xs => some xs
  | _ => none
def isRow (d : PyData) : Bool := (rowOf d).isSome
def isPair (d : PyData) : Bool := match rowOf d with
  | some xs => decide (xs.length = 2)
  | none => false
def isStr : PyData → Bool
  | .str _ => true
  | _ => false
/-- a to z, as the program asks it -/
def az (c : Nat) : Bool := !decide (([c] : List Nat) < ("a" : Str).cps.toList) && !decide (("z" : Str).cps.toList < [c])
def word (s : Str) : Bool := decide (1 ≤ s.length) && decide (s.length ≤ 8) && s.cps.toList.all az
def isWord : PyData → Bool
  | .str s => word s
  | _ => false
theorem no_dict {K : PySem.W.Frag} {H : Hp} {v : V} {kvs : List (PyData × PyData)} : ¬ Dp K H v (.dict kvs) := fun h => by cases h
theorem kit_str {K : PySem.W.Frag} {d : PyData} (h : ∀ kvs, d ≠ .dict kvs) : PySem.W.kitOne K (.type (tyName d)) (.type "str") = some (isStr d) := by
  cases d with
  | dict kvs => exact absurd rfl (h kvs)
  | none => exact kit_ty (a := "NoneType") (b := "str") (by show kitB "NoneType" "str" = some false; decide +kernel)
  | bool b => exact kit_ty (a := "bool") (b := "str") (by show kitB "bool" "str" = some false; decide +kernel)
  | int i => exact kit_ty (a := "int") (b := "str") (by show kitB "int" "str" = some false; decide +kernel)
  | str s => exact kit_ty (a := "str") (b := "str") (by show kitB "str" "str" = some true; decide +kernel)
  | list xs => exact kit_ty (a := "list") (b := "str") (by show kitB "list" "str" = some false; decide +kernel)
  | tuple xs => exact kit_ty (a := "tuple") (b := "str") (by show kitB "tuple" "str" = some false; decide +kernel)
theorem kit_row {K : PySem.W.Frag} {d : PyData} (h : ∀ kvs, d ≠ .dict kvs) : PySem.W.kitAny K (.type (tyName d)) [.type "list", .type "tuple"] = some (isRow d) := by
  have no : ∀ {a : String}, kitB a "list" = some false → kitB a "tuple" = some false → PySem.W.kitAny K (.type a) [.type "list", .type "tuple"] = some false := fun h1 h2 =>
    kitAny_cons (kit_ty h1) (fun _ => kitAny_cons (kit_ty h2) (fun _ => kitAny_nil) (fun z => Bool.noConfusion z)) (fun z => Bool.noConfusion z)
  cases d with
  | dict kvs => exact absurd rfl (h kvs)
  | none => exact no (by decide +kernel) (by decide +kernel)
  | bool b => exact no (a := "bool") (by decide +kernel) (by decide +kernel)
  | int i => exact no (a := "int") (by decide +kernel) (by decide +kernel)
  | str s => exact no (a := "str") (by decide +kernel) (by decide +kernel)
  | list xs => exact kitAny_cons (b := true) (kit_ty (a := "list") (by decide +kernel)) (fun z => Bool.noConfusion z) (fun _ => rfl)
  | tuple xs => exact kitAny_cons (b := false) (kit_ty (a := "tuple") (by decide +kernel)) (fun _ => kitAny_cons (b := true) (kit_ty (a := "tuple") (by decide +kernel)) (fun z => Bool.noConfusion z) (fun _ => rfl)) (fun z => Bool.noConfusion z)
theorem dp_no_dict {K : PySem.W.Frag} {H : Hp} {v : V} {d : PyData} (h : Dp K H v d) : ∀ kvs, d ≠ .dict kvs := fun kvs e => no_dict (e ▸ h)
/-- the strings in it are no longer than 1,000,000 -/
def Short : PyData → Prop
  | .str s => s.length ≤ 1000000
  | _ => True
theorem new_same {H : Hp} {p : Addr} (h : H p = none) (o : HO) : Same H (upd H p o) := fun b u q => by
  rw [upd_ne (ne_of_none q h)]
  exact q
theorem row_len {K : PySem.W.Frag} {H : Hp} {v : V} {d : PyData} {xs : List PyData} (h : Dp K H v d) (r : rowOf d = some xs) : ∃ (p : Addr) (ys : List V), v = .ref p ∧ (SqL K H p ys ∨ SqT K H p ys) ∧ DpAll K H ys xs := by
  cases h with
  | lst h a =>
    cases r
    exact ⟨_, _, rfl, .inl h, a⟩
  | tup h a =>
    cases r
    exact ⟨_, _, rfl, .inr h, a⟩
  | _ => cases r
/-! ### promises -/
structure Bb (mg : Str → Option Value) : Prop where
  isi : mg "isinstance" = none
  list : mg "list" = none
  tup : mg "tuple" = none
  str : mg "str" = none
  len : mg "len" = none
  all : mg "all" = none
  set : mg "set" = none
  dict : mg "dict" = none
  ml : ∃ t, mg "MOST_LETTERS" = some (.int 8 t)
def spIsRow (K : PySem.W.Frag) : Sp := fun vs H Q _ => ∃ (v : V) (d : PyData), vs = [v] ∧ Dp K H v d ∧ ∀ H', Same H H' → Q (.bl (isRow d)) H'
def spIsPair (K : PySem.W.Frag) : Sp := fun vs H Q _ => ∃ (v : V) (d : PyData), vs = [v] ∧ Dp K H v d ∧ ∀ H', Same H H' → Q (.bl (isPair d)) H'
def spIsWord (K : PySem.W.Frag) : Sp := fun vs H Q _ => ∃ (v : V) (d : PyData), vs = [v] ∧ Dp K H v d ∧ Short d ∧ ∀ H', Same H H' → Q (.bl (isWord d)) H'
section
variable {P : Program} {w : World} {K : PySem.W.Frag} {mg : Str → Option Value} {base : Heap}
theorem scIsRow : FnScope ["thing"] ["thing"] (defScope sIsRow) := ⟨rfl, rfl, rfl, by decide +kernel, rfl, by decide +kernel, by decide +kernel⟩
theorem ok_isrow {f : Addr} {fd : FuncData} (F : Fun K "is_row" "is_row" sIsRow f fd) (T : Bb mg) : FnOk P w K mg base CX0 1 f fd ["thing"] (spIsRow K) := by
  refine F.ok scIsRow (fun vs H Q E h => ?_) (fun cdv A outer s H vs Q E hr h => ?_)
  · obtain ⟨v, d, rfl, _⟩ := h
    rfl
  obtain ⟨v, d, rfl, hd, k⟩ := h
  have vl : PySem.bootBuiltins "list" = some (.type "list") := by decide +kernel
  have vt : PySem.bootBuiltins "tuple" = some (.type "tuple") := by decide +kernel
  refine ⟨_, pss_one (ps_ret (pe_callB call_isiT rfl T.isi (by decide +kernel) (pa_cons (pv 0) (pa_cons (pe_tup (pa_cons (pe_bltn (v := .ty "list") rfl T.list vl rfl) (pa_cons (pe_bltn (v := .ty "tuple") rfl T.tup vt rfl) pa_nil))) pa_nil)))), ?_⟩
  refine ⟨_, rfl, (by show 2 ≤ sizeLine; decide), fun p hp => ?_⟩
  have s := new_same hp (.tup [.ty "list", .ty "tuple"])
  exact ⟨_, p, _, _, _, _, rfl, upd_same, .cons (.ty _) (.cons (.ty _) .nil), tyD (dp_same s hd), kit_row (dp_no_dict hd), k _ s⟩
theorem scIsPair : FnScope ["thing"] ["thing"] (defScope sIsPair) := ⟨rfl, rfl, rfl, by decide +kernel, rfl, by decide +kernel, by decide +kernel⟩
theorem ok_ispair {f fR : Addr} {fd fdR : FuncData} (F : Fun K "is_pair" "is_pair" sIsPair f fd) (T : Bb mg) (GR : FnOk P w K mg base CX0 1 fR fdR ["thing"] (spIsRow K)) (kR : PySem.W.keepIn K (.ref fR) = true) (bR : Binds K fdR ["thing"] []) (mR : mg "is_row" = some (.ref fR)) :
    FnOk P w K mg base CX0 2 f fd ["thing"] (spIsPair K) := by
  refine F.ok scIsPair (fun vs H Q E h => ?_) (fun cdv A outer s H vs Q E hr h => ?_)
  · obtain ⟨v, d, rfl, _⟩ := h
    rfl
  obtain ⟨v, d, rfl, hd, k⟩ := h
  refine ⟨_, pss_one (ps_ret (pe_and (pe_call GR hr rfl mR kR bR .nil pass0 (pa_cons (pv 0) pa_nil)) (pe_one (pe_cmpR op_eq (pe_callB call_len_seq rfl T.len PySem.boot_len (pa_cons (pv 0) pa_nil)) pe_int (nomark _))))), ?_⟩
  refine ⟨_, rfl, v, d, rfl, hd, fun H1 s1 => ⟨_, rfl, ?_⟩⟩
  cases e : rowOf d with
  | none =>
    have e1 : isRow d = false := by
      unfold isRow
      rw [e]
      rfl
    have e2 : isPair d = false := by
      unfold isPair
      rw [e]
    rw [e1]
    refine iteF ?_
    have q := k H1 s1
    rwa [e2] at q
  | some xs =>
    have e1 : isRow d = true := by
      unfold isRow
      rw [e]
      rfl
    obtain ⟨p, ys, rfl, hs, ha⟩ := row_len (dp_same s1 hd) e
    have e2 : isPair d = decide (V.int (ys.length : Int) = V.int 2) := by
      unfold isPair
      rw [e]
      show decide (xs.length = 2) = _
      rw [← dps_len ha]
      exact decide_eq_decide.mpr ⟨fun z => by rw [z]; rfl, fun z => by have := V.int.inj z; omega⟩
    rw [e1]
    refine iteT ⟨_, rfl, p, ys, rfl, hs, rfl, ?_⟩
    have q := k H1 s1
    rwa [e2] at q
end
end Q
set_option Elab.async false
set_option linter.all false
set_option maxRecDepth 100000
set_option maxHeartbeats 4000000
/-! ### is_word -/
namespace Q
open PySem L2
theorem iteDT {p A B : Prop} [Decidable p] (hp : p) (h : A) : if decide p = true then A else B := by
  rw [decide_eq_true hp]
  exact iteT h
theorem iteDF {p A B : Prop} [Decidable p] (hp : ¬ p) (h : B) : if decide p = true then A else B := by
  rw [decide_eq_false hp]
  exact iteF h
theorem iteB {b : Bool} {A B : Prop} (h1 : b = true → A) (h2 : b = false → B) : if b = true then A else B := by
  cases b
  · exact iteF (h2 rfl)
  · exact iteT (h1 rfl)
theorem q_is {Q : VK} {H : Hp} {c d : Bool} (h : c = d) (q : Q (.bl d) H) : Q (.bl c) H := by
  rw [h]
  exact q
theorem small1000 {n : Nat} (h : n ≤ 1000) : n < sizeLine := by
  have : 1000 < sizeLine := by decide
  omega
/-- isinstance(x, T) -/
theorem pe_isi {X : Cx} {e1 : Expr} {t1 : TE} {T : Str} {tn : String} {p p2 pos : Pos} (hi : X.mg "isinstance" = none) (hm : X.mg T = none) (hv : PySem.bootBuiltins T = some (.type tn)) (h1 : PE X e1 t1)
    (g1 : Gl X "isinstance" := by rfl) (g2 : Gl X T := by rfl) (hn : T ≠ "__name__" := by decide) (hd : (T == ("__debug__" : Str)) = false := by decide)
    (he : starEach (e1 :: [.Name T p2]) X.env = (false, eval e1 X.env) :: starEach [.Name T p2] X.env := by rfl) (hpl : (backTo pos (starEach [.Name T p2] X.env)).any (·.1) = false := by rfl)
    (he2 : starEach (Expr.Name T p2 :: []) X.env = (false, eval (.Name T p2) X.env) :: starEach [] X.env := by rfl) :
    PE X (.Call (.Name "isinstance" p) [e1, .Name T p2] [] pos) (tCB (rIsi X.K) (tCons t1 (tCons (tC (.ty tn)) tNil))) :=
  pe_callB call_isi g1 hi (by decide +kernel) (pa_cons h1 (pa_cons (pe_bltn (v := .ty tn) g2 hm hv rfl hn hd) pa_nil he2) he) (he := he) (hpl := hpl)
theorem take_one {α : Type} {xs : List α} {i : Nat} {x : α} (h : xs[i]? = some x) : xs.take (i + 1) = xs.take i ++ [x] := by
  rw [List.take_add_one, h]
  rfl
section
variable {P : Program} {w : World} {K : PySem.W.Frag} {mg : Str → Option Value} {base : Heap}
theorem scIsSmall : FnScope ["string", "sign"] ["string"] (defScope sIsSmall) := ⟨rfl, rfl, rfl, by decide +kernel, rfl, by decide +kernel, by decide +kernel⟩
/-- small letters, one or more -/
def small (x : Str) : Bool := decide (0 < x.length) && x.cps.toList.all az
def spIsSmall : Sp := fun vs H Q _ => ∃ x : Str, vs = [.str x] ∧ x.length ≤ 1000 ∧ ∀ H', Same H H' → Q (.bl (small x)) H'
theorem ok_issmall {f : Addr} {fd : FuncData} (F : Fun K "is_small" "is_small" sIsSmall f fd) (T : Bb mg) : FnOk P w K mg base CX0 1 f fd ["string"] spIsSmall := by
  refine F.ok scIsSmall (fun vs H Q E h => ?_) (fun cdv A outer s H vs Q E hr h => ?_)
  · obtain ⟨x, rfl, _⟩ := h
    rfl
  obtain ⟨x, rfl, hx, k⟩ := h
  refine ⟨_, pss_one (ps_ret (pe_and (pe_cmpR op_gt (pe_callB call_len_str rfl T.len PySem.boot_len (pa_cons (pv 0) pa_nil)) pe_int (nomark _))
    (pe_one (pe_callB (cr_all (by rfl)) rfl T.all (by decide +kernel) (pa_cons (pe_lc (own := [("sign", 1)]) (g := gName 1) (tt := tYes) (by rfl) scIsSmall.nd (pi_str (pv 0)) (blkOk_by (N := ["string", "sign"]) (sc := defScope sIsSmall) (by decide +kernel))
      (fun _ _ _ _ _ => pg_name (i := 1) scIsSmall.nd rfl (.inl rfl)) (fun _ _ _ _ _ => pts_nil) (fun _ _ _ _ _ => pe_chain op_le_str op_le_str pe_str (pv 1) pe_str)) pa_nil))))), ?_⟩
  have hsz : x.length ≤ sizeLine := by
    have : 1000 ≤ sizeLine := by decide
    omega
  refine ⟨_, rfl, x, rfl, hsz, _, _, rfl, rfl, _, rfl, ?_⟩
  by_cases h0 : (0 : Int) < (x.length : Int)
  · refine iteDT h0 ?_
    refine ⟨_, rfl, x, rfl, fun D hD => lc_it (walk_str (z := x)) (fun i H' => H' D = some (.lst (((x.cps.toList.take i).map az).map V.bl)) ∧ Same H H') ⟨upd_same, new_same hD _⟩ (fun _ _ _ _ => trivial) (fun i c H1 H2 hi hP hY => ?_) (fun H' hP => ?_)⟩
    · obtain ⟨hL, s1⟩ := hP
      obtain ⟨rfl, c1, hc, rfl⟩ := hY
      have hc2 : x.cps.toList[i]? = some c1 := by
        rw [Array.getElem?_toList]
        exact hc
      have fin : ∀ b : Bool, b = az c1 → ∃ acc, H2 D = some (.lst acc) ∧ acc.length < sizeLine ∧ (fun H' => H' D = some (.lst (((x.cps.toList.take (i + 1)).map az).map V.bl)) ∧ Same H H') (upd H2 D (.lst (acc ++ [.bl b]))) := fun b e => by
        refine ⟨_, hL, small1000 ?_, ?_, fun b o q => ?_⟩
        · rw [List.length_map, List.length_map, List.length_take, Array.length_toList]
          have : x.cps.size = x.length := rfl
          omega
        · rw [upd_same, take_one hc2, List.map_append, List.map_append, e]
          rfl
        · rw [upd_ne (ne_of_none q hD)]
          exact s1 _ _ q
      refine ⟨rfl, ?_⟩
      unfold tYes
      refine iteT ⟨_, rfl, _, _, rfl, rfl, _, rfl, iteB (fun e1 => ⟨_, _, rfl, rfl, fin _ ?_⟩) (fun e1 => fin _ ?_)⟩
      · unfold az
        have e2 : (!decide (([c1] : List Nat) < ("a" : Str).cps.toList)) = true := e1
        rw [e2, Bool.true_and]
      · unfold az
        have e2 : (!decide (([c1] : List Nat) < ("a" : Str).cps.toList)) = false := e1
        rw [e2, Bool.false_and]
    · obtain ⟨hL, s1⟩ := hP
      rw [List.take_of_length_le (by rw [Array.length_toList]; exact Nat.le_refl _)] at hL
      refine ⟨_, _, rfl, SqL.of hL, q_is ?_ (k _ s1)⟩
      show ((x.cps.toList.map az).all id) = small x
      unfold small
      rw [decide_eq_true (by omega : 0 < x.length), List.all_map]
      rfl
  · refine iteDF h0 (q_is ?_ (k H (Same.refl H)))
    show false = small x
    unfold small
    rw [decide_eq_false (by omega : ¬ 0 < x.length), Bool.false_and]
theorem scIsWord : FnScope ["thing"] ["thing"] (defScope sIsWord) := ⟨rfl, rfl, rfl, by decide +kernel, rfl, by decide +kernel, by decide +kernel⟩
theorem ok_isword {f fM : Addr} {fd fdM : FuncData} (F : Fun K "is_word" "is_word" sIsWord f fd) (T : Bb mg) (GM : FnOk P w K mg base CX0 1 fM fdM ["string"] spIsSmall) (kM : PySem.W.keepIn K (.ref fM) = true) (bM : Binds K fdM ["string"] []) (mM : mg "is_small" = some (.ref fM)) :
    FnOk P w K mg base CX0 2 f fd ["thing"] (spIsWord K) := by
  refine F.ok scIsWord (fun vs H Q E h => ?_) (fun cdv A outer s H vs Q E hr h => ?_)
  · obtain ⟨v, d, rfl, _⟩ := h
    rfl
  obtain ⟨v, d, rfl, hd, hs, k⟩ := h
  obtain ⟨tML, hML⟩ := T.ml
  have vs_ : PySem.bootBuiltins "str" = some (.type "str") := by decide +kernel
  refine ⟨_, pss_one (ps_ret (pe_and (pe_isi T.isi T.str vs_ (pv 0)) (pe_and (pe_cmpR op_le (pe_callB call_len_str rfl T.len PySem.boot_len (pa_cons (pv 0) pa_nil)) (pe_glob (v := .int 8) (by rfl) hML ⟨_, rfl⟩) (nomark _))
    (pe_one (pe_call GM hr rfl mM kM bM .nil pass0 (pa_cons (pv 0) pa_nil)))))), ?_⟩
  have ki := kit_str (K := K) (dp_no_dict hd)
  refine ⟨_, rfl, _, _, _, _, _, rfl, .ty _, tyD hd, ki, _, rfl, ?_⟩
  cases hd with
  | str x =>
    have hx : x.length ≤ 1000000 := hs
    have hsz : x.length ≤ sizeLine := by
      have : 1000000 ≤ sizeLine := by decide
      omega
    refine iteT ⟨_, rfl, x, rfl, hsz, _, _, rfl, rfl, _, rfl, ?_⟩
    by_cases h8 : (x.length : Int) ≤ 8
    · refine iteDT h8 ⟨_, rfl, x, rfl, by omega, fun H1 s1 => q_is ?_ (k H1 s1)⟩
      show small x = word x
      unfold small word
      rw [decide_eq_true (by omega : x.length ≤ 8), Bool.and_true]
      rfl
    · refine iteDF h8 (q_is (d := isWord (.str x)) ?_ (k H (Same.refl H)))
      show false = word x
      unfold word
      rw [decide_eq_false (by omega : ¬ x.length ≤ 8), Bool.and_false, Bool.false_and]
  | _ => exact iteF (k H (Same.refl H))
end
end Q
set_option Elab.async false
set_option linter.all false
set_option maxRecDepth 100000
set_option maxHeartbeats 4000000
/-! ### are_unlike_words -/
namespace Q
open PySem L2
def strOf : PyData → Str
  | .str s => s
  | _ => Str.empty
def textsOf (ds : List PyData) : List Str := ds.map strOf
def unlike (ds : List PyData) : Bool := ds.all isWord && decide (textsOf ds).Nodup
theorem words_vals {K : PySem.W.Frag} {H : Hp} : ∀ {ys : List V} {ds : List PyData}, DpAll K H ys ds → ds.all isWord = true → ys = (textsOf ds).map V.str
  | _, _, .nil, _ => rfl
  | _, _, .cons h t, e => by
    rw [List.all_cons, Bool.and_eq_true] at e
    rw [words_vals t e.2]
    cases h with
    | str x => rfl
    | _ => exact absurd e.1 (by intro z; cases z)
theorem words_int {n m : Nat} : decide (V.int (n : Int) = V.int (m : Int)) = decide (n = m) :=
  decide_eq_decide.mpr ⟨fun z => by have := V.int.inj z; omega, fun z => by rw [z]⟩
def spUnlike (K : PySem.W.Frag) : Sp := fun vs H Q _ => ∃ (p : Addr) (ys : List V) (ds : List PyData), vs = [.ref p] ∧ (SqL K H p ys ∨ SqT K H p ys) ∧ DpAll K H ys ds ∧ (∀ d ∈ ds, Short d) ∧ ds.length ≤ 1000 ∧ ∀ H', Same H H' → Q (.bl (unlike ds)) H'
/-- over a list or a tuple -/
def iRow (K : PySem.W.Frag) (te : TE) : TI := fun σ H R => iList K te σ H R ∨ iTup K te σ H R
theorem pi_row {X : Cx} {tg e : Expr} {te : TE} (he : PE X e te) : PI X tg e (iRow X.K te) :=
  ⟨fun pins s σ H R I h => h.elim (fun q => (pi_list he).run pins s σ H R I q) (fun q => (pi_tup he).run pins s σ H R I q)⟩
theorem sq_same {K : PySem.W.Frag} {H H' : Hp} {p : Addr} {ys : List V} (s : Same H H') (h : SqL K H p ys ∨ SqT K H p ys) : SqL K H' p ys ∨ SqT K H' p ys :=
  h.elim (fun q => .inl (s.seq q)) (fun q => .inr (seqT_same s q))
/-- a comprehension over a list or a tuple that its turns leave as it is -/
theorem lc_row {K : PySem.W.Frag} {p : Addr} {ys : List V} {t0 : TE} {g : TG} {tt : TT} {te : TE} {vs : List Nat} {σ : St} {H : Hp} {Q : VK} (Pv : Addr → Nat → Hp → Prop) (ht : ∀ Q' : VK, Q' (.ref p) H → t0 σ H Q') (hq : SqL K H p ys ∨ SqT K H p ys)
    (h0 : ∀ D, H D = none → Pv D 0 (upd H D (.lst []))) (hG : ∀ D i H', H D = none → Pv D i H' → Same H H')
    (hs : ∀ D i x H', H D = none → i < ys.length → Pv D i H' → ys[i]? = some x → g x (wipe σ vs) H' fun σ2 H2 => wipe σ2 vs = wipe σ vs ∧ tt σ2 H2 fun b H3 =>
      if b = true then te σ2 H3 fun y H4 => ∃ acc, H4 D = some (.lst acc) ∧ acc.length < sizeLine ∧ Pv D (i + 1) (upd H4 D (.lst (acc ++ [y]))) else Pv D (i + 1) H3)
    (hd : ∀ D H', H D = none → Pv D ys.length H' → Q (.ref D) H') : tLc (iRow K t0) g tt te vs σ H Q := by
  rcases hq with hq | hq
  · refine .inl (ht _ ⟨p, rfl, ⟨ys, hq⟩, fun D hD => lc_it walk_list (Pv D) (h0 D hD) (fun i H' _ hP => (hG D i H' hD hP).seq hq) (fun i x H1 H2 hi hP hY => ?_) (fun H' hP => hd D H' hD hP)⟩)
    obtain ⟨rfl, hx⟩ := hY
    exact hs D i x H2 hD hi hP hx
  · refine .inr (ht _ ⟨p, rfl, ⟨ys, hq⟩, fun D hD => lc_it walk_tup (Pv D) (h0 D hD) (fun i H' _ hP => seqT_same (hG D i H' hD hP) hq) (fun i x H1 H2 hi hP hY => ?_) (fun H' hP => hd D H' hD hP)⟩)
    obtain ⟨rfl, hx⟩ := hY
    exact hs D i x H2 hD hi hP hx
section
variable {P : Program} {w : World} {K : PySem.W.Frag} {mg : Str → Option Value} {base : Heap}
theorem scUnlike : FnScope ["things", "thing"] ["things"] (defScope sUnlike) := ⟨rfl, rfl, rfl, by decide +kernel, rfl, by decide +kernel, by decide +kernel⟩
theorem ok_unlike {f fW : Addr} {fd fdW : FuncData} (F : Fun K "are_unlike_words" "are_unlike_words" sUnlike f fd) (T : Bb mg) (GW : FnOk P w K mg base CX0 2 fW fdW ["thing"] (spIsWord K)) (kW : PySem.W.keepIn K (.ref fW) = true) (bW : Binds K fdW ["thing"] []) (mW : mg "is_word" = some (.ref fW)) :
    FnOk P w K mg base CX0 3 f fd ["things"] (spUnlike K) := by
  refine F.ok scUnlike (fun vs H Q E h => ?_) (fun cdv A outer s H vs Q E hr h => ?_)
  · obtain ⟨p, ys, ds, rfl, _⟩ := h
    rfl
  obtain ⟨p, ys, ds, rfl, hq, ha, hs, hn, k⟩ := h
  have hlen := dps_len ha
  refine ⟨_, pss_one (ps_ret (pe_and (pe_callB (cr_all (by rfl)) rfl T.all (by decide +kernel) (pa_cons (pe_lc (own := [("thing", 1)]) (g := gName 1) (tt := tYes) (by rfl) scUnlike.nd (pi_row (pv 0)) (blkOk_by (N := ["things", "thing"]) (sc := defScope sUnlike) (by decide +kernel))
      (fun _ _ _ _ _ => pg_name (i := 1) scUnlike.nd rfl (.inl rfl)) (fun _ _ _ _ _ => pts_nil) (fun _ _ _ _ _ => pe_call GW hr rfl mW kW bW .nil pass0 (pa_cons (pv 1) pa_nil))) pa_nil))
    (pe_one (pe_cmpR op_eq (XS.pe_lenS (by rfl) rfl T.len rfl T.set (pv 0)) (pe_callB call_len_seq rfl T.len PySem.boot_len (pa_cons (pv 0) pa_nil)) (nomark _))))), ?_⟩
  unfold tRet tAndV tCB tCons
  show tLc (iRow K (tVar 0)) (gName 1) tYes (tCall (spIsWord K) [] E0 (tCons (tVar 1) tNil)) [1] _ H _
  refine lc_row (ys := ys) (fun D i H' => H' D = some (.lst (((ds.take i).map isWord).map V.bl)) ∧ Same H H') (fun Q' q => ⟨_, rfl, q⟩) hq (fun D hD => ⟨upd_same, new_same hD _⟩) (fun D i H' hD hP => hP.2) (fun D i x H1 hD hi hP hx => ?_) (fun D H' hD hP => ?_)
  · obtain ⟨d, hd, hdp⟩ := dps_get ha hx
    refine ⟨rfl, ?_⟩
    unfold tYes
    refine iteT ⟨_, rfl, x, d, rfl, dp_same hP.2 hdp, hs d (List.mem_of_getElem? hd), fun H2 s2 => ⟨_, s2 _ _ hP.1, small1000 ?_, ?_, fun b o q => ?_⟩⟩
    · rw [List.length_map, List.length_map, List.length_take]
      omega
    · rw [upd_same, take_one hd, List.map_append, List.map_append]
      rfl
    · rw [upd_ne (ne_of_none q hD)]
      exact s2 _ _ (hP.2 _ _ q)
  · obtain ⟨hL, s1⟩ := hP
    rw [List.take_of_length_le (by omega)] at hL
    refine ⟨_, _, rfl, SqL.of hL, _, rfl, iteB (fun e => ?_) (fun e => ?_)⟩
    · have e1 : ds.all isWord = true := by
        rw [List.all_map] at e
        exact e
      have e2 := words_vals ha e1
      have hq1 := sq_same s1 hq
      refine ⟨_, rfl, p, textsOf ds, rfl, by rw [← e2]; exact hq1, by unfold textsOf; rw [List.length_map]; exact hn, _, rfl, p, ys, rfl, hq1, rfl, ?_⟩
      refine q_is ?_ (k _ s1)
      unfold unlike
      rw [e1, Bool.true_and, words_int, ← XS.un_all, e2, List.length_map]
    · refine q_is ?_ (k _ s1)
      unfold unlike
      rw [List.all_map] at e
      have e1 : ds.all isWord = false := e
      rw [e1, Bool.false_and]
end
end Q
set_option Elab.async false
set_option linter.all false
set_option maxRecDepth 100000
set_option maxHeartbeats 4000000
/-! ### are_facts -/
namespace Q
open PySem L2 XD
/-- the values told of a field -/
def look (n : Str) : List (Str × List Str) → Option (List Str)
  | [] => none
  | (m, ws) :: t => if m = n then some ws else look n t
def stands (ws : List Str) (d : PyData) : Bool := (ws.map PyData.str).any fun z => PyData.eqv z d
def pairOf (f : PyData) : Option (PyData × PyData) := match rowOf f with
  | some [a, b] => some (a, b)
  | _ => none
def goFacts (t : List (Str × List Str)) (seen : List Str) : List PyData → Bool
  | [] => true
  | f :: fs => match pairOf f with
    | some (.str n, w) => match look n t with
      | some ws => !seen.contains n && (stands ws w && goFacts t (n :: seen) fs)
      | none => false
    | _ => false
def areFacts (t : List (Str × List Str)) (d : PyData) : Bool := match rowOf d with
  | some fs => decide (fs.length ≤ t.length) && goFacts t [] fs
  | none => false
/-- the fields as a form keeps them -/
inductive TabR (K : PySem.W.Frag) (H : Hp) : List Addr → List (Key × V) → List (Str × List Str) → Prop
  | nil : TabR K H [] [] []
  | cons {q v : Addr} {n : Str} {ws : List Str} {ps : List Addr} {kvs : List (Key × V)} {t : List (Str × List Str)} : SqT K H q [.str n, .ref v] → SqT K H v (ws.map V.str) → (∀ w ∈ ws, PyData.strOk w = true) → TabR K H ps kvs t → TabR K H (q :: ps) ((.inr n, .ref v) :: kvs) ((n, ws) :: t)
def TabAt (K : PySem.W.Frag) (H : Hp) (p : Addr) (t : List (Str × List Str)) : Prop := ∃ (ps : List Addr) (kvs : List (Key × V)), SqZ H p (ps.map V.ref) ∧ TabR K H ps kvs t ∧ (t.map (·.1)).Nodup ∧ t.length ≤ 1000
theorem TabR.same {K : PySem.W.Frag} {H H' : Hp} (s : Same H H') : ∀ {ps : List Addr} {kvs : List (Key × V)} {t : List (Str × List Str)}, TabR K H ps kvs t → TabR K H' ps kvs t
  | _, _, _, .nil => .nil
  | _, _, _, .cons a b o c => .cons (seqT_same s a) (seqT_same s b) o (TabR.same s c)
theorem TabR.len {K : PySem.W.Frag} {H : Hp} : ∀ {ps : List Addr} {kvs : List (Key × V)} {t : List (Str × List Str)}, TabR K H ps kvs t → ps.length = t.length ∧ kvs.map (·.1) = (t.map (·.1)).map Sum.inr
  | _, _, _, .nil => ⟨rfl, rfl⟩
  | _, _, _, .cons a b o c => ⟨by rw [List.length_cons, List.length_cons, (TabR.len c).1], by rw [List.map_cons, List.map_cons, List.map_cons, (TabR.len c).2]⟩
theorem TabR.prs {K : PySem.W.Frag} {H : Hp} : ∀ {ps : List Addr} {kvs : List (Key × V)} {t : List (Str × List Str)}, TabR K H ps kvs t → Paired (fun p (kv : Key × V) => SqT K H p [kV kv.1, kv.2] ∨ SqL K H p [kV kv.1, kv.2]) ps kvs
  | _, _, _, .nil => .nil
  | _, _, _, .cons a b o c => .cons (.inl a) (TabR.prs c)
theorem TabR.val {K : PySem.W.Frag} {H : Hp} {n : Str} : ∀ {ps : List Addr} {kvs : List (Key × V)} {t : List (Str × List Str)}, TabR K H ps kvs t →
    (look n t = none ∧ valV kvs (.inr n) = none) ∨ (∃ ws vp, look n t = some ws ∧ valV kvs (.inr n) = some (.ref vp) ∧ SqT K H vp (ws.map V.str) ∧ ∀ w ∈ ws, PyData.strOk w = true)
  | _, _, _, .nil => .inl ⟨rfl, rfl⟩
  | _, _, _, .cons (n := m) (v := v) (ws := ws) a b o c => by
    by_cases e : m = n
    · subst e
      exact .inr ⟨ws, v, by unfold look; rw [if_pos rfl], valV_pos rfl, b, o⟩
    · have e2 : ¬ (Sum.inr m : Key) = Sum.inr n := fun z => e (Sum.inr.inj z)
      have l1 : ∀ {ws : List Str} {t : List (Str × List Str)}, look n ((m, ws) :: t) = look n t := by
        intro ws t
        show (if m = n then some ws else look n t) = look n t
        rw [if_neg e]
      rcases TabR.val c with ⟨h1, h2⟩ | ⟨ws', vp, h1, h2, h3⟩
      · exact .inl ⟨l1.trans h1, (valV_neg e2).trans h2⟩
      · exact .inr ⟨ws', vp, l1.trans h1, (valV_neg e2).trans h2, h3⟩
theorem merge_nodup : ∀ (kvs acc : List (Key × V)), (∀ kv ∈ kvs, valV acc kv.1 = none) → (kvs.map (·.1)).Nodup → mergeK acc kvs = acc ++ kvs
  | [], acc, _, _ => (List.append_nil acc).symm
  | kv :: kvs, acc, h, hn => by
    rw [List.map_cons, List.nodup_cons] at hn
    show mergeK (putK acc kv.1 kv.2) kvs = _
    have h0 := h kv List.mem_cons_self
    rw [putK_new kv.2 h0, merge_nodup kvs _ (fun kv' hm => ?_) hn.2, List.append_assoc]
    · rfl
    · rw [valV_snoc kv.1 kv'.1 kv.2 acc h0, if_neg (fun z => hn.1 (List.mem_map.mpr ⟨kv', hm, z⟩))]
      exact h kv' (List.mem_cons_of_mem _ hm)
theorem nodup_inr {xs : List Str} (h : xs.Nodup) : (xs.map (Sum.inr : Str → Key)).Nodup := by
  induction xs with
  | nil => exact List.nodup_nil
  | cons x xs ih =>
    rw [List.nodup_cons] at h
    rw [List.map_cons, List.nodup_cons]
    refine ⟨fun z => ?_, ih h.2⟩
    obtain ⟨y, hy, e⟩ := List.mem_map.mp z
    exact h.1 (Sum.inr.inj e ▸ hy)
theorem dps_strs {K : PySem.W.Frag} {H : Hp} : ∀ ws : List Str, DpAll K H (ws.map V.str) (ws.map PyData.str)
  | [] => .nil
  | w :: ws => .cons (.str w) (dps_strs ws)
theorem lay_strs : ∀ ws : List Str, (∀ w ∈ ws, PyData.strOk w = true) → PyData.canLayAll0 (ws.map PyData.str) = true
  | [], _ => by simp [PyData.canLayAll0]
  | w :: ws, h => by simp [PyData.canLayAll0, PyData.canLay0, h w List.mem_cons_self, lay_strs ws fun x hx => h x (List.mem_cons_of_mem _ hx)]
/-- x not in a tuple of texts, x any data -/
def rNotInZ (K : PySem.W.Frag) : R2 := fun x y H Q => ∃ (p : Addr) (ws : List Str) (d : PyData), y = .ref p ∧ SqT K H p (ws.map V.str) ∧ (∀ w ∈ ws, PyData.strOk w = true) ∧ Dp K H x d ∧ SeqAt.shaped d = true ∧ Q (.bl (!stands ws d)) H
theorem op_notInZ {X : Cx} (hu : X.A.units + 65 < cLine) : OpR X (compareOp .NotIn) (rNotInZ X.K) := by
  intro pins s σ H x y v u Q I rx ry h
  obtain ⟨p, ws, d, rfl, hq, ho, hd, sd, q⟩ := h
  cases ry
  obtain ⟨bs, r1⟩ := Dp.reads I d x v hd rx
  obtain ⟨its, rv, pl, hz⟩ := I.tuple hq
  obtain ⟨as, r2⟩ := Dp.readsAll I (ws.map PyData.str) _ its (dps_strs ws) rv
  have r3 : ReadsAll s.heap its.toArray.toList (ws.map PyData.str) as := by simpa using r2
  refine SeqAt.notIn_tupleAt _ pl (SeqAt.items_eqAt r3 r1 (lay_strs ws ho) (SeqAt.canLay_of_shaped sd) (PyProof.Rows.room_in_shaped sd hu)) ⟨.bl _, H, I, rfl, ?_⟩
  rw [SeqAt.any_by_data r3 (lay_strs ws ho)]
  exact q
/-- a, b = a list or a tuple of that length -/
def gRow (K : PySem.W.Frag) (n : Nat) (t : TGs) : TG := fun v σ H Q => gTup K n t v σ H Q ∨ gLst K n t v σ H Q
theorem pg_row {X : Cx} {es : List Expr} {k : Nat} {t : TGs} {n : Nat} {pos : Pos} (hc : X.calm = true) (h : PGs X es t)
    (hn : (assignEach es X.env).length = n := by rfl) (hst : (assignEach es X.env).findIdx? (·.1) = none := by rfl) : PG X (.Tuple es k pos) (gRow X.K n t) :=
  ⟨fun pins s σ H v u Q I r hw => hw.elim (fun q => (pg_tup hc h hn hst).run pins s σ H v u Q I r q) (fun q => (pg_lst hc h hn hst).run pins s σ H v u Q I r q)⟩
/-- a walk over a list or a tuple that its turns leave as it is -/
theorem for_row {K : PySem.W.Frag} {p : Addr} {ys : List V} {t0 : TE} {g : TG} {tb : TS} {D : Ends} {σ : L2.St} {H0 H : Hp} (Pv : Nat → L2.St → Hp → Prop) (ht : ∀ Q' : VK, Q' (.ref p) H → t0 σ H Q') (hq : SqL K H0 p ys ∨ SqT K H0 p ys) (h0 : Pv 0 σ H) (hG : ∀ i σ H', Pv i σ H' → Same H0 H')
    (hs : ∀ i x σ H', i < ys.length → Pv i σ H' → ys[i]? = some x → g x σ H' fun σ2 H2 => tb { D with nx := Pv (i + 1), ct := Pv (i + 1), bk := D.nx } σ2 H2) (hd : ∀ σ H', Pv ys.length σ H' → D.nx σ H') : tFor (iRow K t0) g tb D σ H := by
  have s0 := hG 0 σ H h0
  rcases hq with hq | hq
  · refine .inl (ht _ ⟨p, rfl, ⟨ys, s0.seq hq⟩, for_it walk_list Pv h0 (fun i σ H' _ hP => (hG i σ H' hP).seq hq) (fun i x σ H1 H2 hi hP hY => ?_) hd⟩)
    obtain ⟨rfl, hx⟩ := hY
    exact hs i x σ H2 hi hP hx
  · refine .inr (ht _ ⟨p, rfl, ⟨ys, seqT_same s0 hq⟩, for_it walk_tup Pv h0 (fun i σ H' _ hP => seqT_same (hG i σ H' hP) hq) (fun i x σ H1 H2 hi hP hY => ?_) hd⟩)
    obtain ⟨rfl, hx⟩ := hY
    exact hs i x σ H2 hi hP hx
theorem pair_yes {f : PyData} (h : isPair f = true) : ∃ a b, pairOf f = some (a, b) ∧ rowOf f = some [a, b] := by
  unfold isPair at h
  unfold pairOf
  cases e : rowOf f with
  | none =>
    rw [e] at h
    cases h
  | some xs =>
    rw [e] at h
    have h2 : xs.length = 2 := of_decide_eq_true h
    match xs, h2 with
    | [a, b], _ => exact ⟨a, b, rfl, rfl⟩
theorem pair_no {f : PyData} (h : isPair f = false) : pairOf f = none := by
  unfold isPair at h
  unfold pairOf
  cases e : rowOf f with
  | none => rfl
  | some xs =>
    rw [e] at h
    have h2 : ¬ xs.length = 2 := of_decide_eq_false h
    match xs, h2 with
    | [], _ => rfl
    | [_], _ => rfl
    | [_, _], h => exact absurd rfl h
    | _ :: _ :: _ :: _, _ => rfl
theorem go_none {t : List (Str × List Str)} {seen : List Str} {f : PyData} {fs : List PyData} (h : pairOf f = none) : goFacts t seen (f :: fs) = false := by
  unfold goFacts
  rw [h]
theorem go_nostr {t : List (Str × List Str)} {seen : List Str} {f a b : PyData} {fs : List PyData} (h : pairOf f = some (a, b)) (hs : isStr a = false) : goFacts t seen (f :: fs) = false := by
  unfold goFacts
  rw [h]
  cases a <;> first | rfl | cases hs
theorem go_new {t : List (Str × List Str)} {seen : List Str} {f b : PyData} {n : Str} {fs : List PyData} (h : pairOf f = some (.str n, b)) (hl : look n t = none) : goFacts t seen (f :: fs) = false := by
  unfold goFacts
  rw [h]
  show (match look n t with | some ws => !seen.contains n && (stands ws b && goFacts t (n :: seen) fs) | none => false) = false
  rw [hl]
theorem go_old {t : List (Str × List Str)} {seen : List Str} {f b : PyData} {n : Str} {ws : List Str} {fs : List PyData} (h : pairOf f = some (.str n, b)) (hl : look n t = some ws) : goFacts t seen (f :: fs) = (!seen.contains n && (stands ws b && goFacts t (n :: seen) fs)) := by
  conv => lhs; unfold goFacts
  rw [h]
  show (match look n t with | some ws => !seen.contains n && (stands ws b && goFacts t (n :: seen) fs) | none => false) = _
  rw [hl]
theorem go_seen {t : List (Str × List Str)} {seen : List Str} {f b : PyData} {n : Str} {fs : List PyData} (h : pairOf f = some (.str n, b)) (hs : seen.contains n = true) : goFacts t seen (f :: fs) = false := by
  cases e : look n t with
  | none => exact go_new h e
  | some ws => rw [go_old h e, hs] <;> rfl
/-- what stands for values is such that it can be compared -/
def FOk (d : PyData) : Prop := ∀ fs, rowOf d = some fs → ∀ f ∈ fs, ∀ a b, pairOf f = some (a, b) → SeqAt.shaped b = true
def spAreFacts (K : PySem.W.Frag) : Sp := fun vs H Q _ => ∃ (p : Addr) (t : List (Str × List Str)) (v : V) (d : PyData), vs = [.ref p, v] ∧ TabAt K H p t ∧ Dp K H v d ∧ FOk d ∧ ∀ H', Same H H' → Q (.bl (areFacts t d)) H'
section
variable {P : Program} {w : World} {K : PySem.W.Frag} {mg : Str → Option Value} {base : Heap}
theorem scAreFacts : FnScope ["fields", "facts", "values_of", "told", "fact", "name", "value"] ["fields", "facts"] (defScope sAreFacts) := ⟨rfl, rfl, rfl, by decide +kernel, rfl, by decide +kernel, by decide +kernel⟩
theorem ok_arefacts {f fR fP : Addr} {fd fdR fdP : FuncData} (F : Fun K "are_facts" "are_facts" sAreFacts f fd) (T : Bb mg) (GR : FnOk P w K mg base CX0 1 fR fdR ["thing"] (spIsRow K)) (kR : PySem.W.keepIn K (.ref fR) = true) (bR : Binds K fdR ["thing"] []) (mR : mg "is_row" = some (.ref fR))
    (GP : FnOk P w K mg base CX0 2 fP fdP ["thing"] (spIsPair K)) (kP : PySem.W.keepIn K (.ref fP) = true) (bP : Binds K fdP ["thing"] []) (mP : mg "is_pair" = some (.ref fP)) :
    FnOk P w K mg base CX0 3 f fd ["fields", "facts"] (spAreFacts K) := by
  refine F.ok scAreFacts (fun vs H Q E h => ?_) (fun cdv A outer s H vs Q E hr h => ?_)
  · obtain ⟨p, t, v, d, rfl, _⟩ := h
    rfl
  obtain ⟨p, t, v, d, rfl, ht, hd, hf, k⟩ := h
  have vs_ : PySem.bootBuiltins "str" = some (.type "str") := by decide +kernel
  have vd_ : PySem.bootBuiltins "dict" = some (.type "dict") := by decide +kernel
  have hu2 : (A.deeper (PyProof.Rows.envOfC "are_facts" (defScope sAreFacts) s.heap.objs.size f cdv)).units + 65 < cLine := by
    have := hr.un
    omega
  have hu1 : (A.deeper (PyProof.Rows.envOfC "are_facts" (defScope sAreFacts) s.heap.objs.size f cdv)).units + 1 < cLine := by
    omega
  refine ⟨_, pss_cons (ps_if (PW.pt (pw_or (pt_not (pt_val (pe_call GR (hr.mono (by decide)) rfl mR kR bR .nil pass0 (pa_cons (pv 1) pa_nil)))) (pw_or1 (pt_cmpR op_gt (pe_callB call_len_seq rfl T.len PySem.boot_len (pa_cons (pv 1) pa_nil)) (pe_callB call_len_seq rfl T.len PySem.boot_len (pa_cons (pv 0) pa_nil)) (nomark _)))))
      (pss_one (ps_ret pe_bl)) pss_nil)
    (pss_cons (ps_set (i := 2) scAreFacts.nd rfl (.inl rfl) (pe_callTy (call_dictZ (by rfl)) rfl T.dict vd_ (pa_cons (pv 0) pa_nil)))
    (pss_cons (ps_set (i := 3) scAreFacts.nd rfl (.inl rfl) pe_dnewK)
    (pss_cons (ps_for PassesOwn.never rfl (pi_row (pv 1)) (pg_name (i := 4) scAreFacts.nd rfl (.inl rfl))
      (pss_cons (ps_if (pt_not (pt_val (pe_call GP hr rfl mP kP bP .nil pass0 (pa_cons (pv 4) pa_nil)))) (pss_one (ps_ret pe_bl)) pss_nil)
      (pss_cons (ps_asg (pv 4) (pg_row rfl (pgs_cons (pg_name (i := 5) scAreFacts.nd rfl (.inl rfl)) (pgs_cons (pg_name (i := 6) scAreFacts.nd rfl (.inl rfl)) pgs_nil))))
      (pss_cons (ps_if (PW.pt (pw_or (pt_not (pt_val (pe_isi T.isi T.str vs_ (pv 5)))) (pw_or (pt_cmp (pc_din hu1 (pv 5) (pv 3)) (by with_unfolding_all rfl)) (pw_or1 (pt_cmp (pc_dnotin hu1 (pv 5) (pv 2)) (by with_unfolding_all rfl))))))
        (pss_one (ps_ret pe_bl)) pss_nil)
      (pss_cons (ps_if (pt_cmpR (op_notInZ hu2) (pv 6) (pe_dget hu1 (pv 2) (pv 5) (fun _ _ => rfl)) (by with_unfolding_all rfl)) (pss_one (ps_ret pe_bl)) pss_nil)
      (pss_one (ps_dput hu1 (pv 3) (pv 5) pe_bl rfl)))))))
    (pss_one (ps_ret pe_bl))))), ?_⟩
  refine ⟨_, rfl, v, d, rfl, hd, fun H1 s1 => ⟨_, rfl, ?_⟩⟩
  cases e : rowOf d with
  | none =>
    have e1 : isRow d = false := by
      unfold isRow
      rw [e]
      rfl
    rw [e1]
    refine iteT (iteT (q_is ?_ (k H1 s1)))
    unfold areFacts
    rw [e]
  | some fs =>
    have e1 : isRow d = true := by
      unfold isRow
      rw [e]
      rfl
    rw [e1]
    obtain ⟨q, ys, rfl, hq, ha⟩ := row_len (dp_same s1 hd) e
    have hlen := dps_len ha
    obtain ⟨ps, kvs, hz, hT, hn, hm⟩ := ht
    have hz1 : SqZ H1 p (ps.map V.ref) := hz.same s1
    have hT1 := hT.same s1
    have hps : (ps.map V.ref).length = t.length := by rw [List.length_map, hT1.len.1]
    refine iteF ⟨_, rfl, q, ys, rfl, hq, _, rfl, p, _, rfl, .inr hz1.sqT, _, _, rfl, rfl, _, rfl, ?_⟩
    by_cases hl : fs.length ≤ t.length
    · refine iteDF (by omega) ?_
      refine ⟨_, rfl, p, ps, kvs, rfl, .inr hz1, hT1.prs, fun Av hA => ?_⟩
      intro Bv hB
      have hkeys : (kvs.map (·.1)).Nodup := by
        rw [hT1.len.2]
        exact nodup_inr hn
      have hmk : mergeK [] kvs = kvs := (merge_nodup kvs [] (fun _ _ => rfl) hkeys).trans (List.nil_append kvs)
      rw [hmk] at hB ⊢
      have hAB : Av ≠ Bv := fun z => by
        rw [z, upd_same] at hB
        cases hB
      have s2 : Same H1 (upd (upd H1 Av (.dK kvs)) Bv (.dK [])) := (new_same hA _).trans (new_same hB _)
      have areq : areFacts t d = goFacts t [] fs := by
        unfold areFacts
        rw [e]
        show (decide (fs.length ≤ t.length) && goFacts t [] fs) = _
        rw [decide_eq_true hl, Bool.true_and]
      show tFor (iRow K (tVar 1)) (gName 4) _ _ _ _
      refine for_row (ys := ys) (H0 := H1) (fun i σ H' => ∃ (seen : List Str) (told : List (Key × V)) (f4 f5 f6 : Option V), σ = [some (.ref p), some (.ref q), some (.ref Av), some (.ref Bv), f4, f5, f6] ∧ H' Av = some (.dK kvs) ∧ H' Bv = some (.dK told) ∧ told.length ≤ i ∧
        (∀ n, (valV told (.inr n)).isSome = seen.contains n) ∧ Same H1 H' ∧ areFacts t d = goFacts t seen (fs.drop i)) (fun Q' z => ⟨_, rfl, z⟩) hq ?_ ?_ ?_ ?_
      · refine ⟨[], [], none, none, none, rfl, ?_, upd_same, Nat.le_refl _, fun n => rfl, s2, areq⟩
        rw [upd_ne hAB, upd_same]
      · rintro i σ H' ⟨_, _, _, _, _, _, _, _, _, _, z, _⟩
        exact z
      · rintro i x σ H2 hi ⟨seen, told, f4, f5, f6, rfl, h1, h2, h3, h4, h5, h6⟩ hx
        obtain ⟨f, hf1, hdf⟩ := dps_get ha hx
        have hfm : f ∈ fs := List.mem_of_getElem? hf1
        have hdrop : fs.drop i = f :: fs.drop (i + 1) := by
          obtain ⟨hi2, e2⟩ := List.getElem?_eq_some_iff.mp hf1
          rw [List.drop_eq_getElem_cons hi2, e2]
        rw [hdrop] at h6
        refine ⟨_, rfl, x, f, rfl, dp_same h5 hdf, fun H3 s3 => ⟨_, rfl, ?_⟩⟩
        have s13 : Same H1 H3 := h5.trans s3
        have no : areFacts t d = false → Q (.bl false) H3 := fun z => q_is z.symm (k _ (s1.trans s13))
        cases ep : isPair f with
        | false => exact iteT (no (h6.trans (go_none (pair_no ep))))
        | true =>
          obtain ⟨a, b, e2, e3⟩ := pair_yes ep
          refine iteF ?_
          obtain ⟨r, zs, rfl, hz2, hzs⟩ := row_len (dp_same s13 hdf) e3
          obtain ⟨va, vb, rfl, hva, hvb⟩ : ∃ va vb, zs = [va, vb] ∧ Dp K H3 va a ∧ Dp K H3 vb b := by
            cases hzs with
            | cons q1 q2 =>
              cases q2 with
              | cons q3 q4 =>
                cases q4
                exact ⟨_, _, rfl, q1, q3⟩
          have asg : ∀ Q' : L2.St → Hp → Prop, Q' [some (.ref p), some (.ref q), some (.ref Av), some (.ref Bv), some (.ref r), some va, some vb] H3 →
              gRow K 2 (gCons (gName 5) (gCons (gName 6) gNil)) (.ref r) [some (.ref p), some (.ref q), some (.ref Av), some (.ref Bv), some (.ref r), f5, f6] H3 Q' := fun Q' z => by
            rcases hz2 with hz2 | hz2
            · exact .inr ⟨r, [va, vb], rfl, hz2, rfl, va, [vb], rfl, vb, [], rfl, rfl, z⟩
            · exact .inl ⟨r, [va, vb], rfl, hz2, rfl, va, [vb], rfl, vb, [], rfl, rfl, z⟩
          refine ⟨_, rfl, asg _ ?_⟩
          refine ⟨_, rfl, _, _, _, _, _, rfl, .ty _, tyD hva, kit_str (dp_no_dict hva), _, rfl, ?_⟩
          cases es : isStr a with
          | false => exact iteT (iteT (no (h6.trans (go_nostr e2 es))))
          | true =>
            obtain ⟨n, rfl⟩ : ∃ n, a = .str n := by
              cases a <;> first | exact ⟨_, rfl⟩ | cases es
            cases hva
            have h1' := s3 _ _ h1
            have h2' := s3 _ _ h2
            refine iteF ⟨_, rfl, _, rfl, Bv, _, rfl, DGet.k (k := .inr n) h2', _, rfl, ?_⟩
            rw [h4]
            cases en : seen.contains n with
            | true => exact iteT (iteT (no (h6.trans (go_seen e2 en))))
            | false =>
              refine iteF ⟨_, rfl, _, rfl, Av, _, rfl, DGet.k (k := .inr n) h1', _, rfl, ?_⟩
              rcases hT1.val (n := n) with ⟨g1, g2⟩ | ⟨ws, vp, g1, g2, g3, g4⟩
              · rw [g2]
                exact iteT (no (h6.trans (go_new e2 g1)))
              · rw [g2]
                refine iteF ?_
                have hg := DGet.k (k := .inr n) h1'
                rw [g2] at hg
                refine ⟨_, rfl, _, rfl, _, rfl, Av, _, rfl, hg, vp, ws, b, rfl, seqT_same s13 g3, g4, hvb, hf fs e f hfm _ _ e2, _, rfl, ?_⟩
                have g5 := go_old (t := t) (seen := seen) (fs := fs.drop (i + 1)) e2 g1
                rw [en] at g5
                cases ew : stands ws b with
                | false =>
                  refine iteT (no (h6.trans (g5.trans ?_)))
                  rw [ew] <;> rfl
                | true =>
                  refine iteF ⟨_, rfl, _, rfl, Bv, _, rfl, DPut.k (k := .inr n) h2' (small1000 (by omega)), ?_⟩
                  refine ⟨n :: seen, putK told (.inr n) (.bl true), some (.ref r), some (.str n), some vb, rfl, ?_, upd_same, ?_, ?_, ?_, ?_⟩
                  · rw [upd_ne hAB]
                    exact h1'
                  · have := length_putK told (.inr n) (.bl true)
                    omega
                  · intro m
                    rw [valV_put, List.contains_cons]
                    by_cases em : m = n
                    · subst em
                      rw [if_pos rfl]
                      simp
                    · rw [if_neg (fun z => em (Sum.inr.inj z)), h4 m]
                      have : (m == n) = false := beq_eq_false_iff_ne.mpr em
                      rw [this, Bool.false_or]
                  · refine fun b' o z => ?_
                    have nB : b' ≠ Bv := fun y => by
                      subst y
                      have := (new_same hA (.dK kvs)) _ _ z
                      rw [hB] at this
                      cases this
                    rw [upd_ne nB]
                    exact s13 _ _ z
                  · rw [h6, g5, ew] <;> rfl
      · rintro σ H' ⟨seen, told, f4, f5, f6, rfl, h1, h2, h3, h4, h5, h6⟩
        rw [List.drop_eq_nil_of_le (by omega)] at h6
        exact q_is (h6.trans rfl).symm (k _ (s1.trans h5))
    · refine iteDT (by omega) (q_is ?_ (k H1 s1))
      unfold areFacts
      rw [e]
      show false = (decide (fs.length ≤ t.length) && goFacts t [] fs)
      rw [decide_eq_false hl, Bool.false_and]
end
end Q
set_option Elab.async false
set_option linter.all false
set_option maxRecDepth 100000
set_option maxHeartbeats 4000000
/-! ### in_sequence -/
namespace Q
open PySem L2 XD
/-- the word told with a name -/
def pick (n : Str) : List (Str × Str) → Option Str
  | [] => none
  | (m, w) :: r => if m = n then some w else pick n r
def sorted (t : List (Str × List Str)) (r : List (Str × Str)) : List (Str × Str) := t.filterMap fun e => (pick e.1 r).map fun w => (e.1, w)
/-- pairs of words, each a list or a tuple -/
inductive FactR (K : PySem.W.Frag) (H : Hp) : List Addr → List (Key × V) → List (Str × Str) → Prop
  | nil : FactR K H [] [] []
  | cons {q : Addr} {n w : Str} {ps : List Addr} {kvs : List (Key × V)} {r : List (Str × Str)} : (SqT K H q [.str n, .str w] ∨ SqL K H q [.str n, .str w]) → FactR K H ps kvs r → FactR K H (q :: ps) ((.inr n, .str w) :: kvs) ((n, w) :: r)
theorem FactR.prs {K : PySem.W.Frag} {H : Hp} : ∀ {ps : List Addr} {kvs : List (Key × V)} {r : List (Str × Str)}, FactR K H ps kvs r → Paired (fun p (kv : Key × V) => SqT K H p [kV kv.1, kv.2] ∨ SqL K H p [kV kv.1, kv.2]) ps kvs
  | _, _, _, .nil => .nil
  | _, _, _, .cons a c => .cons a (FactR.prs c)
theorem FactR.same {K : PySem.W.Frag} {H H' : Hp} (s : Same H H') : ∀ {ps : List Addr} {kvs : List (Key × V)} {r : List (Str × Str)}, FactR K H ps kvs r → FactR K H' ps kvs r
  | _, _, _, .nil => .nil
  | _, _, _, .cons a c => .cons (a.elim (fun q => .inl (seqT_same s q)) (fun q => .inr (s.seq q))) (FactR.same s c)
theorem FactR.keys {K : PySem.W.Frag} {H : Hp} : ∀ {ps : List Addr} {kvs : List (Key × V)} {r : List (Str × Str)}, FactR K H ps kvs r → kvs.map (·.1) = (r.map (·.1)).map Sum.inr
  | _, _, _, .nil => rfl
  | _, _, _, .cons a c => by rw [List.map_cons, List.map_cons, List.map_cons, FactR.keys c]
theorem FactR.val {K : PySem.W.Frag} {H : Hp} {n : Str} : ∀ {ps : List Addr} {kvs : List (Key × V)} {r : List (Str × Str)}, FactR K H ps kvs r → valV kvs (.inr n) = (pick n r).map V.str
  | _, _, _, .nil => rfl
  | _, _, _, .cons (n := m) (w := w) (r := r) a c => by
    by_cases e : m = n
    · subst e
      rw [valV_pos rfl]
      unfold pick
      rw [if_pos rfl] <;> rfl
    · rw [valV_neg (fun z => e (Sum.inr.inj z)), FactR.val c]
      conv => rhs; unfold pick
      rw [if_neg e]
/-- a rule as a form keeps it -/
def RuleAt (K : PySem.W.Frag) (H : Hp) (p : Addr) (r : List (Str × Str)) : Prop := ∃ qs : List Addr, SqZ H p (qs.map V.ref) ∧ Paired (fun q (e : Str × Str) => SqT K H q [.str e.1, .str e.2]) qs r
theorem prd_same {K : PySem.W.Frag} {H H' : Hp} (s : Same H H') : ∀ {qs : List Addr} {r : List (Str × Str)}, Paired (fun q (e : Str × Str) => SqT K H q [.str e.1, .str e.2]) qs r → Paired (fun q (e : Str × Str) => SqT K H' q [.str e.1, .str e.2]) qs r
  | _, _, .nil => .nil
  | _, _, .cons a b => .cons (seqT_same s a) (prd_same s b)
theorem prd_snoc {α β : Type} {R : α → β → Prop} : ∀ {xs : List α} {ys : List β} {x : α} {y : β}, Paired R xs ys → R x y → Paired R (xs ++ [x]) (ys ++ [y])
  | _, _, _, _, .nil, h => .cons h .nil
  | _, _, _, _, .cons a b, h => .cons a (prd_snoc b h)
theorem TabR.at {K : PySem.W.Frag} {H : Hp} : ∀ {ps : List Addr} {kvs : List (Key × V)} {t : List (Str × List Str)} {i : Nat} {x : V}, TabR K H ps kvs t → (ps.map V.ref)[i]? = some x →
    ∃ (q v : Addr) (n : Str) (ws : List Str), x = .ref q ∧ t[i]? = some (n, ws) ∧ SqT K H q [.str n, .ref v] ∧ SqT K H v (ws.map V.str)
  | _, _, _, _, _, .nil, e => by simp at e
  | _, _, _, 0, _, .cons (q := q) (v := v) (n := n) (ws := ws) a b o c, e => by
    simp at e
    exact ⟨q, v, n, ws, e.symm, rfl, a, b⟩
  | _, _, _, i + 1, x, .cons a b o c, e => by
    obtain ⟨q, v, n, ws, h1, h2, h3⟩ := TabR.at (i := i) (x := x) c (by simpa using e)
    exact ⟨q, v, n, ws, h1, by simpa using h2, h3⟩
theorem sorted_next {t : List (Str × List Str)} {r : List (Str × Str)} {i : Nat} {n : Str} {ws : List Str} (h : t[i]? = some (n, ws)) : sorted (t.take (i + 1)) r = sorted (t.take i) r ++ ((pick n r).map fun w => (n, w)).toList := by
  unfold sorted
  rw [take_one h, List.filterMap_append]
  cases e : pick n r with
  | none => simp [e]
  | some w => simp [e]
theorem sorted_len {t : List (Str × List Str)} {r : List (Str × Str)} : (sorted t r).length ≤ t.length := by
  unfold sorted
  exact List.length_filterMap_le _ _
theorem prd_len {α β : Type} {R : α → β → Prop} : ∀ {xs : List α} {ys : List β}, Paired R xs ys → xs.length = ys.length
  | _, _, .nil => rfl
  | _, _, .cons _ b => by rw [List.length_cons, List.length_cons, prd_len b]
theorem seqT_off {K : PySem.W.Frag} {H : Hp} {D q : Addr} {xs acc acc' : List V} (h : SqT K H q xs) (hD : H D = some (.lst acc)) : SqT K (upd H D (.lst acc')) q xs := by
  have n1 : ∀ {o : HO}, H q = some o → (∀ l, o ≠ .lst l) → q ≠ D := fun e1 e2 z => by
    subst z
    rw [hD] at e1
    exact e2 _ (Option.some.inj e1).symm
  rcases h with (h | ⟨o, h⟩) | h
  · exact .inl (.inl (by rw [upd_ne (n1 h (by intro l z; cases z))]; exact h))
  · exact .inl (.inr ⟨o, by rw [upd_ne (n1 h (by intro l z; cases z))]; exact h⟩)
  · exact .inr h
theorem prd_off {K : PySem.W.Frag} {H : Hp} {D : Addr} {acc acc' : List V} (hD : H D = some (.lst acc)) : ∀ {qs : List Addr} {r : List (Str × Str)}, Paired (fun q (e : Str × Str) => SqT K H q [.str e.1, .str e.2]) qs r →
    Paired (fun q (e : Str × Str) => SqT K (upd H D (.lst acc')) q [.str e.1, .str e.2]) qs r
  | _, _, .nil => .nil
  | _, _, .cons a b => .cons (seqT_off a hD) (prd_off hD b)
def spInSeq (K : PySem.W.Frag) : Sp := fun vs H Q _ => ∃ (p q : Addr) (t : List (Str × List Str)) (ps : List Addr) (kvs : List (Key × V)) (r : List (Str × Str)), vs = [.ref p, .ref q] ∧ TabAt K H p t ∧ (SqL K H q (ps.map V.ref) ∨ SqZ H q (ps.map V.ref)) ∧
  FactR K H ps kvs r ∧ (r.map (·.1)).Nodup ∧ ∀ z H', Same H H' → RuleAt K H' z (sorted t r) → Q (.ref z) H'
section
variable {P : Program} {w : World} {K : PySem.W.Frag} {mg : Str → Option Value} {base : Heap}
theorem scInSeq : FnScope ["fields", "facts", "value_of", "name", "_"] ["fields", "facts"] (defScope sInSeq) := ⟨rfl, rfl, rfl, by decide +kernel, rfl, by decide +kernel, by decide +kernel⟩
theorem ok_inseq {f : Addr} {fd : FuncData} (F : Fun K "in_sequence" "in_sequence" sInSeq f fd) (T : Bb mg) : FnOk P w K mg base CX0 1 f fd ["fields", "facts"] (spInSeq K) := by
  refine F.ok scInSeq (fun vs H Q E h => ?_) (fun cdv A outer s H vs Q E hr h => ?_)
  · obtain ⟨p, q, t, ps, kvs, r, rfl, _⟩ := h
    rfl
  obtain ⟨p, q, t, ps, kvs, r, rfl, ht, hq, hF, hn, k⟩ := h
  have vd_ : PySem.bootBuiltins "dict" = some (.type "dict") := by decide +kernel
  have vt_ : PySem.bootBuiltins "tuple" = some (.type "tuple") := by decide +kernel
  have hu1 : (A.deeper (PyProof.Rows.envOfC "in_sequence" (defScope sInSeq) s.heap.objs.size f cdv)).units + 1 < cLine := by
    have := hr.un
    omega
  refine ⟨_, pss_cons (ps_set (i := 2) scInSeq.nd rfl (.inr rfl) (pe_callTy (call_dictZ (by rfl)) rfl T.dict vd_ (pa_cons (pv 1) pa_nil)))
    (pss_one (ps_ret (pe_callTy call_tupZ rfl T.tup vt_ (pa_cons (pe_lc (own := [("name", 3), ("_", 4)]) (g := gTup K 2 (gCons (gName 3) (gCons (gName 4) gNil))) (by rfl) scInSeq.nd (pi_row (pv 0)) (blkOk_by (N := ["fields", "facts", "value_of", "name", "_"]) (sc := defScope sInSeq) (by decide +kernel))
      (fun _ _ _ _ _ => pg_tup rfl (pgs_cons (pg_name (i := 3) scInSeq.nd rfl (.inl rfl)) (pgs_cons (pg_name (i := 4) scInSeq.nd rfl (.inl rfl)) pgs_nil)))
      (fun _ _ _ _ _ => pts_one (pt_cmp (pc_din hu1 (pv 3) (pv 2)) (by with_unfolding_all rfl)))
      (fun _ _ _ _ _ => pe_tupZ (pa_cons (pv 3) (pa_cons (pe_dget hu1 (pv 2) (pv 3) (fun _ _ => rfl)) pa_nil)))) pa_nil)))), ?_⟩
  obtain ⟨ps0, tk, hz, hT, htn, htm⟩ := ht
  refine ⟨_, rfl, q, ps, kvs, rfl, hq, hF.prs, fun C hC => ?_⟩
  have hmk : mergeK [] kvs = kvs := (merge_nodup kvs [] (fun _ _ => rfl) (by rw [hF.keys]; exact nodup_inr hn)).trans (List.nil_append kvs)
  rw [hmk]
  have s2 : Same H (upd H C (.dK kvs)) := new_same hC _
  have hT2 := hT.same s2
  have hlen : (ps0.map V.ref).length = t.length := by rw [List.length_map, hT.len.1]
  show tLc (iRow K (tVar 0)) (gTup K 2 (gCons (gName 3) (gCons (gName 4) gNil))) (tB (tDIn (tVar 3) (tVar 2))) (tTupZ (tCons (tVar 3) (tCons (tDGet (tVar 2) (tVar 3)) tNil))) [3, 4]
    [some (.ref p), some (.ref q), some (.ref C), none, none] (upd H C (.dK kvs)) (fun x H1 => rTupZ K [x] H1 Q)
  refine lc_row (ys := ps0.map V.ref) (fun D i H' => ∃ qs : List Addr, H' D = some (.lst (qs.map V.ref)) ∧ Paired (fun q (e : Str × Str) => SqT K H' q [.str e.1, .str e.2]) qs (sorted (t.take i) r) ∧ Same (upd H C (.dK kvs)) H')
    (fun Q' z => ⟨_, rfl, z⟩) (.inr (hz.same s2).sqT) (fun D hD => ⟨[], upd_same, .nil, new_same hD _⟩) (fun D i H' hD hP => hP.elim fun _ z => z.2.2) (fun D i x H' hD hi hP hx => ?_) (fun D H' hD hP => ?_)
  · obtain ⟨qs, g1, g2, g3⟩ := hP
    obtain ⟨q1, v1, n, ws, rfl, e1, e2, e3⟩ := hT2.at hx
    have hC' := g3 _ _ (upd_same (H := H) (a := C) (o := .dK kvs))
    have hv := hF.val (n := n)
    have hnx := sorted_next (r := r) e1
    refine ⟨q1, _, rfl, seqT_same g3 e2, rfl, .str n, _, rfl, .ref v1, [], rfl, rfl, rfl, _, rfl, _, rfl, C, _, rfl, DGet.k (k := .inr n) hC', _, rfl, ?_⟩
    rw [hv]
    cases ep : pick n r with
    | none =>
      refine iteF ⟨qs, g1, ?_, g3⟩
      rw [hnx, ep]
      simpa using g2
    | some w1 =>
      have hg := DGet.k (k := .inr n) hC'
      rw [hv, ep] at hg
      refine iteT ⟨_, rfl, _, rfl, _, rfl, C, _, rfl, hg, (by show 2 ≤ sizeLine; decide), fun z o hz0 ho => ?_⟩
      have hDz : D ≠ z := fun y => by
        rw [y, hz0] at g1
        cases g1
      have sz : Same H' (upd H' z (.frz o (.tup [.str n, .str w1]))) := new_same hz0 _
      have hD4 := sz _ _ g1
      have hql : qs.length ≤ t.length := by
        rw [prd_len g2]
        refine Nat.le_trans sorted_len ?_
        rw [List.length_take]
        exact Nat.min_le_right _ _
      refine ⟨_, hD4, small1000 (by rw [List.length_map]; omega), qs ++ [z], ?_, ?_, fun b o' y => ?_⟩
      · rw [upd_same, List.map_append] <;> rfl
      · rw [hnx, ep]
        refine prd_off hD4 (prd_snoc (prd_same sz g2) ?_)
        exact .inl (.inr ⟨o, upd_same⟩)
      · rw [upd_ne (ne_of_none y hD)]
        exact sz _ _ (g3 _ _ y)
  · obtain ⟨qs, g1, g2, g3⟩ := hP
    rw [List.take_of_length_le (by omega)] at g2
    refine ⟨D, _, rfl, .inl ⟨SqL.of g1, fun l o hl ho => ?_⟩⟩
    have sl : Same H' (upd H' l (.frz o (.tup (qs.map V.ref)))) := new_same hl _
    exact k l _ ((s2.trans g3).trans sl) ⟨qs, ⟨o, upd_same, ho⟩, prd_same sl g2⟩
end
end Q
set_option Elab.async false
set_option linter.all false
set_option maxRecDepth 100000
set_option maxHeartbeats 4000000
/-! ### _are_values, _are_fields -/
namespace Q
open PySem L2 XD
structure Fm (mg : Str → Option Value) : Prop where
  mf : ∃ t, mg "MOST_FIELDS" = some (.int 6 t)
  mv : ∃ t, mg "MOST_VALUES" = some (.int 5 t)
  mr : ∃ t, mg "MOST_RULES" = some (.int 20 t)
  mp : ∃ t, mg "MOST_PAIRS" = some (.int 4 t)
  mfi : ∃ t, mg "MOST_FILLINGS" = some (.int 1000 t)
/-- a def that is known -/
structure Kn (P : Program) (w : World) (K : PySem.W.Frag) (mg : Str → Option Value) (base : Heap) (k : Nat) (x : Str) (ps : List Str) (sp : Sp) : Prop where
  ex : ∃ f fd, FnOk P w K mg base CX0 k f fd ps sp ∧ PySem.W.keepIn K (.ref f) = true ∧ Binds K fd ps [] ∧ mg x = some (.ref f)
def areValues (d : PyData) : Bool := match rowOf d with
  | some ws => decide (1 ≤ ws.length) && (decide (ws.length ≤ 5) && unlike ws)
  | none => false
def MShort (d : PyData) : Prop := ∀ ws, rowOf d = some ws → ∀ w ∈ ws, Short w
def spAreValues (K : PySem.W.Frag) : Sp := fun vs H Q _ => ∃ (v : V) (d : PyData), vs = [v] ∧ Dp K H v d ∧ MShort d ∧ ∀ H', Same H H' → Q (.bl (areValues d)) H'
theorem isRow_of {d : PyData} {xs : List PyData} (h : rowOf d = some xs) : isRow d = true := by
  unfold isRow
  rw [h]
  rfl
theorem isRow_no {d : PyData} (h : rowOf d = none) : isRow d = false := by
  unfold isRow
  rw [h]
  rfl
section
variable {P : Program} {w : World} {K : PySem.W.Frag} {mg : Str → Option Value} {base : Heap}
theorem scAreValues : FnScope ["values"] ["values"] (defScope sAreValues) := ⟨rfl, rfl, rfl, by decide +kernel, rfl, by decide +kernel, by decide +kernel⟩
theorem ok_arevalues {f : Addr} {fd : FuncData} (F : Fun K "_are_values" "_are_values" sAreValues f fd) (T : Bb mg) (C : Fm mg) (KR : Kn P w K mg base 1 "is_row" ["thing"] (spIsRow K)) (KU : Kn P w K mg base 3 "are_unlike_words" ["things"] (spUnlike K)) :
    FnOk P w K mg base CX0 4 f fd ["values"] (spAreValues K) := by
  obtain ⟨fR, fdR, GR, kR, bR, mR⟩ := KR.ex
  obtain ⟨fU, fdU, GU, kU, bU, mU⟩ := KU.ex
  obtain ⟨tV, hV⟩ := C.mv
  refine F.ok scAreValues (fun vs H Q E h => ?_) (fun cdv A outer s H vs Q E hr h => ?_)
  · obtain ⟨v, d, rfl, _⟩ := h
    rfl
  obtain ⟨v, d, rfl, hd, hs, k⟩ := h
  refine ⟨_, pss_one (ps_ret (pe_and (pe_call GR (hr.mono (by decide)) rfl mR kR bR .nil pass0 (pa_cons (pv 0) pa_nil))
    (pe_and (pe_chain op_le op_le pe_int (pe_callB call_len_seq rfl T.len PySem.boot_len (pa_cons (pv 0) pa_nil)) (pe_glob (v := .int 5) (by rfl) hV ⟨_, rfl⟩))
    (pe_one (pe_call GU hr rfl mU kU bU .nil pass0 (pa_cons (pv 0) pa_nil)))))), ?_⟩
  refine ⟨_, rfl, v, d, rfl, hd, fun H1 s1 => ⟨_, rfl, ?_⟩⟩
  cases e : rowOf d with
  | none =>
    rw [isRow_no e]
    refine iteF (q_is ?_ (k H1 s1))
    unfold areValues
    rw [e]
  | some ws =>
    rw [isRow_of e]
    obtain ⟨p, ys, rfl, hq, ha⟩ := row_len (dp_same s1 hd) e
    have hlen := dps_len ha
    have eq0 : areValues d = (decide (1 ≤ ws.length) && (decide (ws.length ≤ 5) && unlike ws)) := by
      unfold areValues
      rw [e]
    refine iteT ⟨_, rfl, p, ys, rfl, hq, _, _, rfl, rfl, _, rfl, ?_⟩
    by_cases h1 : 1 ≤ ws.length
    · rw [decide_eq_true h1, Bool.true_and] at eq0
      refine iteDT (by omega) ⟨_, _, rfl, rfl, _, rfl, ?_⟩
      by_cases h5 : ws.length ≤ 5
      · rw [decide_eq_true h5, Bool.true_and] at eq0
        refine iteDT (by omega) ⟨_, rfl, p, ys, ws, rfl, hq, ha, hs ws e, by omega, fun H2 s2 => q_is eq0.symm (k _ (s1.trans s2))⟩
      · rw [decide_eq_false h5, Bool.false_and] at eq0
        exact iteDF (by omega) (q_is eq0.symm (k H1 s1))
    · rw [decide_eq_false h1, Bool.false_and] at eq0
      exact iteDF (by omega) ⟨_, rfl, iteF (q_is eq0.symm (k H1 s1))⟩
end
def fieldOk (f : PyData) : Bool := match pairOf f with
  | some (_, v) => areValues v
  | none => false
def firstOf (f : PyData) : PyData := match pairOf f with
  | some (a, _) => a
  | none => .none
def areFields (d : PyData) : Bool := match rowOf d with
  | some fs => decide (1 ≤ fs.length) && (decide (fs.length ≤ 6) && (fs.all fieldOk && unlike (fs.map firstOf)))
  | none => false
/-- the texts in it are short -/
def FShort (d : PyData) : Prop := ∀ fs, rowOf d = some fs → ∀ f ∈ fs, ∀ a b, pairOf f = some (a, b) → Short a ∧ MShort b
def spAreFields (K : PySem.W.Frag) : Sp := fun vs H Q _ => ∃ (v : V) (d : PyData), vs = [v] ∧ Dp K H v d ∧ FShort d ∧ ∀ H', Same H H' → Q (.bl (areFields d)) H'
def rBoth (K : PySem.W.Frag) : V → V → Hp → VK → Prop := fun x y H Q => rIxL K x y H Q ∨ rIxT K x y H Q
theorem ix_both {X : Cx} (K : PySem.W.Frag) (h : X.K = K) : IxR X (rBoth K) := by
  subst h
  exact IxR.or ix_list ix_tup
theorem ix_row {K : PySem.W.Frag} {H : Hp} {p : Addr} {xs : List V} {i : Int} {v : V} {Q : VK} (h : SqL K H p xs ∨ SqT K H p xs) (e : atI xs i = some v) (q : Q v H) : rBoth K (.ref p) (.int i) H Q :=
  h.elim (fun z => .inl ⟨p, xs, i, v, rfl, rfl, z, e, q⟩) (fun z => .inr ⟨p, xs, i, v, rfl, rfl, z, e, q⟩)
theorem dps_snoc {K : PySem.W.Frag} {H : Hp} {v : V} {d : PyData} : ∀ {vs : List V} {ds : List PyData}, DpAll K H vs ds → Dp K H v d → DpAll K H (vs ++ [v]) (ds ++ [d])
  | _, _, .nil, h => .cons h .nil
  | _, _, .cons a b, h => .cons a (dps_snoc b h)
/-- what stands behind a pair -/
theorem pair_at {K : PySem.W.Frag} {H : Hp} {v : V} {f a b : PyData} (h : Dp K H v f) (e : pairOf f = some (a, b)) : ∃ (r : Addr) (va vb : V), v = .ref r ∧ (SqL K H r [va, vb] ∨ SqT K H r [va, vb]) ∧ Dp K H va a ∧ Dp K H vb b := by
  have e3 : rowOf f = some [a, b] := by
    unfold pairOf at e
    cases er : rowOf f with
    | none =>
      rw [er] at e
      cases e
    | some xs =>
      rw [er] at e
      match xs, e with
      | [_, _], e =>
        cases e
        rfl
  obtain ⟨r, zs, rfl, hz2, hzs⟩ := row_len h e3
  cases hzs with
  | cons q1 q2 =>
    cases q2 with
    | cons q3 q4 =>
      cases q4
      exact ⟨r, _, _, rfl, hz2, q1, q3⟩
theorem pair_isPair {f a b : PyData} (e : pairOf f = some (a, b)) : isPair f = true := by
  cases h : isPair f with
  | true => rfl
  | false =>
    rw [pair_no h] at e
    cases e
section
variable {P : Program} {w : World} {K : PySem.W.Frag} {mg : Str → Option Value} {base : Heap}
theorem scAreFields : FnScope ["fields", "field"] ["fields"] (defScope sAreFields) := ⟨rfl, rfl, rfl, by decide +kernel, rfl, by decide +kernel, by decide +kernel⟩
theorem ok_arefields {f : Addr} {fd : FuncData} (F : Fun K "_are_fields" "_are_fields" sAreFields f fd) (T : Bb mg) (C : Fm mg) (KR : Kn P w K mg base 1 "is_row" ["thing"] (spIsRow K)) (KP : Kn P w K mg base 2 "is_pair" ["thing"] (spIsPair K)) (KU : Kn P w K mg base 3 "are_unlike_words" ["things"] (spUnlike K)) (KV : Kn P w K mg base 4 "_are_values" ["values"] (spAreValues K)) :
    FnOk P w K mg base CX0 5 f fd ["fields"] (spAreFields K) := by
  obtain ⟨fR, fdR, GR, kR, bR, mR⟩ := KR.ex
  obtain ⟨fP, fdP, GP, kP, bP, mP⟩ := KP.ex
  obtain ⟨fU, fdU, GU, kU, bU, mU⟩ := KU.ex
  obtain ⟨fV, fdV, GV, kV, bV, mV⟩ := KV.ex
  obtain ⟨tF, hF⟩ := C.mf
  refine F.ok scAreFields (fun vs H Q E h => ?_) (fun cdv A outer s H vs Q E hr h => ?_)
  · obtain ⟨v, d, rfl, _⟩ := h
    rfl
  obtain ⟨v, d, rfl, hd, hs, k⟩ := h
  refine ⟨_, pss_cons (ps_if (PW.pt (pw_or (pt_not (pt_val (pe_call GR (hr.mono (by decide)) rfl mR kR bR .nil pass0 (pa_cons (pv 0) pa_nil)))) (pw_or1 (pt_not (pt_chain op_le op_le pe_int (pe_callB call_len_seq rfl T.len PySem.boot_len (pa_cons (pv 0) pa_nil)) (pe_glob (v := .int 6) (by rfl) hF ⟨_, rfl⟩))))))
      (pss_one (ps_ret pe_bl)) pss_nil)
    (pss_cons (ps_for PassesOwn.never rfl (pi_row (pv 0)) (pg_name (i := 1) scAreFields.nd rfl (.inl rfl))
      (pss_one (ps_if (PW.pt (pw_or (pt_not (pt_val (pe_call GP (hr.mono (by decide)) rfl mP kP bP .nil pass0 (pa_cons (pv 1) pa_nil)))) (pw_or1 (pt_not (pt_val (pe_call GV hr rfl mV kV bV .nil pass0 (pa_cons (pe_ix (ix_both K rfl) (pv 1) pe_int (fun _ _ => rfl)) pa_nil)))))))
        (pss_one (ps_ret pe_bl)) pss_nil)))
    (pss_one (ps_ret (pe_call GU (hr.mono (by decide)) rfl mU kU bU .nil pass0 (pa_cons (pe_lc (own := [("field", 1)]) (g := gName 1) (tt := tYes) (by rfl) scAreFields.nd (pi_row (pv 0)) (blkOk_by (N := ["fields", "field"]) (sc := defScope sAreFields) (by decide +kernel))
      (fun _ _ _ _ _ => pg_name (i := 1) scAreFields.nd rfl (.inl rfl)) (fun _ _ _ _ _ => pts_nil) (fun _ _ _ _ _ => pe_ix (ix_both K rfl) (pv 1) pe_int (fun _ _ => rfl))) pa_nil))))), ?_⟩
  refine ⟨_, rfl, v, d, rfl, hd, fun H1 s1 => ⟨_, rfl, ?_⟩⟩
  cases e : rowOf d with
  | none =>
    rw [isRow_no e]
    refine iteT (iteT (q_is ?_ (k H1 s1)))
    unfold areFields
    rw [e]
  | some fs =>
    rw [isRow_of e]
    obtain ⟨p, ys, rfl, hq, ha⟩ := row_len (dp_same s1 hd) e
    have hlen := dps_len ha
    have eq0 : areFields d = (decide (1 ≤ fs.length) && (decide (fs.length ≤ 6) && (fs.all fieldOk && unlike (fs.map firstOf)))) := by
      unfold areFields
      rw [e]
    refine iteF ⟨_, rfl, p, ys, rfl, hq, _, _, rfl, rfl, _, rfl, ?_⟩
    by_cases h1 : 1 ≤ fs.length
    · rw [decide_eq_true h1, Bool.true_and] at eq0
      refine iteDT (by omega) ⟨_, _, rfl, rfl, _, rfl, ?_⟩
      by_cases h5 : fs.length ≤ 6
      · rw [decide_eq_true h5, Bool.true_and] at eq0
        rw [decide_eq_true (by omega : (ys.length : Int) ≤ 6)]
        refine iteF ?_
        show tFor (iRow K (tVar 0)) (gName 1) _ _ _ _
        refine for_row (ys := ys) (H0 := H1) (fun i σ H' => ∃ f1 : Option V, σ = [some (.ref p), f1] ∧ Same H1 H' ∧ fs.all fieldOk = (fs.drop i).all fieldOk) (fun Q' z => ⟨_, rfl, z⟩) hq ⟨none, rfl, Same.refl H1, rfl⟩ ?_ ?_ ?_
        · rintro i σ H' ⟨_, _, z, _⟩
          exact z
        · rintro i x σ H2 hi ⟨f1, rfl, s2, h6⟩ hx
          obtain ⟨f, hf1, hdf⟩ := dps_get ha hx
          have hfm : f ∈ fs := List.mem_of_getElem? hf1
          have hdrop : fs.drop i = f :: fs.drop (i + 1) := by
            obtain ⟨hi2, e2⟩ := List.getElem?_eq_some_iff.mp hf1
            rw [List.drop_eq_getElem_cons hi2, e2]
          rw [hdrop, List.all_cons] at h6
          have no : ∀ H3, Same H1 H3 → fieldOk f = false → Q (.bl false) H3 := fun H3 s3 z => q_is (by rw [eq0, h6, z] <;> rfl) (k _ (s1.trans s3))
          refine ⟨_, rfl, x, f, rfl, dp_same s2 hdf, fun H3 s3 => ⟨_, rfl, ?_⟩⟩
          have s13 : Same H1 H3 := s2.trans s3
          cases ep : pairOf f with
          | none =>
            have : isPair f = false := by
              cases z : isPair f with
              | false => rfl
              | true =>
                obtain ⟨a, b, z2, _⟩ := pair_yes z
                rw [ep] at z2
                cases z2
            rw [this]
            exact iteT (iteT (no _ s13 (by unfold fieldOk; rw [ep])))
          | some ab =>
            obtain ⟨a, b⟩ := ab
            rw [pair_isPair ep]
            obtain ⟨r, va, vb, rfl, hr2, hva, hvb⟩ := pair_at (dp_same s13 hdf) ep
            have eok : fieldOk f = areValues b := by
              unfold fieldOk
              rw [ep]
            refine iteF ⟨_, rfl, ix_row hr2 rfl ⟨vb, b, rfl, hvb, (hs fs e f hfm a b ep).2, fun H4 s4 => ⟨_, rfl, ?_⟩⟩⟩
            have s14 : Same H1 H4 := s13.trans s4
            rw [← eok]
            cases ev : fieldOk f with
            | false => exact iteT (no _ s14 ev)
            | true =>
              refine iteF ⟨_, rfl, s14, ?_⟩
              rw [h6, ev, Bool.true_and]
        · rintro σ H' ⟨f1, rfl, s2, h6⟩
          rw [List.drop_eq_nil_of_le (by omega)] at h6
          have hall : fs.all fieldOk = true := h6
          rw [hall, Bool.true_and] at eq0
          have s02 : Same H H' := s1.trans s2
          show tLc (iRow K (tVar 0)) (gName 1) tYes (tOp (rBoth K) (tVar 1) (tC (.int 0))) [1] [some (.ref p), f1] H' (fun x H2 => spUnlike K ([x] ++ []) H2 Q E0)
          -- the first parts
          have pick1 : ∀ {i : Nat} {x : V} {f : PyData} {H3 : Hp}, Same H1 H3 → ys[i]? = some x → fs[i]? = some f → ∃ (r : Addr) (va vb : V), x = .ref r ∧ (SqL K H3 r [va, vb] ∨ SqT K H3 r [va, vb]) ∧ Dp K H3 va (firstOf f) := fun {i x f H3} s3 hx hf1 => by
            obtain ⟨f', hf2, hdf⟩ := dps_get ha hx
            rw [hf1] at hf2
            cases hf2
            have hfm : f ∈ fs := List.mem_of_getElem? hf1
            have hok := List.all_eq_true.mp hall f hfm
            cases ep : pairOf f with
            | none =>
              unfold fieldOk at hok
              rw [ep] at hok
              cases hok
            | some ab =>
              obtain ⟨a, b⟩ := ab
              obtain ⟨r, va, vb, h1, h2, h3, _⟩ := pair_at (dp_same s3 hdf) ep
              have ef : firstOf f = a := by
                unfold firstOf
                rw [ep]
              rw [ef]
              exact ⟨r, va, vb, h1, h2, h3⟩
          refine lc_row (ys := ys) (fun D i H3 => ∃ vs : List V, H3 D = some (.lst vs) ∧ DpAll K H1 vs ((fs.take i).map firstOf) ∧ Same H' H3) (fun Q' z => ⟨_, rfl, z⟩) (sq_same s2 hq) (fun D hD => ⟨[], upd_same, .nil, new_same hD _⟩) (fun D i H3 _ hP => hP.elim fun _ z => z.2.2) (fun D i x H3 hD hi hP hx => ?_) (fun D H3 hD hP => ?_)
          · obtain ⟨vs, g1, g2, g3⟩ := hP
            obtain ⟨f, hf1, _⟩ := dps_get ha hx
            obtain ⟨r, va, vb, rfl, h2', h3'⟩ := pick1 (Same.refl H1) hx hf1
            refine ⟨rfl, ?_⟩
            unfold tYes
            refine iteT ⟨_, rfl, ix_row (sq_same (s2.trans g3) h2') rfl ⟨vs, g1, small1000 ?_, vs ++ [va], upd_same, ?_, fun b o z => ?_⟩⟩
            · rw [dps_len g2, List.length_map, List.length_take]
              omega
            · rw [take_one hf1, List.map_append]
              exact dps_snoc g2 h3'
            · rw [upd_ne (ne_of_none z hD)]
              exact g3 _ _ z
          · obtain ⟨vs, g1, g2, g3⟩ := hP
            rw [List.take_of_length_le (by omega)] at g2
            refine ⟨D, vs, fs.map firstOf, rfl, .inl (SqL.of g1), dps_same (s2.trans g3) g2, ?_, by rw [List.length_map]; omega, fun H4 s4 => q_is eq0.symm (k _ ((s02.trans g3).trans s4))⟩
            intro a hm
            obtain ⟨f, hfm, rfl⟩ := List.mem_map.mp hm
            cases ep : pairOf f with
            | none =>
              have : firstOf f = .none := by
                unfold firstOf
                rw [ep]
              rw [this]
              exact True.intro
            | some ab =>
              obtain ⟨a, b⟩ := ab
              have ef : firstOf f = a := by
                unfold firstOf
                rw [ep]
              rw [ef]
              exact (hs fs e f hfm a b ep).1
      · rw [decide_eq_false h5, Bool.false_and] at eq0
        rw [decide_eq_false (by omega : ¬ (ys.length : Int) ≤ 6)]
        exact iteT (q_is eq0.symm (k H1 s1))
    · rw [decide_eq_false h1, Bool.false_and] at eq0
      exact iteDF (by omega) ⟨_, rfl, iteT (q_is eq0.symm (k H1 s1))⟩
end
end Q
set_option Elab.async false
set_option linter.all false
set_option maxRecDepth 100000
set_option maxHeartbeats 4000000
/-! ### _are_rules, _ways_to_fill -/
namespace Q
open PySem L2 XD
def ruleOk (t : List (Str × List Str)) (d : PyData) : Bool := match rowOf d with
  | some fs => areFacts t d && (decide (1 ≤ fs.length) && decide (fs.length ≤ 4))
  | none => false
def areRules (t : List (Str × List Str)) (d : PyData) : Bool := match rowOf d with
  | some rs => decide (rs.length ≤ 20) && rs.all (ruleOk t)
  | none => false
def ROk (d : PyData) : Prop := ∀ rs, rowOf d = some rs → ∀ r ∈ rs, FOk r
theorem TabAt.same {K : PySem.W.Frag} {H H' : Hp} {p : Addr} {t : List (Str × List Str)} (s : Same H H') (h : TabAt K H p t) : TabAt K H' p t := by
  obtain ⟨ps, kvs, a, b, c⟩ := h
  exact ⟨ps, kvs, a.same s, b.same s, c⟩
theorem facts_row {t : List (Str × List Str)} {d : PyData} (h : areFacts t d = true) : ∃ fs, rowOf d = some fs := by
  unfold areFacts at h
  cases e : rowOf d with
  | some fs => exact ⟨fs, rfl⟩
  | none =>
    rw [e] at h
    cases h
theorem ruleOk_no {t : List (Str × List Str)} {d : PyData} (h : areFacts t d = false) : ruleOk t d = false := by
  unfold ruleOk
  cases e : rowOf d with
  | none => rfl
  | some fs =>
    show (areFacts t d && _) = false
    rw [h, Bool.false_and]
theorem ruleOk_yes {t : List (Str × List Str)} {d : PyData} {fs : List PyData} (e : rowOf d = some fs) (h : areFacts t d = true) : ruleOk t d = (decide (1 ≤ fs.length) && decide (fs.length ≤ 4)) := by
  unfold ruleOk
  rw [e]
  show (areFacts t d && _) = _
  rw [h, Bool.true_and]
def spAreRules (K : PySem.W.Frag) : Sp := fun vs H Q _ => ∃ (p : Addr) (t : List (Str × List Str)) (v : V) (d : PyData), vs = [.ref p, v] ∧ TabAt K H p t ∧ Dp K H v d ∧ ROk d ∧ ∀ H', Same H H' → Q (.bl (areRules t d)) H'
section
variable {P : Program} {w : World} {K : PySem.W.Frag} {mg : Str → Option Value} {base : Heap}
theorem scAreRules : FnScope ["fields", "rules", "rule"] ["fields", "rules"] (defScope sAreRules) := ⟨rfl, rfl, rfl, by decide +kernel, rfl, by decide +kernel, by decide +kernel⟩
theorem ok_arerules {f : Addr} {fd : FuncData} (F : Fun K "_are_rules" "_are_rules" sAreRules f fd) (T : Bb mg) (C : Fm mg) (KR : Kn P w K mg base 1 "is_row" ["thing"] (spIsRow K)) (KF : Kn P w K mg base 3 "are_facts" ["fields", "facts"] (spAreFacts K)) :
    FnOk P w K mg base CX0 4 f fd ["fields", "rules"] (spAreRules K) := by
  obtain ⟨fR, fdR, GR, kR, bR, mR⟩ := KR.ex
  obtain ⟨fF, fdF, GF, kF, bF, mF⟩ := KF.ex
  obtain ⟨tR, hR⟩ := C.mr
  obtain ⟨tP, hP⟩ := C.mp
  refine F.ok scAreRules (fun vs H Q E h => ?_) (fun cdv A outer s H vs Q E hr h => ?_)
  · obtain ⟨p, t, v, d, rfl, _⟩ := h
    rfl
  obtain ⟨p, t, v, d, rfl, ht, hd, hs, k⟩ := h
  refine ⟨_, pss_cons (ps_if (PW.pt (pw_or (pt_not (pt_val (pe_call GR (hr.mono (by decide)) rfl mR kR bR .nil pass0 (pa_cons (pv 1) pa_nil)))) (pw_or1 (pt_cmpR op_gt (pe_callB call_len_seq rfl T.len PySem.boot_len (pa_cons (pv 1) pa_nil)) (pe_glob (v := .int 20) (by rfl) hR ⟨_, rfl⟩) (nomark _)))))
      (pss_one (ps_ret pe_bl)) pss_nil)
    (pss_cons (ps_for PassesOwn.never rfl (pi_row (pv 1)) (pg_name (i := 2) scAreRules.nd rfl (.inl rfl))
      (pss_one (ps_if (PW.pt (pw_or (pt_not (pt_val (pe_call GF hr rfl mF kF bF .nil pass0 (pa_cons (pv 0) (pa_cons (pv 2) pa_nil))))) (pw_or1 (pt_not (pt_chain op_le op_le pe_int (pe_callB call_len_seq rfl T.len PySem.boot_len (pa_cons (pv 2) pa_nil)) (pe_glob (v := .int 4) (by rfl) hP ⟨_, rfl⟩))))))
        (pss_one (ps_ret pe_bl)) pss_nil)))
    (pss_one (ps_ret pe_bl))), ?_⟩
  refine ⟨_, rfl, v, d, rfl, hd, fun H1 s1 => ⟨_, rfl, ?_⟩⟩
  cases e : rowOf d with
  | none =>
    rw [isRow_no e]
    refine iteT (iteT (q_is ?_ (k H1 s1)))
    unfold areRules
    rw [e]
  | some fs =>
    rw [isRow_of e]
    obtain ⟨q, ys, rfl, hq, ha⟩ := row_len (dp_same s1 hd) e
    have hlen := dps_len ha
    have eq0 : areRules t d = (decide (fs.length ≤ 20) && fs.all (ruleOk t)) := by
      unfold areRules
      rw [e]
    refine iteF ⟨_, rfl, q, ys, rfl, hq, _, _, rfl, rfl, _, rfl, ?_⟩
    by_cases h1 : fs.length ≤ 20
    · rw [decide_eq_true h1, Bool.true_and] at eq0
      refine iteDF (by omega) ?_
      show tFor (iRow K (tVar 1)) (gName 2) _ _ _ _
      refine for_row (ys := ys) (H0 := H1) (fun i σ H' => ∃ f1 : Option V, σ = [some (.ref p), some (.ref q), f1] ∧ Same H1 H' ∧ fs.all (ruleOk t) = (fs.drop i).all (ruleOk t)) (fun Q' z => ⟨_, rfl, z⟩) hq ⟨none, rfl, Same.refl H1, rfl⟩ ?_ ?_ ?_
      · rintro i σ H' ⟨_, _, z, _⟩
        exact z
      · rintro i x σ H2 hi ⟨f1, rfl, s2, h6⟩ hx
        obtain ⟨f, hf1, hdf⟩ := dps_get ha hx
        have hfm : f ∈ fs := List.mem_of_getElem? hf1
        have hdrop : fs.drop i = f :: fs.drop (i + 1) := by
          obtain ⟨hi2, e2⟩ := List.getElem?_eq_some_iff.mp hf1
          rw [List.drop_eq_getElem_cons hi2, e2]
        rw [hdrop, List.all_cons] at h6
        have no : ∀ H3, Same H1 H3 → ruleOk t f = false → Q (.bl false) H3 := fun H3 s3 z => q_is (by rw [eq0, h6, z] <;> rfl) (k _ (s1.trans s3))
        refine ⟨_, rfl, _, rfl, p, t, x, f, rfl, TabAt.same (s1.trans s2) ht, dp_same s2 hdf, hs fs e f hfm, fun H3 s3 => ⟨_, rfl, ?_⟩⟩
        have s13 : Same H1 H3 := s2.trans s3
        cases ef : areFacts t f with
        | false => exact iteT (iteT (no _ s13 (ruleOk_no ef)))
        | true =>
          obtain ⟨gs, eg⟩ := facts_row ef
          obtain ⟨r, zs, rfl, hr2, hzs⟩ := row_len (dp_same s13 hdf) eg
          have hzl := dps_len hzs
          have eok := ruleOk_yes eg ef
          refine iteF ⟨_, rfl, r, zs, rfl, hr2, _, _, rfl, rfl, _, rfl, ?_⟩
          by_cases g1 : 1 ≤ gs.length
          · rw [decide_eq_true g1, Bool.true_and] at eok
            refine iteDT (by omega) ⟨_, _, rfl, rfl, _, rfl, ?_⟩
            by_cases g4 : gs.length ≤ 4
            · rw [decide_eq_true g4] at eok
              rw [decide_eq_true (by omega : (zs.length : Int) ≤ 4)]
              refine iteF ⟨_, rfl, s13, ?_⟩
              rw [h6, eok, Bool.true_and]
            · rw [decide_eq_false g4] at eok
              rw [decide_eq_false (by omega : ¬ (zs.length : Int) ≤ 4)]
              exact iteT (no _ s13 eok)
          · rw [decide_eq_false g1, Bool.false_and] at eok
            exact iteDF (by omega) ⟨_, rfl, iteT (no _ s13 eok)⟩
      · rintro σ H' ⟨f1, rfl, s2, h6⟩
        rw [List.drop_eq_nil_of_le (by omega)] at h6
        exact q_is (eq0.trans h6).symm (k _ (s1.trans s2))
    · rw [decide_eq_false h1, Bool.false_and] at eq0
      exact iteDT (by omega) (q_is eq0.symm (k H1 s1))
end
end Q
set_option Elab.async false
set_option linter.all false
set_option maxRecDepth 100000
set_option maxHeartbeats 4000000
/-! ### _ways_to_fill, _each_once -/
namespace Q
open PySem L2 XD
/-- so many ways -/
def waysFrom (a : Nat) (t : List (Str × List Str)) : Nat := t.foldl (fun a e => a * e.2.length) a
def spWays (K : PySem.W.Frag) : Sp := fun vs H Q _ => ∃ (p : Addr) (t : List (Str × List Str)), vs = [.ref p] ∧ TabAt K H p t ∧ t.length ≤ 6 ∧ (∀ e ∈ t, e.2.length ≤ 5) ∧ ∀ H', Same H H' → Q (.int (waysFrom 1 t : Nat)) H'
theorem ways_next {t : List (Str × List Str)} {i : Nat} {e : Str × List Str} (h : t[i]? = some e) : waysFrom 1 (t.take (i + 1)) = waysFrom 1 (t.take i) * e.2.length := by
  unfold waysFrom
  rw [take_one h, List.foldl_append]
  rfl
theorem ways_small {t : List (Str × List Str)} (hs : ∀ e ∈ t, e.2.length ≤ 5) : ∀ a, waysFrom a t ≤ a * 5 ^ t.length := by
  induction t with
  | nil =>
    intro a
    show a ≤ a * 1
    omega
  | cons e t ih =>
    intro a
    show waysFrom (a * e.2.length) t ≤ a * 5 ^ (t.length + 1)
    refine Nat.le_trans (ih (fun e' h => hs e' (List.mem_cons_of_mem _ h)) _) ?_
    rw [Nat.pow_succ, Nat.mul_assoc]
    refine Nat.mul_le_mul_left a ?_
    rw [Nat.mul_comm]
    exact Nat.mul_le_mul_left _ (hs e List.mem_cons_self)
/-- a rule as data -/
def ruleD (r : List (Str × Str)) : PyData := .tuple (r.map fun e => .tuple [.str e.1, .str e.2])
theorem eqvAll_pairs : ∀ a b : List (Str × Str), PyData.eqvAll (a.map fun e => .tuple [.str e.1, .str e.2]) (b.map fun e => .tuple [.str e.1, .str e.2]) = decide (a = b)
  | [], [] => by simp [PyData.eqvAll]
  | [], _ :: _ => by simp [PyData.eqvAll]
  | _ :: _, [] => by simp [PyData.eqvAll]
  | (n, w) :: a, (m, v) :: b => by
    rw [List.map_cons, List.map_cons, PyData.eqvAll, eqvAll_pairs a b, PyData.eqv, PyData.eqvAll, PyData.eqvAll, PyData.eqvAll, PyData.eqv, PyData.eqv]
    by_cases h1 : n = m
    · by_cases h2 : w = v
      · by_cases h3 : a = b
        · simp [h1, h2, h3]
        · simp [h1, h2, h3]
      · simp [h1, h2]
    · simp [h1]
theorem eqv_rule (a b : List (Str × Str)) : PyData.eqv (ruleD a) (ruleD b) = decide (a = b) := by
  unfold ruleD
  rw [PyData.eqv]
  exact eqvAll_pairs a b
def RStr (r : List (Str × Str)) : Prop := ∀ e ∈ r, PyData.strOk e.1 = true ∧ PyData.strOk e.2 = true
theorem rule_lay : ∀ r : List (Str × Str), RStr r → PyData.canLayAll0 (r.map fun e => .tuple [.str e.1, .str e.2]) = true
  | [], _ => by simp [PyData.canLayAll0]
  | e :: r, h => by
    have h1 := h e List.mem_cons_self
    have h2 := rule_lay r fun x hx => h x (List.mem_cons_of_mem _ hx)
    rw [List.map_cons, PyData.canLayAll0, h2, Bool.and_true]
    simp [PyData.canLay0, PyData.canLayAll0, h1.1, h1.2]
theorem rule_depth : ∀ r : List (Str × Str), PyData.depthAll (r.map fun e => .tuple [.str e.1, .str e.2]) ≤ 2
  | [] => by simp [PyData.depthAll]
  | e :: r => by
    have := rule_depth r
    rw [List.map_cons, PyData.depthAll]
    simp [PyData.depth, PyData.depthAll] at this ⊢
    omega
theorem rule_shaped {r : List (Str × Str)} (h : RStr r) : SeqAt.shaped (ruleD r) = true := by
  unfold SeqAt.shaped ruleD
  have h1 := rule_lay r h
  have h2 := rule_depth r
  rw [PyData.canLay0, h1, Bool.true_and]
  refine decide_eq_true ?_
  rw [PyData.depth]
  omega
theorem rules_lay : ∀ rs : List (List (Str × Str)), (∀ r ∈ rs, RStr r) → PyData.canLayAll0 (rs.map ruleD) = true
  | [], _ => by simp [PyData.canLayAll0]
  | r :: rs, h => by
    rw [List.map_cons, PyData.canLayAll0, rules_lay rs fun x hx => h x (List.mem_cons_of_mem _ hx), Bool.and_true]
    exact SeqAt.canLay_of_shaped (rule_shaped (h r List.mem_cons_self))
theorem rules_depth : ∀ rs : List (List (Str × Str)), PyData.depthAll (rs.map ruleD) ≤ 3
  | [] => by simp [PyData.depthAll]
  | r :: rs => by
    have h1 := rules_depth rs
    have h2 := rule_depth r
    rw [List.map_cons, PyData.depthAll]
    have h3 : (ruleD r).depth ≤ 3 := by
      unfold ruleD
      rw [PyData.depth]
      omega
    omega
theorem rules_shaped {rs : List (List (Str × Str))} (h : ∀ r ∈ rs, RStr r) : SeqAt.shaped (.list (rs.map ruleD)) = true := by
  unfold SeqAt.shaped
  have h1 := rules_lay rs h
  have h2 := rules_depth rs
  rw [PyData.canLay0, h1, Bool.true_and]
  refine decide_eq_true ?_
  rw [PyData.depth]
  omega
theorem prd_dps {K : PySem.W.Frag} {H : Hp} : ∀ {qs : List Addr} {r : List (Str × Str)}, Paired (fun q (e : Str × Str) => SqT K H q [.str e.1, .str e.2]) qs r → DpAll K H (qs.map V.ref) (r.map fun e => .tuple [.str e.1, .str e.2])
  | _, _, .nil => .nil
  | _, _, .cons a b => .cons (.tup a (.cons (.str _) (.cons (.str _) .nil))) (prd_dps b)
theorem RuleAt.dp {K : PySem.W.Frag} {H : Hp} {p : Addr} {r : List (Str × Str)} (h : RuleAt K H p r) : Dp K H (.ref p) (ruleD r) := by
  obtain ⟨qs, h1, h2⟩ := h
  exact .tup h1.sqT (prd_dps h2)
theorem RuleAt.same {K : PySem.W.Frag} {H H' : Hp} {p : Addr} {r : List (Str × Str)} (s : Same H H') (h : RuleAt K H p r) : RuleAt K H' p r := by
  obtain ⟨qs, h1, h2⟩ := h
  exact ⟨qs, h1.same s, prd_same s h2⟩
theorem rules_dps {K : PySem.W.Frag} {H : Hp} : ∀ {ps : List Addr} {rs : List (List (Str × Str))}, Paired (RuleAt K H) ps rs → DpAll K H (ps.map V.ref) (rs.map ruleD)
  | _, _, .nil => .nil
  | _, _, .cons a b => .cons a.dp (rules_dps b)
theorem rules_same {K : PySem.W.Frag} {H H' : Hp} (s : Same H H') : ∀ {ps : List Addr} {rs : List (List (Str × Str))}, Paired (RuleAt K H) ps rs → Paired (RuleAt K H') ps rs
  | _, _, .nil => .nil
  | _, _, .cons a b => .cons (a.same s) (rules_same s b)
theorem prd_at {α β : Type} {R : α → β → Prop} : ∀ {xs : List α} {ys : List β} {i : Nat} {x : α}, Paired R xs ys → xs[i]? = some x → ∃ y, ys[i]? = some y ∧ R x y
  | _, _, _, _, .nil, e => by simp at e
  | _, _, 0, _, .cons a b, e => by
    simp at e
    subst e
    exact ⟨_, rfl, a⟩
  | _, _, i + 1, x, .cons a b, e => by
    obtain ⟨y, h1, h2⟩ := prd_at (i := i) (x := x) b (by simpa using e)
    exact ⟨y, by simpa using h1, h2⟩
/-- each once, at its first place -/
def once (rs : List (List (Str × Str))) : List (List (Str × Str)) := rs.foldl (fun acc r => if r ∈ acc then acc else acc ++ [r]) []
theorem once_next {rs : List (List (Str × Str))} {i : Nat} {r : List (Str × Str)} (h : rs[i]? = some r) : once (rs.take (i + 1)) = if r ∈ once (rs.take i) then once (rs.take i) else once (rs.take i) ++ [r] := by
  unfold once
  rw [take_one h, List.foldl_append]
  rfl
def RulesAt (K : PySem.W.Frag) (H : Hp) (p : Addr) (rs : List (List (Str × Str))) : Prop := ∃ ps : List Addr, SqZ H p (ps.map V.ref) ∧ Paired (RuleAt K H) ps rs
def spEach (K : PySem.W.Frag) : Sp := fun vs H Q _ => ∃ (q : Addr) (ps : List Addr) (rs : List (List (Str × Str))), vs = [.ref q] ∧ SqL K H q (ps.map V.ref) ∧ Paired (RuleAt K H) ps rs ∧ (∀ r ∈ rs, RStr r) ∧ rs.length ≤ 1000 ∧ ∀ z H', Same H H' → RulesAt K H' z (once rs) → Q (.ref z) H'
section
variable {P : Program} {w : World} {K : PySem.W.Frag} {mg : Str → Option Value} {base : Heap}
theorem scWays : FnScope ["fields", "ways", "_", "values"] ["fields"] (defScope sWays) := ⟨rfl, rfl, rfl, by decide +kernel, rfl, by decide +kernel, by decide +kernel⟩
theorem ok_ways {f : Addr} {fd : FuncData} (F : Fun K "_ways_to_fill" "_ways_to_fill" sWays f fd) (T : Bb mg) : FnOk P w K mg base CX0 1 f fd ["fields"] (spWays K) := by
  refine F.ok scWays (fun vs H Q E h => ?_) (fun cdv A outer s H vs Q E hr h => ?_)
  · obtain ⟨p, t, rfl, _⟩ := h
    rfl
  obtain ⟨p, t, rfl, ⟨ps, kvs, hz, hT, hn, hm⟩, hl, hs, k⟩ := h
  refine ⟨_, pss_cons (ps_set (i := 1) scWays.nd rfl (.inl rfl) pe_int)
    (pss_cons (ps_for PassesOwn.never rfl (pi_row (pv 0)) (pg_tup rfl (pgs_cons (pg_name (i := 2) scWays.nd rfl (.inl rfl)) (pgs_cons (pg_name (i := 3) scWays.nd rfl (.inl rfl)) pgs_nil)))
      (pss_one (ps_set (i := 1) scWays.nd rfl (.inl rfl) (pe_mul (pv 1) (pe_callB call_len_seq rfl T.len PySem.boot_len (pa_cons (pv 3) pa_nil))))))
    (pss_one (ps_ret (pv 1)))), ?_⟩
  have hlen : (ps.map V.ref).length = t.length := by rw [List.length_map, hT.len.1]
  show tFor (iRow K (tVar 0)) _ _ _ [some (.ref p), some (.int 1), none, none] _
  refine for_row (ys := ps.map V.ref) (H0 := H) (fun i σ H' => ∃ f2 f3 : Option V, σ = [some (.ref p), some (.int (waysFrom 1 (t.take i) : Nat)), f2, f3] ∧ H' = H) (fun Q' z => ⟨_, rfl, z⟩) (.inr hz.sqT) ⟨none, none, rfl, rfl⟩ ?_ ?_ ?_
  · rintro i σ H' ⟨_, _, _, rfl⟩
    exact Same.refl _
  · rintro i x σ H' hi ⟨f2, f3, rfl, rfl⟩ hx
    obtain ⟨q1, v1, n, ws, rfl, e1, e2, e3⟩ := hT.at hx
    have b1 : waysFrom 1 (t.take i) ≤ 15625 := by
      refine Nat.le_trans (ways_small (fun e he => hs e (List.mem_of_mem_take he)) 1) ?_
      rw [Nat.one_mul]
      have : (t.take i).length ≤ 6 := by
        rw [List.length_take]
        omega
      exact Nat.le_trans (Nat.pow_le_pow_right (by decide) this) (by decide)
    refine ⟨q1, _, rfl, e2, rfl, .str n, _, rfl, .ref v1, [], rfl, rfl, _, rfl, _, rfl, v1, _, rfl, .inr e3, _, _, rfl, rfl, ?_, ?_⟩
    · constructor
      · have : -(2 ^ 64 : Int) < 0 := by decide
        omega
      · have : (15625 : Int) < 2 ^ 64 := by decide
        omega
    · refine ⟨some (.str n), some (.ref v1), ?_, rfl⟩
      rw [ways_next e1, List.length_map]
      show [_, some (V.int _), _, _] = _
      rw [Int.natCast_mul]
  · rintro σ H' ⟨f2, f3, rfl, rfl⟩
    rw [List.take_of_length_le (by omega)]
    exact ⟨_, rfl, k _ (Same.refl _)⟩
theorem scEach : FnScope ["rules", "kept", "rule"] ["rules"] (defScope sEach) := ⟨rfl, rfl, rfl, by decide +kernel, rfl, by decide +kernel, by decide +kernel⟩
theorem ok_each {f : Addr} {fd : FuncData} (F : Fun K "_each_once" "_each_once" sEach f fd) (T : Bb mg) : FnOk P w K mg base CX0 1 f fd ["rules"] (spEach K) := by
  refine F.ok scEach (fun vs H Q E h => ?_) (fun cdv A outer s H vs Q E hr h => ?_)
  · obtain ⟨q, ps, rs, rfl, _⟩ := h
    rfl
  obtain ⟨q, ps, rs, rfl, hq, hp, hs, hm, k⟩ := h
  have vt_ : PySem.bootBuiltins "tuple" = some (.type "tuple") := by decide +kernel
  have hu2 : (A.deeper (PyProof.Rows.envOfC "_each_once" (defScope sEach) s.heap.objs.size f cdv)).units + 65 < cLine := by
    have := hr.un
    omega
  refine ⟨_, pss_cons (ps_set (i := 1) scEach.nd rfl (.inl rfl) (pe_lst pa_nil))
    (pss_cons (ps_for PassesOwn.never rfl (pi_row (pv 0)) (pg_name (i := 2) scEach.nd rfl (.inl rfl))
      (pss_one (ps_if (pt_cmpR (op_notInD hu2) (pv 2) (pv 1) (by with_unfolding_all rfl))
        (pss_one (ps_expr (pe_bm PySem.F.plainAttrs_list PySem.F.slot_list_append PySem.F.type_list_append mt_append (pv 1) (pa_cons (pv 2) pa_nil)))) pss_nil)))
    (pss_one (ps_ret (pe_callTy call_tupZ rfl T.tup vt_ (pa_cons (pv 1) pa_nil))))), ?_⟩
  refine ⟨by show 0 ≤ sizeLine; decide, fun B hB => ?_⟩
  have hlen : (ps.map V.ref).length = rs.length := by rw [List.length_map, prd_len hp]
  have s1 : Same H (upd H B (.lst [])) := new_same hB _
  show tFor (iRow K (tVar 0)) _ _ _ [some (.ref q), some (.ref B), none] _
  refine for_row (ys := ps.map V.ref) (H0 := H) (fun i σ H' => ∃ (f2 : Option V) (ks : List Addr), σ = [some (.ref q), some (.ref B), f2] ∧ H' B = some (.lst (ks.map V.ref)) ∧ Paired (RuleAt K H) ks (once (rs.take i)) ∧ (∀ r ∈ once (rs.take i), r ∈ rs) ∧ ks.length ≤ i ∧ Same H H') (fun Q' z => ⟨_, rfl, z⟩) (.inl hq)
    ⟨none, [], rfl, upd_same, .nil, (fun (r : List (Str × Str)) (h : r ∈ ([] : List (List (Str × Str)))) => absurd h List.not_mem_nil), Nat.le_refl _, s1⟩ ?_ ?_ ?_
  · rintro i σ H' ⟨_, _, _, _, _, _, _, z⟩
    exact z
  · rintro i x σ H' hi ⟨f2, ks, rfl, g1, g2, g3, g4, g5⟩ hx
    obtain ⟨pr, e0, rfl⟩ : ∃ pr, ps[i]? = some pr ∧ x = .ref pr := by
      rw [List.getElem?_map] at hx
      cases e : ps[i]? with
      | none =>
        rw [e] at hx
        cases hx
      | some pr =>
        rw [e] at hx
        cases hx
        exact ⟨pr, rfl, rfl⟩
    obtain ⟨r, e1, hr1⟩ := prd_at hp e0
    have hrm : r ∈ rs := List.mem_of_getElem? e1
    have hnx := once_next e1
    have hany : ((once (rs.take i)).map ruleD).any (fun z => PyData.eqv z (ruleD r)) = decide (r ∈ once (rs.take i)) := by
      rw [List.any_map]
      refine (List.any_eq (p := _)).trans (decide_eq_decide.mpr ⟨fun ⟨y, h1, h2⟩ => ?_, fun h1 => ⟨r, h1, ?_⟩⟩)
      · have h3 : PyData.eqv (ruleD y) (ruleD r) = true := h2
        rw [eqv_rule] at h3
        exact (of_decide_eq_true h3) ▸ h1
      · show PyData.eqv (ruleD r) (ruleD r) = true
        rw [eqv_rule]
        exact decide_eq_true rfl
    refine ⟨_, rfl, _, rfl, ruleD r, (once (rs.take i)).map ruleD, (hr1.same g5).dp, .lst (SqL.of g1) (rules_dps (rules_same g5 g2)), rule_shaped (hs r hrm), rules_shaped (fun r' h => hs r' (g3 r' h)), _, rfl, ?_⟩
    rw [hany]
    by_cases hin : r ∈ once (rs.take i)
    · rw [if_pos hin] at hnx
      rw [decide_eq_true hin]
      refine iteF ⟨_, ks, rfl, g1, by rw [hnx]; exact g2, by rw [hnx]; exact g3, by omega, g5⟩
    · rw [if_neg hin] at hnx
      rw [decide_eq_false hin]
      refine iteT ⟨_, rfl, .inl ⟨rfl, _, SqL.of g1⟩, _, rfl, B, _, _, rfl, rfl, g1, small1000 (by rw [List.length_map]; omega), ?_⟩
      refine ⟨_, ks ++ [pr], rfl, ?_, ?_, ?_, ?_, fun b o z => ?_⟩
      · rw [upd_same, List.map_append] <;> rfl
      · rw [hnx]
        exact prd_snoc g2 hr1
      · rw [hnx]
        intro r' h'
        rcases List.mem_append.mp h' with h' | h'
        · exact g3 r' h'
        · rw [List.mem_singleton.mp h']
          exact hrm
      · rw [List.length_append, List.length_singleton]
        omega
      · rw [upd_ne (ne_of_none z hB)]
        exact g5 _ _ z
  · rintro σ H' ⟨f2, ks, rfl, g1, g2, g3, g4, g5⟩
    rw [List.take_of_length_le (by omega)] at g2
    refine ⟨_, rfl, B, _, rfl, .inl ⟨SqL.of g1, fun l o hl ho => ?_⟩⟩
    have sl : Same H' (upd H' l (.frz o (.tup (ks.map V.ref)))) := new_same hl _
    exact k l _ (g5.trans sl) ⟨ks, ⟨o, upd_same, ho⟩, rules_same (g5.trans sl) g2⟩
end
end Q
set_option Elab.async false
set_option linter.all false
set_option maxRecDepth 100000
set_option maxHeartbeats 4000000
/-! ### what surely are facts -/
namespace Q
open PySem L2 XD
theorem stands_str {ws : List Str} {d : PyData} (h : stands ws d = true) : ∃ w, d = .str w ∧ w ∈ ws := by
  unfold stands at h
  obtain ⟨z, hz, e⟩ := List.any_eq_true.mp h
  obtain ⟨w, hw, rfl⟩ := List.mem_map.mp hz
  cases d with
  | str x =>
    rw [PyData.eqv] at e
    have : w = x := by simpa using e
    subst this
    exact ⟨w, rfl, hw⟩
  | _ => simp [PyData.eqv] at e
/-- the pair of texts that a fact is -/
def factOf (f : PyData) : Str × Str := match pairOf f with
  | some (.str n, .str w) => (n, w)
  | _ => (Str.empty, Str.empty)
def factsOf (d : PyData) : List (Str × Str) := match rowOf d with
  | some fs => fs.map factOf
  | none => []
theorem go_cons {t : List (Str × List Str)} {seen : List Str} {f : PyData} {fs : List PyData} (h : goFacts t seen (f :: fs) = true) :
    ∃ n w ws, pairOf f = some (.str n, .str w) ∧ look n t = some ws ∧ w ∈ ws ∧ seen.contains n = false ∧ goFacts t (n :: seen) fs = true := by
  cases ep : pairOf f with
  | none =>
    rw [go_none ep] at h
    cases h
  | some ab =>
    obtain ⟨a, b⟩ := ab
    cases es : isStr a with
    | false =>
      rw [go_nostr ep es] at h
      cases h
    | true =>
      obtain ⟨n, rfl⟩ : ∃ n, a = .str n := by
        cases a <;> first | exact ⟨_, rfl⟩ | cases es
      cases el : look n t with
      | none =>
        rw [go_new ep el] at h
        cases h
      | some ws =>
        rw [go_old ep el, Bool.and_eq_true, Bool.and_eq_true] at h
        obtain ⟨h1, h2, h3⟩ := h
        obtain ⟨w, rfl, hw⟩ := stands_str h2
        exact ⟨n, w, ws, rfl, el, hw, by simpa using h1, h3⟩
theorem facts_good {K : PySem.W.Frag} {H : Hp} {t : List (Str × List Str)} : ∀ {ys : List V} {fs : List PyData} {seen : List Str}, DpAll K H ys fs → goFacts t seen fs = true →
    ∃ (ps : List Addr) (kvs : List (Key × V)), ys = ps.map V.ref ∧ FactR K H ps kvs (fs.map factOf) ∧ ((fs.map factOf).map (·.1)).Nodup ∧ (∀ e ∈ fs.map factOf, e.1 ∉ seen) ∧ (∀ e ∈ fs.map factOf, ∃ ws, look e.1 t = some ws ∧ e.2 ∈ ws)
  | _, _, _, .nil, _ => ⟨[], [], rfl, .nil, List.nodup_nil, fun e h => absurd h List.not_mem_nil, fun e h => absurd h List.not_mem_nil⟩
  | _, _, seen, .cons (v := v) (d := f) (ds := fs) h t', g => by
    obtain ⟨n, w, ws, e1, e2, e3, e4, e5⟩ := go_cons g
    obtain ⟨ps, kvs, rfl, i1, i2, i3, i4⟩ := facts_good t' e5
    obtain ⟨r, va, vb, rfl, hr, hva, hvb⟩ := pair_at h e1
    cases hva
    cases hvb
    have ef : factOf f = (n, w) := by
      unfold factOf
      rw [e1]
    have nin : n ∉ seen := fun z => by
      have : seen.contains n = true := by simpa using z
      rw [this] at e4
      cases e4
    refine ⟨r :: ps, (.inr n, .str w) :: kvs, rfl, ?_, ?_, ?_, ?_⟩
    · rw [List.map_cons, ef]
      exact .cons hr.symm i1
    · rw [List.map_cons, List.map_cons, ef, List.nodup_cons]
      refine ⟨fun z => ?_, i2⟩
      obtain ⟨e, he, hn⟩ := List.mem_map.mp z
      exact i3 e he (hn ▸ List.mem_cons_self)
    · rw [List.map_cons, ef]
      intro e he
      rcases List.mem_cons.mp he with rfl | he
      · exact nin
      · exact fun z => i3 e he (List.mem_cons_of_mem _ z)
    · rw [List.map_cons, ef]
      intro e he
      rcases List.mem_cons.mp he with rfl | he
      · exact ⟨ws, e2, e3⟩
      · exact i4 e he
theorem facts_go {t : List (Str × List Str)} {d : PyData} {fs : List PyData} (e : rowOf d = some fs) (h : areFacts t d = true) : fs.length ≤ t.length ∧ goFacts t [] fs = true := by
  unfold areFacts at h
  rw [e] at h
  have h2 : (decide (fs.length ≤ t.length) && goFacts t [] fs) = true := h
  rw [Bool.and_eq_true] at h2
  exact ⟨of_decide_eq_true h2.1, h2.2⟩
/-- fields that are such, as a table -/
def entryOf (f : PyData) : Str × List Str := match pairOf f with
  | some (a, b) => (strOf a, match rowOf b with
    | some ws => textsOf ws
    | none => [])
  | none => (Str.empty, [])
def tabOf (d : PyData) : List (Str × List Str) := match rowOf d with
  | some fs => fs.map entryOf
  | none => []
theorem az_small {c : Nat} (h : az c = true) : c < 0x110000 := by
  unfold az at h
  rw [Bool.and_eq_true] at h
  have h2 : ¬ (("z" : Str).cps.toList < [c]) := by simpa using h.2
  by_cases h3 : c < 0x110000
  · exact h3
  · exfalso
    refine h2 ?_
    show ([122] : List Nat) < [c]
    exact List.cons_lt_cons_iff.mpr (.inl (by omega))
theorem word_ok {s : Str} (h : word s = true) : PyData.strOk s = true := by
  unfold word at h
  rw [Bool.and_eq_true] at h
  unfold PyData.strOk
  rw [← Array.all_toList]
  refine List.all_eq_true.mpr fun c hc => decide_eq_true (az_small (List.all_eq_true.mp h.2 c hc))
theorem entry_first (f : PyData) : (entryOf f).1 = strOf (firstOf f) := by
  unfold entryOf firstOf
  cases pairOf f with
  | none => rfl
  | some ab => rfl
theorem word_str {d : PyData} (h : isWord d = true) : ∃ n, d = .str n ∧ word n = true := by
  cases d with
  | str n => exact ⟨n, rfl, h⟩
  | _ => cases h
theorem field_good {f : PyData} (h : fieldOk f = true) (hw : isWord (firstOf f) = true) : ∃ (n : Str) (b : PyData) (ws : List PyData), pairOf f = some (.str n, b) ∧ rowOf b = some ws ∧ ws.all isWord = true ∧ ws.length ≤ 5 ∧ word n = true ∧ entryOf f = (n, textsOf ws) := by
  cases e : pairOf f with
  | none =>
    unfold fieldOk at h
    rw [e] at h
    cases h
  | some ab =>
    obtain ⟨a, b⟩ := ab
    have h1 : areValues b = true := by
      unfold fieldOk at h
      rw [e] at h
      exact h
    have h2 : firstOf f = a := by
      unfold firstOf
      rw [e]
    rw [h2] at hw
    obtain ⟨n, rfl, hn⟩ := word_str hw
    unfold areValues at h1
    cases er : rowOf b with
    | none =>
      rw [er] at h1
      cases h1
    | some ws =>
      rw [er] at h1
      have h3 : (decide (1 ≤ ws.length) && (decide (ws.length ≤ 5) && unlike ws)) = true := h1
      rw [Bool.and_eq_true, Bool.and_eq_true] at h3
      have h4 := h3.2.2
      unfold unlike at h4
      rw [Bool.and_eq_true] at h4
      refine ⟨n, b, ws, rfl, er, h4.1, of_decide_eq_true h3.2.1, hn, ?_⟩
      unfold entryOf
      rw [e]
      show (n, _) = (n, _)
      rw [er]
theorem fields_good {d : PyData} (h : areFields d = true) : ∃ fs, rowOf d = some fs ∧ fs.length ≤ 6 ∧ tabOf d = fs.map entryOf ∧ ((tabOf d).map (·.1)).Nodup ∧ ∀ f ∈ fs, fieldOk f = true ∧ isWord (firstOf f) = true := by
  unfold areFields at h
  cases e : rowOf d with
  | none =>
    rw [e] at h
    cases h
  | some fs =>
    rw [e] at h
    have h3 : (decide (1 ≤ fs.length) && (decide (fs.length ≤ 6) && (fs.all fieldOk && unlike (fs.map firstOf)))) = true := h
    rw [Bool.and_eq_true, Bool.and_eq_true, Bool.and_eq_true] at h3
    have h4 := h3.2.2.2
    unfold unlike at h4
    rw [Bool.and_eq_true] at h4
    have ht : tabOf d = fs.map entryOf := by
      unfold tabOf
      rw [e]
    refine ⟨fs, rfl, of_decide_eq_true h3.2.1, ht, ?_, fun f hf => ⟨List.all_eq_true.mp h3.2.2.1 f hf, List.all_eq_true.mp h4.1 _ (List.mem_map.mpr ⟨f, hf, rfl⟩)⟩⟩
    have h5 := of_decide_eq_true h4.2
    have : (tabOf d).map (·.1) = textsOf (fs.map firstOf) := by
      rw [ht]
      unfold textsOf
      rw [List.map_map, List.map_map]
      exact List.map_congr_left fun f _ => entry_first f
    rw [this]
    exact h5
theorem texts_word {ws : List PyData} (h : ws.all isWord = true) : ∀ w ∈ textsOf ws, word w = true := fun w hw => by
  obtain ⟨d, hd, rfl⟩ := List.mem_map.mp hw
  obtain ⟨n, rfl, hn⟩ := word_str (List.all_eq_true.mp h d hd)
  exact hn
theorem texts_len {ws : List PyData} : (textsOf ws).length = ws.length := by
  unfold textsOf
  rw [List.length_map]
end Q
set_option Elab.async false
set_option linter.all false
set_option maxRecDepth 100000
set_option maxHeartbeats 4000000
/-! ### what stays when a list or an object is changed -/
namespace Q
open PySem L2 XD
theorem sqZ_off {H : Hp} {D q : Addr} {xs acc acc' : List V} (h : SqZ H q xs) (hD : H D = some (.lst acc)) : SqZ (upd H D (.lst acc')) q xs := by
  obtain ⟨o, e, d⟩ := h
  have n : q ≠ D := fun z => by
    rw [z, hD] at e
    cases e
  exact ⟨o, by rw [upd_ne n]; exact e, d⟩
theorem RuleAt.off {K : PySem.W.Frag} {H : Hp} {D p : Addr} {acc acc' : List V} {r : List (Str × Str)} (h : RuleAt K H p r) (hD : H D = some (.lst acc)) : RuleAt K (upd H D (.lst acc')) p r := by
  obtain ⟨qs, h1, h2⟩ := h
  exact ⟨qs, sqZ_off h1 hD, prd_off hD h2⟩
theorem rules_off {K : PySem.W.Frag} {H : Hp} {D : Addr} {acc acc' : List V} (hD : H D = some (.lst acc)) : ∀ {ps : List Addr} {rs : List (List (Str × Str))}, Paired (RuleAt K H) ps rs → Paired (RuleAt K (upd H D (.lst acc'))) ps rs
  | _, _, .nil => .nil
  | _, _, .cons a b => .cons (a.off hD) (rules_off hD b)
theorem TabR.off {K : PySem.W.Frag} {H : Hp} {D : Addr} {acc acc' : List V} (hD : H D = some (.lst acc)) : ∀ {ps : List Addr} {kvs : List (Key × V)} {t : List (Str × List Str)}, TabR K H ps kvs t → TabR K (upd H D (.lst acc')) ps kvs t
  | _, _, _, .nil => .nil
  | _, _, _, .cons a b o c => .cons (seqT_off a hD) (seqT_off b hD) o (TabR.off hD c)
theorem TabR.snoc {K : PySem.W.Frag} {H : Hp} {q v : Addr} {n : Str} {ws : List Str} (h1 : SqT K H q [.str n, .ref v]) (h2 : SqT K H v (ws.map V.str)) (h3 : ∀ w ∈ ws, PyData.strOk w = true) : ∀ {ps : List Addr} {kvs : List (Key × V)} {t : List (Str × List Str)}, TabR K H ps kvs t → TabR K H (ps ++ [q]) (kvs ++ [(.inr n, .ref v)]) (t ++ [(n, ws)])
  | _, _, _, .nil => .cons h1 h2 h3 .nil
  | _, _, _, .cons a b o c => .cons a b o (TabR.snoc h1 h2 h3 c)
/-- all but what stands of objects is kept -/
def Sd (H H' : Hp) : Prop := ∀ b o, (∀ C dx fs, o ≠ .ins C dx fs) → H b = some o → H' b = some o
theorem sdOf {H H' : Hp} (s : Same H H') : Sd H H' := fun b o _ e => s b o e
theorem Sd.trans {H H' H'' : Hp} (s : Sd H H') (t : Sd H' H'') : Sd H H'' := fun b o n e => t b o n (s b o n e)
theorem sd_ins {H : Hp} {x C dx : Addr} {fs fs' : List (Str × V)} {dx' : Addr} (h : H x = some (.ins C dx fs)) : Sd H (upd H x (.ins C dx' fs')) := fun b o n e => by
  have nb : b ≠ x := fun z => by
    rw [z, h] at e
    exact n _ _ _ (Option.some.inj e).symm
  rw [upd_ne nb]
  exact e
theorem seq_sd {K : PySem.W.Frag} {H H' : Hp} {a : Addr} {xs : List V} (s : Sd H H') (h : SqL K H a xs) : SqL K H' a xs := by
  rcases h with (h | ⟨o, h⟩) | h
  · exact .inl (.inl (s _ _ (by intro _ _ _ z; cases z) h))
  · exact .inl (.inr ⟨o, s _ _ (by intro _ _ _ z; cases z) h⟩)
  · exact .inr h
theorem seqT_sd {K : PySem.W.Frag} {H H' : Hp} {a : Addr} {xs : List V} (s : Sd H H') (h : SqT K H a xs) : SqT K H' a xs := by
  rcases h with (h | ⟨o, h⟩) | h
  · exact .inl (.inl (s _ _ (by intro _ _ _ z; cases z) h))
  · exact .inl (.inr ⟨o, s _ _ (by intro _ _ _ z; cases z) h⟩)
  · exact .inr h
theorem sqZ_sd {H H' : Hp} {a : Addr} {xs : List V} (s : Sd H H') (h : SqZ H a xs) : SqZ H' a xs := by
  obtain ⟨o, e, d⟩ := h
  exact ⟨o, s _ _ (by intro _ _ _ z; cases z) e, d⟩
mutual
theorem dp_sd {K : PySem.W.Frag} {H H' : Hp} (s : Sd H H') : ∀ {v : V} {d : PyData}, Dp K H v d → Dp K H' v d
  | _, _, .non => .non
  | _, _, .bl b => .bl b
  | _, _, .int i => .int i
  | _, _, .str x => .str x
  | _, _, .lst h a => .lst (seq_sd s h) (dps_sd s a)
  | _, _, .tup h a => .tup (seqT_sd s h) (dps_sd s a)
theorem dps_sd {K : PySem.W.Frag} {H H' : Hp} (s : Sd H H') : ∀ {vs : List V} {ds : List PyData}, DpAll K H vs ds → DpAll K H' vs ds
  | _, _, .nil => .nil
  | _, _, .cons h t => .cons (dp_sd s h) (dps_sd s t)
end
theorem tabR_sd {K : PySem.W.Frag} {H H' : Hp} (s : Sd H H') : ∀ {ps : List Addr} {kvs : List (Key × V)} {t : List (Str × List Str)}, TabR K H ps kvs t → TabR K H' ps kvs t
  | _, _, _, .nil => .nil
  | _, _, _, .cons a b o c => .cons (seqT_sd s a) (seqT_sd s b) o (tabR_sd s c)
theorem tab_sd {K : PySem.W.Frag} {H H' : Hp} {p : Addr} {t : List (Str × List Str)} (s : Sd H H') (h : TabAt K H p t) : TabAt K H' p t := by
  obtain ⟨ps, kvs, a, b, c⟩ := h
  exact ⟨ps, kvs, sqZ_sd s a, tabR_sd s b, c⟩
theorem prd_sd {K : PySem.W.Frag} {H H' : Hp} (s : Sd H H') : ∀ {qs : List Addr} {r : List (Str × Str)}, Paired (fun q (e : Str × Str) => SqT K H q [.str e.1, .str e.2]) qs r → Paired (fun q (e : Str × Str) => SqT K H' q [.str e.1, .str e.2]) qs r
  | _, _, .nil => .nil
  | _, _, .cons a b => .cons (seqT_sd s a) (prd_sd s b)
theorem rules_sd' {K : PySem.W.Frag} {H H' : Hp} (s : Sd H H') : ∀ {ps : List Addr} {rs : List (List (Str × Str))}, Paired (RuleAt K H) ps rs → Paired (RuleAt K H') ps rs
  | _, _, .nil => .nil
  | _, _, .cons a b => by
    obtain ⟨qs, h1, h2⟩ := a
    exact .cons ⟨qs, sqZ_sd s h1, prd_sd s h2⟩ (rules_sd' s b)
theorem rulesAt_sd {K : PySem.W.Frag} {H H' : Hp} {p : Addr} {rs : List (List (Str × Str))} (s : Sd H H') (h : RulesAt K H p rs) : RulesAt K H' p rs := by
  obtain ⟨ps, a, b⟩ := h
  exact ⟨ps, sqZ_sd s a, rules_sd' s b⟩
theorem factR_sd {K : PySem.W.Frag} {H H' : Hp} (s : Sd H H') : ∀ {ps : List Addr} {kvs : List (Key × V)} {r : List (Str × Str)}, FactR K H ps kvs r → FactR K H' ps kvs r
  | _, _, _, .nil => .nil
  | _, _, _, .cons a c => .cons (a.elim (fun q => .inl (seqT_sd s q)) (fun q => .inr (seq_sd s q))) (factR_sd s c)
/-- all texts of a table, of rules over it, can be compared -/
theorem look_mem {n : Str} {ws : List Str} : ∀ {t : List (Str × List Str)}, look n t = some ws → (n, ws) ∈ t
  | [], h => by cases h
  | (m, vs) :: t, h => by
    unfold look at h
    by_cases e : m = n
    · rw [if_pos e] at h
      cases h
      rw [e]
      exact List.mem_cons_self
    · rw [if_neg e] at h
      exact List.mem_cons_of_mem _ (look_mem h)
theorem pick_mem {n w : Str} : ∀ {r : List (Str × Str)}, pick n r = some w → (n, w) ∈ r
  | [], h => by cases h
  | (m, v) :: r, h => by
    unfold pick at h
    by_cases e : m = n
    · rw [if_pos e] at h
      cases h
      rw [e]
      exact List.mem_cons_self
    · rw [if_neg e] at h
      exact List.mem_cons_of_mem _ (pick_mem h)
theorem sorted_mem {t : List (Str × List Str)} {r : List (Str × Str)} {e : Str × Str} (h : e ∈ sorted t r) : e ∈ r := by
  unfold sorted at h
  obtain ⟨f, _, h2⟩ := List.mem_filterMap.mp h
  cases ep : pick f.1 r with
  | none =>
    rw [ep] at h2
    cases h2
  | some w =>
    rw [ep] at h2
    cases h2
    exact pick_mem ep
end Q
set_option Elab.async false
set_option linter.all false
set_option maxRecDepth 100000
set_option maxHeartbeats 4000000
/-! Several except clauses, each with a name of its own; what is caught has no context, so that defs may be called in the suites. -/
namespace XT
open PySem PySem.Spec PyProof.Rows L2 L2N
/-- one clause: the class, the name's slot, the suite's reading -/
structure Cl where
  c : Value
  i : Nat
  ts : Addr → Value → Option Addr → TS
/-- the ends of a suite: behind it the name is gone -/
def offEnds (D : Ends) (i : Nat) : Ends :=
  ⟨fun σ H => D.nx (σ.set i none) H, D.rt, fun σ H => D.bk (σ.set i none) H, fun σ H => D.ct (σ.set i none) H⟩
def wCls (K : PySem.W.Frag) (Wout : WX) (D : Ends) : List Cl → WX
  | [] => Wout
  | q :: r => fun cls d σ H => ∃ yes, PySem.W.exmOne K cls q.c = some yes ∧
      (yes = true → ∀ a, H a = none → q.ts a cls d (offEnds D q.i) (σ.set q.i (some (.ref a))) H) ∧
      (yes = false → wCls K Wout D r cls d σ H)
inductive ClsOk (X : Cx) : List ExceptHandler → List Cl → Prop
  | nil : ClsOk X [] []
  | cons {x n : Str} {q : Cl} {b1 : Stmt} {more : List Stmt} {p1 p2 : Pos} {hs : List ExceptHandler} {l : List Cl}
      (hc : Names X x q.c) (hi : X.N[q.i]? = some n) (hl : X.env.kindOf n = some .local)
      (hsu : ∀ (a : Addr) (oe : Obj) (cls : Value) (d : Option Addr) (pn : List (Addr × Obj)), Zn cls d oe →
        (∃ vs, oe.data = .fields vs) → PSs (X.suite a ((a, oe) :: pn)) (b1 :: more) (q.ts a cls d)) (r : ClsOk X hs l) :
      ClsOk X (.ExceptHandler (some (.Name x p1)) (some n) (b1 :: more) p2 :: hs) (q :: l)
section
variable {X : Cx} {body : List Stmt} {hd1 : ExceptHandler} {hs1 : List ExceptHandler} {l : List Cl} {pos : Pos} {tb : WX → TS} {Wout : WX}
/-- what flies on from a clause list that did not take it -/
theorem flies {A : Around} {B : Heap} {env : Env} {outer : List Env} {a L : Addr} {Z : Obj → Prop} {s : Shared} {Q : Flow → Shared → Prop} {E : Value → Shared → Prop} {M : Model}
    (hf : env.frame = some L) (fl : HandSPX.FlyingZ B (env :: outer) a Z s.heap)
    (q : ∀ h, HandSPX.HeldZ B (env :: outer) a Z L h → s.heap.UpToSlots h → E (.ref a) { s with heap := h }) :
    wpAny M A (handleBy (.ref a) env []) Q E s := by
  refine wpAny_handleBy_nil ?_
  obtain ⟨_, _, _, oe, vs, T, oT, ts, he, hz, hd, h1, _⟩ := id fl
  have step : wpAny M A (setFlight (.ref a) env.frame) (fun _ s4 => wpAny M A (throw (.ref a) : Sem Flow) Q E s4) E s := by
    rw [hf]
    exact HandSPX.setFlight_upZ fl fun h hh up => wpAny_throw (q h hh up)
  unfold PySem.passOn
  refine wpAny_bind (wpAny_field he hd h1 ?_)
  rw [if_neg (show ¬ ((Value.ref T == Value.none) = true) by simp)]
  first
    | exact wpAny_bind (wpAny_pure (wpAny_bind step))
    | exact wpAny_bind step
theorem not_frame {B : Heap} {l : List Env} {h : Heap} {a : Addr} {o : Obj} {vs : Array Value} (ff : h.FunFrames B l)
    (e : h.get? a = some o) (dd : o.data = .fields vs) : a ∉ frs l := fun hm => by
  obtain ⟨_, u, hu, nf⟩ := ff.mem hm
  rw [hu] at e
  cases e
  exact nf _ dd
theorem ps_try_cls (hst : X.stack = X.env :: X.outer) (hf : X.env.frame = some X.env.locals) (hN : X.N.Nodup) (tk : L2N.Takes X Wout)
    (hb : ∀ (W : WX) (pn : List (Addr × Obj)) (xe : Value → Shared → Prop), L2N.Takes (X.tr pn xe) W →
      PassesOwn (model X.prog X.w) X.A X.env xe → PSs (X.tr pn xe) body (tb W))
    (hh : ClsOk X (hd1 :: hs1) l) : PS X (.Try body (hd1 :: hs1) [] [] pos) (fun D σ H => tb (wCls X.K Wout D l) D σ H) := by
  constructor
  intro pins s σ H D I h
  have ok := I.ok
  have frm : X.A.frames = some (X.env :: X.outer) := by
    rw [ok.frames, hst]
  refine wpAny_Try_except ?_
  have run := (hb (wCls X.K Wout D l) (X.pn ++ pins)
    (fun e s1 => wpAny (model X.prog X.w) X.A (noteFrame e X.env)
      (fun _ s2 => wpAny (model X.prog X.w) X.A (setFlight e none)
        (fun _ s3 => wpAny (model X.prog X.w) X.A (handleBy e X.env (hd1 :: hs1)) (SP X pins D) X.xe s3) X.xe s2) X.xe s1)
    ?takes PassesOwn.looking).run [] s σ H D (I.toTry _) h
  case takes =>
    intro u s1 air
    obtain ⟨a, B, sI, pins', σ1, H1, cls, d, rfl, J0, nb, up, sky, na, os, ag, w⟩ := air
    have J : Inv X pins σ1 H1 sI := J0.ofTry ok
    have sky1 : Sky B (X.env :: X.outer) a (Zn cls d) X.env.locals s1.heap := by
      rw [← hst]
      exact sky
    show wpAny (model X.prog X.w) X.A (noteFrame (.ref a) X.env) _ _ _
    refine L2N.Sky.land Zn.steady frm hf sky1 fun h3 fl up3 => ?_
    have J3 : Inv X pins σ1 H1 { s1 with heap := h3 } := J.landed nb fl.1 (up.trans up3) os ag
    obtain ⟨o3, v3, e3, z3, d3⟩ := fl.there
    have nfr := not_frame fl.2.2.1 e3 d3
    have nL : a ≠ X.env.locals := fun z =>
      nfr (List.mem_filterMap.mpr ⟨X.env, List.mem_cons_self, by rw [hf, z]⟩)
    have nF : a ∉ X.fs := fun hm => by
      obtain ⟨e, he, q⟩ := List.mem_filterMap.mp hm
      exact nfr (List.mem_filterMap.mpr ⟨e, List.mem_cons_of_mem _ he, q⟩)
    have S3 := J3.suite e3 d3 na nL nF
    have go : ∀ {hs2 : List ExceptHandler} {l2 : List Cl}, ClsOk X hs2 l2 → wCls X.K Wout D l2 cls d σ1 H1 →
        wpAny (model X.prog X.w) X.A (handleBy (.ref a) X.env hs2) (SP X pins D) X.xe { s1 with heap := h3 } := by
      intro hs2 l2 hk
      induction hk with
      | nil =>
        intro w
        refine flies (s := { s1 with heap := h3 }) hf fl fun h4 hh4 up4 => tk _ _ ?_
        exact ⟨a, B, sI, pins, σ1, H1, cls, d, rfl, J, nb, (up.trans up3).trans up4, .inr (.inr (by rw [hst]; exact hh4)), na, os, ag, w⟩
      | @cons x n q b1 more p1 p2 hs l hc hi hl hsu r ih =>
        intro w
        obtain ⟨yes, hx, hyes, hno⟩ := w
        refine wpAny_handleBy_cons (codeAny_handlers_test ?_) (by intro z; cases z)
        have LT : PySem.W.Looks (model X.prog X.w) h3 (typeOf (.ref a)) cls :=
          fun A Q E s k q => wpAny_typeOf_ref (k _ _ e3) (by rw [z3.1]; exact q)
        have LM := PySem.W.exm_one (M := model X.prog X.w) (J3.kIn) LT hx
        have test : ∀ {Q : Value → Shared → Prop} {E : Value → Shared → Prop}, Q q.c { s1 with heap := h3 } →
            wpAny (model X.prog X.w) (X.A.mark (some (.ref a))) (eval (.Name x p1) X.env) Q E { s1 with heap := h3 } := by
          intro Q E z
          obtain ⟨hg, hdb, hm | ⟨hm, hv, hnn⟩⟩ := hc
          · exact ld_glob (X := X.suite a ((a, o3) :: (X.pn ++ pins))) S3 hg hm z hdb
          · exact ld_blt (X := X.suite a ((a, o3) :: (X.pn ++ pins))) S3 hg hm hv z hnn hdb
        refine test (LM.here ?_)
        cases yes with
        | false =>
          show wpAny _ X.A (handleBy (.ref a) X.env hs) _ _ _
          exact ih (hno rfl)
        | true =>
          refine codeAny_handlers_suite_as ?_
          refine HandSPX.lands_againZ fl fun h4 fl4 up4 => ?_
          have J4 : Inv X pins σ1 H1 { s1 with heap := h4 } :=
            J.landed nb fl4.1 ((up.trans up3).trans up4) os ag
          obtain ⟨o4, v4, e4, z4, d4⟩ := fl4.there
          have S4 := J4.suite e4 d4 na nL nF
          refine store_ok (X := X.suite a ((a, o4) :: (X.pn ++ pins))) (v := .ref a) S4 hN hi (.inl hl) rfl (fun s5 S5 => ?_) (.inr hl)
          have fin : ∀ {s6 : Shared} {σ6 : L2.St} {H6 : Hp} {Q : Shared → Prop}, Inv (X.suite a ((a, o4) :: (X.pn ++ pins))) [] σ6 H6 s6 →
              (∀ s7, Inv X pins (σ6.set q.i none) H6 s7 → Q s7) →
              wpAny (model X.prog X.w) X.A (do bindName X.env n .none; unbindBehindTheSuite X.env n p2) (fun _ s7 => Q s7) X.xe s6 :=
            fun S6 hq => gone_ok (S6.unsuite ok) hN hi hl hq
          refine wpAny_mono ((hsu a o4 cls d (X.pn ++ pins) z4 ⟨_, d4⟩).run [] s5 _ H1 _ S5 (hyes rfl a na)) (fun f s6 hsp => ?_) (fun _ _ z => False.elim z)
          cases f with
          | ret u =>
            obtain ⟨v6, σ6, H6, S6, r6, q6⟩ := hsp
            exact fin S6 fun s7 J7 => ⟨_, _, _, J7, r6, q6⟩
          | next =>
            obtain ⟨σ6, H6, S6, q6⟩ := hsp
            exact fin S6 fun s7 J7 => ⟨_, _, J7, q6⟩
          | brk =>
            obtain ⟨σ6, H6, S6, q6⟩ := hsp
            exact fin S6 fun s7 J7 => ⟨_, _, J7, q6⟩
          | cont =>
            obtain ⟨σ6, H6, S6, q6⟩ := hsp
            exact fin S6 fun s7 J7 => ⟨_, _, J7, q6⟩
    exact go hh w
  refine wpAny_mono run (fun f s1 hsp => ?_) (fun e s1 he => he)
  cases f with
  | ret u =>
    obtain ⟨v, σ1, H1, J1, rv, q⟩ := hsp
    exact ⟨v, σ1, H1, J1.ofTry ok, rv, q⟩
  | next =>
    obtain ⟨σ1, H1, J1, q⟩ := hsp
    exact wpAny_execs_nil ⟨σ1, H1, J1.ofTry ok, q⟩
  | brk =>
    obtain ⟨σ1, H1, J1, q⟩ := hsp
    exact ⟨σ1, H1, J1.ofTry ok, q⟩
  | cont =>
    obtain ⟨σ1, H1, J1, q⟩ := hsp
    exact ⟨σ1, H1, J1.ofTry ok, q⟩
end
end XT
set_option Elab.async false
set_option linter.all false
set_option maxRecDepth 100000
set_option maxHeartbeats 4000000
/-! Own error classes over Exception with «def __init__(self, f): self.f = f», f one of three names: made and raised. -/
namespace XM
open PySem PySem.W PySem.Calls PyProof.Rows PySem.HandSPX
abbrev exTail : List Value := [.type "Exception", .type "BaseException", .type "object"]
def eArgs (f : Str) (p1 p2 : Pos) : Arguments :=
  { posonlyargs := [], args := [⟨"self", none, p1⟩, ⟨f, none, p2⟩], vararg := none, kwonlyargs := [], kw_defaults := [], kwarg := none, defaults := [] }
def eBody (f : Str) (q1 q2 q3 q4 : Pos) : List Stmt := [.Assign [.Attribute (.Name "self" q1) f q2] (.Name f q3) q4]
def eScope (f : Str) : Scope := ⟨.function, [(PySem.Str.ofString "self", .local), (f, .local)], false, false, []⟩
def Fld (f : Str) : Prop := f = PySem.Str.ofString "at" ∨ f = PySem.Str.ofString "name" ∨ f = PySem.Str.ofString "word"
/-- what the written part says of the class at C, its __init__ at fI, its field f -/
structure XcT (K : Frag) (C fI : Addr) (f qual : Str) : Prop where
  fld : Fld f
  ini : excInitIn K C exTail "Exception.__new__" = true
  ovr : excOver K C exTail = true
  tkn : takerIn K C f = some none
  sa : findIn K (.ref C) "__setattr__" = some (some (.builtin "object.__setattr__"))
  ga : findIn K (.ref C) "__getattribute__" = some (some (.builtin "BaseException.__getattribute__"))
  gg : findIn K (.ref C) "__getattr__" = some none
  noN : findIn K (.ref C) f = some none
  iC : findIn K (.ref C) "__init__" = some (some (.ref fI))
  tC : typeIn K (.ref fI) = some (.type "function")
  kC : keepIn K (.ref C) = true
  exC : subIn K (.ref C) (.type "BaseException") = some true
  tyC : typeIn K (.ref C) = some (.type "type")
  hdC : hasDictIn K C = true
  fn : ∃ (oc : Value) (od : Option Addr) (doc pm : Value) (an : Option Addr) (cdv ct : Value) (osl : Array (Option Value)) (p1 p2 q1 q2 q3 q4 : Pos),
    K.lookup fI = some ⟨oc, od, .func (fnOf "__init__" qual (eArgs f p1 p2) (eBody f q1 q2 q3 q4) (eScope f) .none .none doc pm an cdv ct), osl⟩ ∧ codeIn K cdv qual = true
theorem len1 (v : Value) : [v].length ≤ sizeLine := by
  rw [sizeLine_eq]
  exact (by decide : 1 ≤ 16777216)
theorem loaded {M : Model} {s : Shared} {nm : Str} {sc : Scope} {L a : Addr} {cd : Value} {m : Str → Option Value} {x : Str} {pos : Pos} {v : Value}
    {Q : Value → Shared → Prop} {A : Around} {E : Value → Shared → Prop} (hn : s.heap.Ns L m) (hv : m x = some v) (h : Q v s)
    (hk : sc.kind = .function) (hl : (envOfC nm sc L a cd).kindOf x = some .local) (hd : (x == ("__debug__" : Str)) = false) :
    wpAny M A (eval (.Name x pos) (envOfC nm sc L a cd)) Q E s := wpAny_Name (wpAny_loadName_local hk hl hn hv h) hd
/-- behind __init__: the object has its dict at dx, which holds the field -/
structure Inited (h h' : Heap) (x C dx t1 : Addr) (f : Str) (v : Value) : Prop where
  keep : ∀ b o, b ≠ x → h.get? b = some o → h'.get? b = some o
  obj : h'.get? x = some { cls := .ref C, dict := some dx, data := .fields #[.ref t1, .none, .none, .none, .bool false, .none] }
  dbig : h.objs.size ≤ dx
  dne : dx ≠ x
  ns : h'.Ns1 dx (fun y => if y = f then some v else none)
structure Made (h h' : Heap) (e C d : Addr) (f : Str) (v : Value) : Prop where
  keep : ∀ b o, h.get? b = some o → h'.get? b = some o
  new : h.objs.size ≤ e
  obj : ∃ t, h'.get? e = some { cls := .ref C, dict := some d, data := .fields #[.ref t, .none, .none, .none, .bool false, .none] }
  dbig : h.objs.size ≤ d
  dne : d ≠ e
  ns : h'.Ns1 d (fun y => if y = f then some v else none)
section
open Builtin Builtin.ObjectAttr
variable {prog : Program} {w : World} {A : Around} {E : Value → Shared → Prop} {R : Result → Shared → Prop} {K : Frag} {C fI : Addr} {f qual : Str}
/-- the first field of such an error -/
theorem first_field {hp : Heap} {g : Array GenState} {dr : Drawn} {t : Nat} {os : OsState} {tk : Tok} {v : Value} {x : Addr} {fv : Array Value}
    (X : K.In hp) (hx : hp.get? x = some { cls := .ref C, data := .fields fv }) (hov : excOver K C exTail = true) (hh : hasDictIn K C = true) (ht : takerIn K C f = some none)
    (hq : ∀ h' tk' dx, (∀ b o, b ≠ x → hp.get? b = some o → h'.get? b = some o) → hp.objs.size ≤ dx → dx ≠ x →
      h'.get? x = some { cls := .ref C, dict := some dx, data := .fields fv } → h'.Ns1 dx (fun y => if y = f then some v else none) → R (.ok (.ret .none)) ⟨h', g, dr, tk', os⟩) :
    codeAny (model prog w) A (.call (.builtin "object.__setattr__") ⟨[.ref x, .str f tk, v], []⟩) R ⟨hp, g, dr, t, os⟩ := by
  have I : W.InstAt hp x { cls := .ref C, data := .fields fv } C none := ⟨hx, rfl, rfl, trivial⟩
  obtain ⟨cd, hcd, hd⟩ := any_some hh
  have hcls : W.Looks (model prog w) hp (classData C) cd := W.looks_clsIn X hcd
  have lt : x < hp.objs.size := Heap.lt_size hx
  have hxs : x ≠ hp.objs.size := Nat.ne_of_lt lt
  refine osa_openX (s := ⟨hp, g, dr, t, os⟩) F.store_Exception X I hov ht fun b => ?_
  show wpAny _ _ (storeInOwnDict (.ref x) (.ref C) (.str f tk) f v b) _ _ _
  obtain ⟨nm, bs, mro, ns, qn, hd0, sn, sb, ab, col, del⟩ := cd
  have hd1 : hd0 = true := hd
  subst hd1
  unfold storeInOwnDict ownDictForStores
  repeat (first | with_reducible refine store_in_new ?_ ?_ | with_reducible refine wpAny_loadPart_at hx ?_ | with_reducible refine hcls.at ?_ | wp_step)
  · exact ⟨_, #[], _, (Heap.get?_update_ne _ _ _ _ hxs.symm).trans (Heap.get?_push_at rfl rfl), rfl, (fun e he => absurd he (by simp)), fun _ => rfl⟩
  · intro h' tk' hn' same
    have hx1 : (hp.push { cls := .type "dict", data := .dict #[] }).get? x = some { cls := .ref C, data := .fields fv } :=
      Heap.get?_push_of_some _ hx
    refine hq h' tk' hp.objs.size (fun b o hb ho => ?_) (Nat.le_refl _) hxs.symm ?_ hn'
    · have nb : b ≠ hp.objs.size := Nat.ne_of_lt (Heap.lt_size ho)
      exact (same.2 b nb).trans ((Heap.get?_update_ne _ _ _ _ hb).trans (Heap.get?_push_of_some _ ho))
    · exact (same.2 x hxs).trans (Heap.get?_update_self _ hx1 rfl)
theorem xinit (T : XcT K C fI f qual) {s : Shared} {x t0 : Addr} {v : Value} (X : K.In s.heap) (hlim : s.heap.NoLimit)
    (hx : s.heap.get? x = some (excO C t0)) (hroom : A.depth < recursionLimit)
    (hq : ∀ h' tk dx, Inited s.heap h' x C dx t0 f v → R (.ok (.ret .none)) { s with heap := h', toks := tk }) :
    codeAny (model prog w) A (.call (.ref fI) ⟨[.ref x, v], []⟩) R s := by
  obtain ⟨oc, od, doc, pm, an, cdv, ct, osl, p1, p2, q1, q2, q3, q4, ho, hcd⟩ := T.fn
  have hsa := T.sa
  have hov := T.ovr
  have hdc := T.hdC
  have htk := T.tkn
  rcases T.fld with rfl | rfl | rfl <;>
  · refine Att.call_fn (binds := [("self", .ref x), (_, v)]) X hlim ho hcd hroom (BindsTo.of_eq (by first | rfl | with_unfolding_all rfl)) (by first | rfl | decide | with_unfolding_all rfl) (fun s1 IC => ?_) rfl rfl rfl
    obtain ⟨h1, tk1, rfl⟩ := IC.toInCall.same
    have k : ∀ b o, s.heap.get? b = some o → h1.get? b = some o := IC.toInCall.keep
    have hn := IC.toInCall.ns
    have X1 : K.In h1 := X.keeps k
    have hx1 := k _ _ hx
    have big : s.heap.objs.size < h1.objs.size := hn.lt
    show wpAny _ _ (execs _ _) _ _ _
    refine wpAny_execs_cons (plainObj_wpAny_Assign_Attribute ?_)
    refine loaded (v := v) hn (by first | rfl | with_unfolding_all rfl | kernel_rfl) (loaded (v := .ref x) hn (by first | rfl | with_unfolding_all rfl | kernel_rfl) ?_ rfl rfl (by decide)) rfl rfl (by decide)
    refine set_plain X1 (ox := excO C t0) (od := none) ⟨hx1, rfl, rfl, trivial⟩ hsa ?_
    refine first_field X1 hx1 hov hdc htk (fun h3 tk3 dx k3 dn dne hx3 hn3 => ?_)
    show wpAny _ _ (execs _ _) _ _ _
    exact wpAny_execs_nil (hq h3 tk3 dx ⟨fun b o hb e => k3 b o hb (k b o e), hx3, Nat.le_of_lt (Nat.lt_of_lt_of_le big dn), dne, hn3⟩)
theorem xmade (T : XcT K C fI f qual) {s : Shared} {v : Value} (X : K.In s.heap) (hlim : s.heap.NoLimit) (hroom : A.depth + 1 < recursionLimit)
    (hq : ∀ h' tk e d, Made s.heap h' e C d f v → R (.ok (.ret (.ref e))) { s with heap := h', toks := tk }) :
    codeAny (model prog w) A (.call (.ref C) ⟨[v], []⟩) R s := by
  obtain ⟨nm, N, qn, bs, bm, hdct, sn, sub, ab, col, dd, k0, k1, k2, k3, k5, hC, hbm⟩ := excInit_of X T.ini
  obtain ⟨hp, g, dr, tk, os⟩ := s
  have k : ∀ b o, hp.get? b = some o → ((hp.push (kdv_tup [v])).push (excO C hp.objs.size)).get? b = some o :=
    fun b o e => Heap.get?_push_of_some _ (Heap.get?_push_of_some _ e)
  have hget : ((hp.push (kdv_tup [v])).push (excO C hp.objs.size)).get? (hp.objs.size + 1) = some (excO C hp.objs.size) := by
    heap_get
  refine call_own F.excBase_Exception hbm hC (looks_findIn X T.iC) (fun self => bind_fn X self T.tC) (len1 v) ?_
  have room1 : (A.under (.builtin "type.__call__" ⟨.ref C :: [v], []⟩)).depth < recursionLimit := hroom
  refine xinit (s := ⟨(hp.push (kdv_tup [v])).push (excO C hp.objs.size), g, dr, tk, os⟩) T (X.keeps k) (hlim.keeps k) hget room1 fun h' tk' dx Z => ?_
  have old : ∀ b o, hp.get? b = some o → h'.get? b = some o := fun b o e =>
    Z.keep b o (Nat.ne_of_lt (Nat.lt_succ_of_lt (Heap.lt_size e))) (k b o e)
  have z : hp.objs.size + 1 + 1 ≤ dx := by
    have q := Z.dbig
    first
      | (simpa only [Heap.size_push] using q)
      | exact q
      | (rw [Heap.size_push, Heap.size_push] at q; exact q)
  exact ⟨rfl, hq h' tk' (hp.objs.size + 1) dx ⟨old, Nat.le_succ _, ⟨_, Z.obj⟩, Nat.le_trans (Nat.le_trans (Nat.le_succ _) (Nat.le_succ _)) z, Z.dne, Z.ns⟩⟩
end
end XM
namespace XM
open PySem PySem.Spec PyProof.Rows L2
theorem relOne {v : V} {u : Value} (r : RelV v u) (f g : Str) : RelO (List.lookup g [(f, v)]) (if g = f then some u else none) := by
  by_cases h : g = f
  · subst h
    rw [if_pos rfl]
    have e : List.lookup g [(g, v)] = some v := by simp [List.lookup]
    rw [e]
    exact r
  · rw [if_neg h]
    have q : (g == f) = false := by simpa using h
    have e : List.lookup g [(f, v)] = none := by simp [List.lookup, q]
    rw [e]
    trivial
/-- C(e): the error's own dict is new and holds the field -/
def tMk (C : Addr) (f : Str) (ta : TA) : L2.St → Hp → XK → Prop := fun σ H Q =>
  ta σ H fun vs H1 => ∃ v, vs = [v] ∧ ∀ d, H1 d = none → Q (.ref C) (some d) (upd H1 d (.xd [(f, v)]))
theorem pmk {X : Cx} {C fI : Addr} {f qual x : Str} {a : Expr} {ta : TA} {p pos : Pos} {k : Nat} (T : XcT X.K C fI f qual) (hm : X.mg x = some (.ref C)) (hr : Room k X.A) (ha : PA X [a] ta)
    (hg : Gl X x := by rfl) (hdb : (x == ("__debug__" : Str)) = false := by decide)
    (he : starEach (a :: []) X.env = (false, eval a X.env) :: starEach [] X.env := by rfl) (hpl : (backTo pos (starEach [] X.env)).any (·.1) = false := by rfl) :
    L2N.PMk X (.Call (.Name x p) [a] [] pos) (tMk C f ta) := by
  intro pins s σ H Q I h
  refine wpAny_Call_Name_kw (ld_glob I hg hm ?_ hdb)
  refine PySem.W.callWith_K (h₀ := X.base) I.ok.mod.kin T.kC (thn (ha.run pos pins s σ H _ I h) fun us s1 hh => ?_) he hpl
  obtain ⟨vs, H1, I1, r1, v, rfl, q1⟩ := hh
  refine ⟨I1.kIn, ?_⟩
  cases r1 with
  | cons rv rn =>
    rename_i u us1
    cases rn
    have hlim := I1.nolimit
    show wpAny _ _ (call (.ref C) [u]) _ _ _
    obtain ⟨hp, g, dr, tk, os⟩ := s1
    have room : X.A.depth + 1 < recursionLimit := by
      have := hr.dp
      omega
    refine wpAny_call (xmade T I1.kIn hlim room fun h' tk' e d M => ?_)
    show L2N.MkP X pins σ Q (.ref e) ⟨h', g, dr, tk', os⟩
    obtain ⟨t, hoe⟩ := M.obj
    have hns := M.ns
    obtain ⟨G, g1, g2⟩ := restrict h' fun b => decide (b ≠ e)
    have gk : ∀ b, b ≠ e → G.get? b = h'.get? b := fun b hb => g1 b (decide_eq_true hb)
    have ge : G.get? e = none := g2 e (by simp)
    have old : ∀ b o, hp.get? b = some o → G.get? b = some o := fun b o q =>
      (gk b (Nat.ne_of_lt (Nat.lt_of_lt_of_le (Heap.lt_size q) M.new))).trans (M.keep b o q)
    have ob : ObjOk X.prog X.w (upd H1 d (.xd [(f, v)])) G d (.xd [(f, v)]) :=
      ⟨_, hns.at (fun o q => (gk d M.dne).trans q), fun y => relOne rv f y⟩
    have J : Inv X pins σ (upd H1 d (.xd [(f, v)])) ⟨G, g, dr, tk', os⟩ := I1.laid (t' := tk') old M.dbig ob
    refine ⟨e, _, _, ⟨G, g, dr, tk', os⟩, _, .ref C, some d, rfl, J, fun b o q => ?_, ge, hoe, ⟨rfl, rfl, fun ws ew => by cases ew; rfl⟩, rfl, rfl, ?_, rfl, I1.bare, raises_own T.exC T.tyC, q1 d (I1.hok.fresh M.dbig)⟩
    · by_cases hb : b = e
      · have q2 : G.get? b = some o := q
        rw [hb, ge] at q2
        cases q2
      · exact (gk b hb).symm.trans q
    · rw [upd_ne (Ne.symm M.dne)]
      exact I1.hok.fresh M.new
end XM
set_option Elab.async false
set_option linter.all false
set_option maxRecDepth 100000
set_option maxHeartbeats 8000000
/-! ### Form -/
namespace Q
open PySem L2 XD
/-- a def that may let errors out, their own dict with them -/
theorem Fun_okN {P : Program} {w : World} {K : PySem.W.Frag} {mg : Str → Option Value} {base : Heap} {x qual : Str} {st : Stmt} {f : Addr} {fd : FuncData} {N ps : List Str} {k : Nat} {sp : Sp} (F : Fun K x qual st f fd) (S : FnScope N ps (defScope st)) (len : ∀ vs H Q E, sp vs H Q E → vs.length = ps.length)
    (hbody : ∀ (cdv : Value) (A : Around) (outer : List Env) (s : Shared) (H : Hp) (vs : List V) (Q : VK) (E : XK), Room k (A.deeper (PyProof.Rows.envOfC qual (defScope st) s.heap.objs.size f cdv)) → sp vs H Q E →
      ∃ t, PSs (cxOf (L2N.CX P w) P w K mg base N qual (defScope st) f cdv A outer s H E) (defBody st) t ∧ t { nx := fun _ H' => Q .non H', rt := Q } (L2.start N vs) H) : FnOk P w K mg base (L2N.CX P w) (k + 1) f fd ps sp := by
  obtain ⟨oc, od, kV, doc, pm, an, cdv, ct, osl, rfl, lk, hcd⟩ := F.ex
  exact fn_of lk hcd S len fun A outer s H vs Q E hr hsp => hbody cdv A outer s H vs Q E hr hsp
theorem call_tupK {X : Cx} (K : PySem.W.Frag) (h : X.K = K) : CallR X (.type "tuple") (rTupZ K) := by
  subst h
  exact call_tupZ
structure Er (K : PySem.W.Frag) (mg : Str → Option Value) (CV CM : Addr) : Prop where
  v : ∃ fI qual, XM.XcT K CV fI "at" qual
  m : ∃ fI qual, XM.XcT K CM fI "word" qual
  gv : mg "BadValue" = some (.ref CV)
  gm : mg "TooMany" = some (.ref CM)
/-- rules whose pairs may be handed to dict: each a list, or a tuple known to have no dict -/
def RZ (K : PySem.W.Frag) (H : Hp) (v : V) (d : PyData) : Prop := ∃ (q : Addr) (ws : List V) (rds : List PyData), v = .ref q ∧ rowOf d = some rds ∧ (SqL K H q ws ∨ SqT K H q ws) ∧ ws.length = rds.length ∧
  ∀ (i : Nat) (y : V) (rd : PyData), ws[i]? = some y → rds[i]? = some rd → ∃ (q2 : Addr) (zs : List V) (gs : List PyData), y = .ref q2 ∧ (SqL K H q2 zs ∨ SqZ H q2 zs) ∧ rowOf rd = some gs ∧ DpAll K H zs gs
theorem RZ.same {K : PySem.W.Frag} {H H' : Hp} {v : V} {d : PyData} (s : Same H H') (h : RZ K H v d) : RZ K H' v d := by
  obtain ⟨q, ws, rds, e1, e2, e3, e4, e5⟩ := h
  refine ⟨q, ws, rds, e1, e2, sq_same s e3, e4, fun i y rd h1 h2 => ?_⟩
  obtain ⟨q2, zs, gs, f1, f2, f3, f4⟩ := e5 i y rd h1 h2
  exact ⟨q2, zs, gs, f1, f2.elim (fun z => .inl (s.seq z)) (fun z => .inr (z.same s)), f3, dps_same s f4⟩
def rulesOf (d : PyData) : List (List (Str × Str)) := match rowOf d with
  | some rs => rs.map factsOf
  | none => []
/-- what a form is made to -/
inductive Made
  | bad (i : Int)
  | many
  | form (t : List (Str × List Str)) (rs : List (List (Str × Str)))
def made (dF dR : PyData) : Made :=
  if areFields dF = true then
    if areRules (tabOf dF) dR = true then
      if 1000 < waysFrom 1 (tabOf dF) then .many else .form (tabOf dF) (once ((rulesOf dR).map (sorted (tabOf dF))))
    else .bad 1
  else .bad 0
def FormAt (C : Addr) (H : Hp) (x pf pr : Addr) : Prop := ∃ dx, H x = some (.ins C dx [("_fields", .ref pf), ("_rules", .ref pr)])
/-- the end of the making -/
def mEnd (K : PySem.W.Frag) (C CV CM x : Addr) (H : Hp) (Q : VK) (E : XK) : Made → Prop
  | .bad i => ∀ d H', Same H H' → H' d = none → E (.ref CV) (some d) (upd H' d (.xd [("at", .int i)]))
  | .many => ∀ d H', Same H H' → H' d = none → E (.ref CM) (some d) (upd H' d (.xd [("word", .str "fillings")]))
  | .form t rs => ∀ pf pr H', (∀ b o, b ≠ x → H b = some o → H' b = some o) → FormAt C H' x pf pr → TabAt K H' pf t → RulesAt K H' pr rs → Q .non H'
def spInit (K : PySem.W.Frag) (C CV CM : Addr) : Sp := fun vs H Q E => ∃ (x dx : Addr) (vF vR : V) (dF dR : PyData), vs = [.ref x, vF, vR] ∧ H x = some (.ins C dx []) ∧ Dp K H vF dF ∧ Dp K H vR dR ∧ FShort dF ∧ ROk dR ∧ (∀ t rs, made dF dR = .form t rs → RZ K H vR dR) ∧ mEnd K C CV CM x H Q E (made dF dR)
theorem nxt {D : Ends} {σ : L2.St} {H : Hp} (h : D.nx σ H) : tNext D σ H := h
theorem asg_tup {K : PySem.W.Frag} {te : TE} {u : TS} {D : Ends} {σ : L2.St} {H : Hp} {i : Nat} (h : te σ H fun v H1 => rTupZ K [v] H1 fun v2 H2 => u D (σ.set i (some v2)) H2) : tSeq (tAsg (tCB (rTupZ K) (tCons te tNil)) (gName i)) u D σ H := h
theorem fr_ : ¬ (("_fields" : Str) = "_rules") := by decide +kernel
theorem pf2 (l z : Addr) : putF "_rules" (.ref z) (putF "_fields" (.ref l) []) = ([("_fields", V.ref l), ("_rules", V.ref z)] : List (Str × V)) := by
  show (if ("_fields" : Str) = "_rules" then [(("_rules" : Str), V.ref z)] else (("_fields" : Str), V.ref l) :: putF "_rules" (V.ref z) []) = ([("_fields", V.ref l), ("_rules", V.ref z)] : List (Str × V))
  rw [if_neg fr_]
  all_goals rfl
theorem fld_each {K : PySem.W.Frag} {te t0 : TE} {f : Str} {D : Ends} {σ : L2.St} {H : Hp} (h : te σ H fun v H1 => spEach K [v] H1 (fun y H2 => t0 σ H2 fun x H3 => ∃ a C dx fs, x = .ref a ∧ H3 a = some (.ins C dx fs) ∧ Cls K C ∧ NoAttr K C f ∧ fs.length < 1000 ∧ D.nx σ (upd H3 a (.ins C dx (putF f y fs)))) E0) : sFld K t0 (tCall (spEach K) [] E0 (tCons te tNil)) f D σ H := h
theorem rules_good {t : List (Str × List Str)} {d : PyData} (h : areRules t d = true) : ∃ rs, rowOf d = some rs ∧ rs.length ≤ 20 ∧ rulesOf d = rs.map factsOf ∧ ∀ r ∈ rs, areFacts t r = true := by
  unfold areRules at h
  cases e : rowOf d with
  | none =>
    rw [e] at h
    cases h
  | some rs =>
    rw [e] at h
    have h2 : (decide (rs.length ≤ 20) && rs.all (ruleOk t)) = true := h
    rw [Bool.and_eq_true] at h2
    refine ⟨rs, rfl, of_decide_eq_true h2.1, ?_, fun r hr => ?_⟩
    · unfold rulesOf
      rw [e]
    · have h3 := List.all_eq_true.mp h2.2 r hr
      cases ef : areFacts t r with
      | true => rfl
      | false =>
        rw [ruleOk_no ef] at h3
        cases h3
section
variable {P : Program} {w : World} {K : PySem.W.Frag} {mg : Str → Option Value} {base : Heap}
theorem scInit : FnScope ["self", "fields", "rules", "kept", "name", "values", "rule"] ["self", "fields", "rules"] (defScope sInit) := ⟨rfl, rfl, rfl, by decide +kernel, rfl, by decide +kernel, by decide +kernel⟩
theorem scFieldsM : FnScope ["self"] ["self"] (defScope sFieldsM) := ⟨rfl, rfl, rfl, by decide +kernel, rfl, by decide +kernel, by decide +kernel⟩
theorem scRulesM : FnScope ["self"] ["self"] (defScope sRulesM) := ⟨rfl, rfl, rfl, by decide +kernel, rfl, by decide +kernel, by decide +kernel⟩
theorem scEqM : FnScope ["self", "other"] ["self", "other"] (defScope sEqM) := ⟨rfl, rfl, rfl, by decide +kernel, rfl, by decide +kernel, by decide +kernel⟩
theorem ok_init {f C CV CM : Addr} {fd : FuncData} (F : Fun K "__init__" "Form.__init__" sInit f fd) (T : Bb mg) (Cc : Fm mg) (R : Er K mg CV CM) (cl : Cls K C) (nF : NoAttr K C "_fields") (nR : NoAttr K C "_rules")
    (KA : Kn P w K mg base 5 "_are_fields" ["fields"] (spAreFields K)) (KR : Kn P w K mg base 4 "_are_rules" ["fields", "rules"] (spAreRules K)) (KW : Kn P w K mg base 1 "_ways_to_fill" ["fields"] (spWays K)) (KE : Kn P w K mg base 1 "_each_once" ["rules"] (spEach K)) (KS : Kn P w K mg base 1 "in_sequence" ["fields", "facts"] (spInSeq K)) :
    FnOk P w K mg base (L2N.CX P w) 6 f fd ["self", "fields", "rules"] (spInit K C CV CM) := by
  obtain ⟨fA, fdA, GA, kA, bA, mA⟩ := KA.ex
  obtain ⟨fR, fdR, GR, kR, bR, mR⟩ := KR.ex
  obtain ⟨fW, fdW, GW, kW, bW, mW⟩ := KW.ex
  obtain ⟨fE, fdE, GE, kE, bE, mE⟩ := KE.ex
  obtain ⟨fS, fdS, GS, kS, bS, mS⟩ := KS.ex
  obtain ⟨fIv, qv, XV⟩ := R.v
  obtain ⟨fIm, qm, XN⟩ := R.m
  obtain ⟨tF, hF⟩ := Cc.mfi
  refine Fun_okN F scInit (fun vs H Q E h => ?_) (fun cdv A outer s H vs Q E hr h => ?_)
  · obtain ⟨x, dx, vF, vR, dF, dR, rfl, _⟩ := h
    rfl
  have vt_ : PySem.bootBuiltins "tuple" = some (.type "tuple") := by decide +kernel
  refine ⟨_, pss_cons (ps_if (pt_not (pt_val (pe_call GA hr rfl mA kA bA .nil pass0 (pa_cons (pv 1) pa_nil)))) (pss_one (L2N.ps_raise rfl (L2N.takes_of rfl rfl rfl rfl) (XM.pmk XV R.gv hr (pa_cons pe_int pa_nil)))) pss_nil)
    (pss_cons (ps_set (i := 3) scInit.nd rfl (.inr rfl) (pe_callTy (call_tupK K rfl) rfl T.tup vt_ (pa_cons (pe_lc (own := [("name", 4), ("values", 5)]) (g := gRow K 2 (gCons (gName 4) (gCons (gName 5) gNil))) (tt := tYes) (by rfl) scInit.nd (pi_row (pv 1)) (blkOk_by (N := ["self", "fields", "rules", "kept", "name", "values", "rule"]) (sc := defScope sInit) (by decide +kernel))
      (fun _ _ _ _ _ => pg_row rfl (pgs_cons (pg_name (i := 4) scInit.nd rfl (.inl rfl)) (pgs_cons (pg_name (i := 5) scInit.nd rfl (.inl rfl)) pgs_nil)))
      (fun _ _ _ _ _ => pts_nil)
      (fun _ _ _ _ _ => pe_tupZ (pa_cons (pv 4) (pa_cons (pe_callTy (call_tupK K rfl) rfl T.tup vt_ (pa_cons (pv 5) pa_nil)) pa_nil)))) pa_nil)))
    (pss_cons (ps_if (pt_not (pt_val (pe_call GR (hr.mono (by decide)) rfl mR kR bR .nil pass0 (pa_cons (pv 3) (pa_cons (pv 2) pa_nil))))) (pss_one (L2N.ps_raise rfl (L2N.takes_of rfl rfl rfl rfl) (XM.pmk XV R.gv hr (pa_cons pe_int pa_nil)))) pss_nil)
    (pss_cons (ps_if (pt_cmpR op_gt (pe_call GW (hr.mono (by decide)) rfl mW kW bW .nil pass0 (pa_cons (pv 3) pa_nil)) (pe_glob (v := .int 1000) (by rfl) hF ⟨_, rfl⟩) (nomark _)) (pss_one (L2N.ps_raise rfl (L2N.takes_of rfl rfl rfl rfl) (XM.pmk XN R.gm hr (pa_cons pe_str pa_nil)))) pss_nil)
    (pss_cons (ps_fld (pv 0) (pv 3) rfl)
    (pss_one (ps_fld (pv 0) (pe_call GE (hr.mono (by decide)) rfl mE kE bE .nil pass0 (pa_cons (pe_lc (own := [("rule", 6)]) (g := gName 6) (tt := tYes) (by rfl) scInit.nd (pi_row (pv 2)) (blkOk_by (N := ["self", "fields", "rules", "kept", "name", "values", "rule"]) (sc := defScope sInit) (by decide +kernel))
      (fun _ _ _ _ _ => pg_name (i := 6) scInit.nd rfl (.inl rfl)) (fun _ _ _ _ _ => pts_nil)
      (fun _ _ _ _ _ => pe_call GS (hr.mono (by decide)) rfl mS kS bS .nil pass0 (pa_cons (pv 3) (pa_cons (pv 6) pa_nil)))) pa_nil)) rfl)))))), ?_⟩
  obtain ⟨x, dx, vF, vR, dF, dR, rfl, hx, hF, hR, hs, ho, hz, k⟩ := h
  refine ⟨_, rfl, vF, dF, rfl, hF, hs, fun H1 s1 => ⟨_, rfl, ?_⟩⟩
  cases eF : areFields dF with
  | false =>
    refine iteT ⟨.int 0, rfl, fun d hd => ?_⟩
    have em : made dF dR = .bad 0 := by
      unfold made
      rw [eF]
      rfl
    rw [em] at k
    exact k d H1 s1 hd
  | true =>
    obtain ⟨fs, er, hl6, et, hnd, hgood⟩ := fields_good eF
    obtain ⟨p, ys, rfl, hq, ha⟩ := row_len (dp_same s1 hF) er
    have hlen := dps_len ha
    have hwords : ∀ e ∈ tabOf dF, word e.1 = true ∧ e.2.length ≤ 5 ∧ ∀ w ∈ e.2, word w = true := fun e he => by
      rw [et] at he
      obtain ⟨f, hf, rfl⟩ := List.mem_map.mp he
      obtain ⟨n, b, ws, _, _, g3, g4, g5, g6⟩ := field_good (hgood f hf).1 (hgood f hf).2
      rw [g6]
      exact ⟨g5, by show (textsOf ws).length ≤ 5; rw [texts_len]; exact g4, texts_word g3⟩
    have htl : (tabOf dF).length = fs.length := by rw [et, List.length_map]
    refine iteF (nxt ?_)
    dsimp only
    refine asg_tup ?_
    refine lc_row (ys := ys) (fun D i H' => ∃ (ps : List Addr) (kvs : List (Key × V)), H' D = some (.lst (ps.map V.ref)) ∧ TabR K H' ps kvs ((tabOf dF).take i) ∧ Same H1 H') (fun Q' z => ⟨_, rfl, z⟩) hq (fun D hD => ⟨[], [], upd_same, .nil, new_same hD _⟩) (fun D i H' hD hP => by obtain ⟨_, _, _, _, z⟩ := hP; exact z) (fun D i y H' hD hi hP hy => ?_) (fun D H2 hD hP => ?_)
    · obtain ⟨ps, kvs, g1, g2, g3⟩ := hP
      obtain ⟨f, hf1, hdf⟩ := dps_get ha hy
      have hfm : f ∈ fs := List.mem_of_getElem? hf1
      obtain ⟨n, b, ws, e1, e2, e3, e4, e5, e6⟩ := field_good (hgood f hfm).1 (hgood f hfm).2
      have et1 : (tabOf dF)[i]? = some (n, textsOf ws) := by
        rw [et, List.getElem?_map, hf1, ← e6]
        rfl
      obtain ⟨r, va, vb, rfl, hr2, hva, hvb⟩ := pair_at (dp_same g3 hdf) e1
      cases hva
      obtain ⟨u, zs, rfl, hzs, hzd⟩ := row_len hvb e2
      have ezs := words_vals hzd e3
      subst ezs
      have hok : ∀ w ∈ textsOf ws, PyData.strOk w = true := fun w hw => word_ok (texts_word e3 w hw)
      have hpl : ps.length ≤ 6 := by
        rw [g2.len.1, List.length_take]
        omega
      -- behind the pair, whatever the values' tuple is
      have fin : ∀ (H3 : Hp) (l : Addr), Same H' H3 → SqT K H3 l ((textsOf ws).map V.str) → ∀ z o, H3 z = none → o.dict = none → ∃ acc, (upd H3 z (.frz o (.tup [.str n, .ref l]))) D = some (.lst acc) ∧ acc.length < sizeLine ∧
          (∃ (ps : List Addr) (kvs : List (Key × V)), upd (upd H3 z (.frz o (.tup [.str n, .ref l]))) D (.lst (acc ++ [.ref z])) D = some (.lst (ps.map V.ref)) ∧ TabR K (upd (upd H3 z (.frz o (.tup [.str n, .ref l]))) D (.lst (acc ++ [.ref z]))) ps kvs ((tabOf dF).take (i + 1)) ∧ Same H1 (upd (upd H3 z (.frz o (.tup [.str n, .ref l]))) D (.lst (acc ++ [.ref z])))) := fun H3 l s3 hl z o hz0 hod => by
        have sz : Same H3 (upd H3 z (.frz o (.tup [.str n, .ref l]))) := new_same hz0 _
        have hD4 := sz _ _ (s3 _ _ g1)
        refine ⟨ps.map V.ref, hD4, small1000 (by rw [List.length_map]; omega), ps ++ [z], kvs ++ [((.inr n : Key), V.ref l)], ?_, ?_, fun b' o' y' => ?_⟩
        · rw [upd_same, List.map_append] <;> rfl
        · rw [take_one et1]
          exact TabR.off hD4 (TabR.snoc (.inl (.inr ⟨o, upd_same⟩)) (seqT_same sz hl) hok (TabR.same (s3.trans sz) g2))
        · rw [upd_ne (ne_of_none y' hD)]
          exact sz _ _ (s3 _ _ (g3 _ _ y'))
      have asg : ∀ (σ : L2.St) (Q' : L2.St → Hp → Prop), Q' ((σ.set 4 (some (.str n))).set 5 (some (.ref u))) H' → gRow K 2 (gCons (gName 4) (gCons (gName 5) gNil)) (.ref r) σ H' Q' := fun σ Q' z => by
        rcases hr2 with hr2 | hr2
        · exact .inr ⟨r, _, rfl, hr2, rfl, .str n, [.ref u], rfl, .ref u, [], rfl, rfl, z⟩
        · exact .inl ⟨r, _, rfl, hr2, rfl, .str n, [.ref u], rfl, .ref u, [], rfl, rfl, z⟩
      refine asg _ _ ⟨rfl, ?_⟩
      unfold tYes
      refine iteT ⟨_, rfl, _, rfl, u, (textsOf ws).map V.str, rfl, ?_⟩
      rcases hzs with hzs | hzs
      · exact .inl ⟨hzs, fun l o hl hod => ⟨by show 2 ≤ sizeLine; decide, fun z o' hz0 hod' => fin _ l (new_same hl _) (.inl (.inr ⟨o, upd_same⟩)) z o' hz0 hod'⟩⟩
      · exact .inr ⟨hzs, by show 2 ≤ sizeLine; decide, fun z o' hz0 hod' => fin _ u (Same.refl _) hzs z o' hz0 hod'⟩
    · obtain ⟨ps, kvs, g1, g2, g3⟩ := hP
      rw [List.take_of_length_le (by omega)] at g2
      refine ⟨D, _, rfl, .inl ⟨SqL.of g1, fun l o hl hod => ?_⟩⟩
      have sl : Same H2 (upd H2 l (.frz o (.tup (ps.map V.ref)))) := new_same hl _
      have s3 : Same H (upd H2 l (.frz o (.tup (ps.map V.ref)))) := (s1.trans g3).trans sl
      have tab3 : TabAt K (upd H2 l (.frz o (.tup (ps.map V.ref)))) l (tabOf dF) := ⟨ps, kvs, ⟨o, upd_same, hod⟩, TabR.same sl g2, hnd, by omega⟩
      refine ⟨_, rfl, _, rfl, l, tabOf dF, vR, dR, rfl, tab3, dp_same s3 hR, ho, fun H4 s4 => ⟨_, rfl, ?_⟩⟩
      cases eR : areRules (tabOf dF) dR with
      | false =>
        refine iteT ⟨.int 1, rfl, fun d hd => ?_⟩
        have em : made dF dR = .bad 1 := by
          unfold made
          rw [eF, eR]
          rfl
        rw [em] at k
        exact k d H4 (s3.trans s4) hd
      | true =>
        obtain ⟨rs, er2, hl20, eru, hrf⟩ := rules_good eR
        refine iteF (nxt ?_)
        dsimp only
        refine ⟨_, rfl, l, tabOf dF, rfl, TabAt.same s4 tab3, by omega, fun e he => (hwords e he).2.1, fun H5 s5 => ⟨_, _, rfl, rfl, _, rfl, ?_⟩⟩
        have s35 := s4.trans s5
        have s05 : Same H H5 := s3.trans s35
        by_cases hw : 1000 < waysFrom 1 (tabOf dF)
        · refine iteDT (by omega) ⟨.str "fillings", rfl, fun d hd => ?_⟩
          have em : made dF dR = .many := by
            unfold made
            rw [eF, eR, if_pos rfl, if_pos rfl, if_pos hw]
          rw [em] at k
          exact k d H5 s05 hd
        · have em : made dF dR = .form (tabOf dF) (once ((rulesOf dR).map (sorted (tabOf dF)))) := by
            unfold made
            rw [eF, eR, if_pos rfl, if_pos rfl, if_neg hw]
          have hz := hz _ _ em
          rw [em] at k
          refine iteDF (by omega) (nxt ?_)
          dsimp only
          have hx5 := s05 _ _ hx
          refine ⟨_, rfl, _, rfl, x, C, dx, [], rfl, hx5, cl, nF, by show 0 < 1000; decide, ?_⟩
          have d6 : Sd H5 (upd H5 x (.ins C dx (putF "_fields" (.ref l) []))) := sd_ins hx5
          have d06 : Sd H (upd H5 x (.ins C dx (putF "_fields" (.ref l) []))) := Sd.trans (sdOf s05) d6
          have tab6 := tab_sd (Sd.trans (sdOf s35) d6) tab3
          obtain ⟨q, ws, rds, rfl, er3, hq0, hwl, hz⟩ := hz
          rw [er2] at er3
          cases er3
          have hq6 : SqL K (upd H5 x (.ins C dx (putF "_fields" (.ref l) []))) q ws ∨ SqT K (upd H5 x (.ins C dx (putF "_fields" (.ref l) []))) q ws := hq0.elim (fun z => .inl (seq_sd d06 z)) (fun z => .inr (seqT_sd d06 z))
          -- one rule
          have one : ∀ {j : Nat} {y : V}, ws[j]? = some y → ∃ (rd : PyData) (q2 : Addr) (ps2 : List Addr) (kvs2 : List (Key × V)), rs[j]? = some rd ∧ y = .ref q2 ∧ (SqL K H q2 (ps2.map V.ref) ∨ SqZ H q2 (ps2.map V.ref)) ∧ FactR K H ps2 kvs2 (factsOf rd) ∧ ((factsOf rd).map (·.1)).Nodup ∧ RStr (factsOf rd) := fun {j y} hy => by
            have hjl : j < rs.length := by
              have := (List.getElem?_eq_some_iff.mp hy).1
              omega
            obtain ⟨rd, e1⟩ : ∃ rd, rs[j]? = some rd := ⟨_, List.getElem?_eq_getElem hjl⟩
            have hrm : rd ∈ rs := List.mem_of_getElem? e1
            obtain ⟨q2, zs, gs, rfl, hz2, eg, hzs⟩ := hz j y rd hy e1
            obtain ⟨ps2, kvs2, rfl, i1, i2, _, i4⟩ := facts_good hzs (facts_go eg (hrf rd hrm)).2
            have efo : factsOf rd = gs.map factOf := by
              unfold factsOf
              rw [eg]
            refine ⟨rd, q2, ps2, kvs2, e1, rfl, hz2, by rw [efo]; exact i1, by rw [efo]; exact i2, ?_⟩
            rw [efo]
            intro e he
            obtain ⟨vs, h1, h2⟩ := i4 e he
            have h3 := hwords _ (look_mem h1)
            exact ⟨word_ok h3.1, word_ok (h3.2.2 _ h2)⟩
          dsimp only
          refine fld_each ?_
          refine lc_row (ys := ws) (fun D j H' => ∃ zs : List Addr, H' D = some (.lst (zs.map V.ref)) ∧ Paired (RuleAt K H') zs ((rs.take j).map fun rd => sorted (tabOf dF) (factsOf rd)) ∧ Same (upd H5 x (.ins C dx (putF "_fields" (.ref l) []))) H') (fun Q' z => ⟨_, rfl, z⟩) hq6 (fun D hD => ⟨[], upd_same, .nil, new_same hD _⟩) (fun D i H' hD hP => by obtain ⟨_, _, _, z⟩ := hP; exact z) (fun D j y H' hD hj hP hy => ?_) (fun D H7 hD hP => ?_)
          · obtain ⟨zs, g1, g2, g3⟩ := hP
            obtain ⟨rd, q2, ps2, kvs2, e1, rfl, e3, e4, e5, e6⟩ := one hy
            have d7 : Sd H H' := Sd.trans d06 (sdOf g3)
            refine ⟨rfl, ?_⟩
            unfold tYes
            refine iteT ⟨_, rfl, _, rfl, l, q2, tabOf dF, ps2, kvs2, factsOf rd, rfl, TabAt.same g3 tab6, e3.elim (fun z => .inl (seq_sd d7 z)) (fun z => .inr (sqZ_sd d7 z)), factR_sd d7 e4, e5, fun z H8 s8 hru => ?_⟩
            have hD8 := s8 _ _ g1
            have hzl : zs.length ≤ 20 := by
              rw [prd_len g2, List.length_map, List.length_take]
              omega
            refine ⟨zs.map V.ref, hD8, small1000 (by rw [List.length_map]; omega), zs ++ [z], ?_, ?_, fun b o' y' => ?_⟩
            · rw [upd_same, List.map_append] <;> rfl
            · rw [take_one e1, List.map_append]
              exact rules_off hD8 (prd_snoc (rules_same s8 g2) hru)
            · rw [upd_ne (ne_of_none y' hD)]
              exact s8 _ _ (g3 _ _ y')
          · obtain ⟨zs, g1, g2, g3⟩ := hP
            rw [List.take_of_length_le (by omega)] at g2
            refine ⟨D, zs, _, rfl, SqL.of g1, g2, fun r hr => ?_, by rw [List.length_map]; omega, fun z H8 s8 hru => ?_⟩
            · obtain ⟨rd, hrd, rfl⟩ := List.mem_map.mp hr
              obtain ⟨j, hj, ej⟩ := List.mem_iff_getElem.mp hrd
              have hjw : j < ws.length := by omega
              obtain ⟨rd', _, _, _, e1, _, _, _, _, e6⟩ := one (List.getElem?_eq_getElem hjw)
              have e7 : rs[j]? = some rd := by rw [List.getElem?_eq_getElem hj, ej]
              rw [e7] at e1
              cases e1
              exact fun e he => e6 e (sorted_mem he)
            · have s68 := g3.trans s8
              have hx8 : H8 x = some (.ins C dx (putF "_fields" (.ref l) [])) := s68 _ _ upd_same
              refine ⟨_, rfl, x, C, dx, _, rfl, hx8, cl, nR, by show 1 < 1000; decide, ?_⟩
              have d9 : Sd H8 (upd H8 x (.ins C dx (putF "_rules" (.ref z) (putF "_fields" (.ref l) [])))) := sd_ins hx8
              refine k l z _ (fun b o' nb e => ?_) ⟨dx, by rw [upd_same, pf2]⟩ (tab_sd (Sd.trans (sdOf s68) d9) tab6) ?_
              · rw [upd_ne nb]
                refine s68 _ _ ?_
                rw [upd_ne nb]
                exact s05 _ _ e
              · rw [eru, List.map_map]
                exact rulesAt_sd d9 hru
end
end Q
set_option Elab.async false
set_option linter.all false
set_option maxRecDepth 100000
set_option maxHeartbeats 4000000
/-! ### fields, rules, __eq__ -/
namespace Q
open PySem L2 XD
/-- fields as data -/
def entryD (e : Str × List Str) : PyData := .tuple [.str e.1, .tuple (e.2.map PyData.str)]
def tabD (t : List (Str × List Str)) : PyData := .tuple (t.map entryD)
def rulesD (rs : List (List (Str × Str))) : PyData := .tuple (rs.map ruleD)
theorem eqvAll_strs : ∀ a b : List Str, PyData.eqvAll (a.map PyData.str) (b.map PyData.str) = decide (a = b)
  | [], [] => by simp [PyData.eqvAll]
  | [], _ :: _ => by simp [PyData.eqvAll]
  | _ :: _, [] => by simp [PyData.eqvAll]
  | x :: a, y :: b => by
    rw [List.map_cons, List.map_cons, PyData.eqvAll, eqvAll_strs a b, PyData.eqv]
    by_cases h1 : x = y
    · by_cases h2 : a = b
      · simp [h1, h2]
      · simp [h1, h2]
    · simp [h1]
theorem eqvAll_tab : ∀ a b : List (Str × List Str), PyData.eqvAll (a.map entryD) (b.map entryD) = decide (a = b)
  | [], [] => by simp [PyData.eqvAll]
  | [], _ :: _ => by simp [PyData.eqvAll]
  | _ :: _, [] => by simp [PyData.eqvAll]
  | (n, w) :: a, (m, v) :: b => by
    rw [List.map_cons, List.map_cons, PyData.eqvAll, eqvAll_tab a b]
    unfold entryD
    rw [PyData.eqv, PyData.eqvAll, PyData.eqvAll, PyData.eqvAll, PyData.eqv, PyData.eqv, eqvAll_strs]
    by_cases h1 : n = m
    · by_cases h2 : w = v
      · by_cases h3 : a = b
        · simp [h1, h2, h3]
        · simp [h1, h2, h3]
      · simp [h1, h2]
    · simp [h1]
theorem eqvAll_rules : ∀ a b : List (List (Str × Str)), PyData.eqvAll (a.map ruleD) (b.map ruleD) = decide (a = b)
  | [], [] => by simp [PyData.eqvAll]
  | [], _ :: _ => by simp [PyData.eqvAll]
  | _ :: _, [] => by simp [PyData.eqvAll]
  | x :: a, y :: b => by
    rw [List.map_cons, List.map_cons, PyData.eqvAll, eqvAll_rules a b, eqv_rule]
    by_cases h1 : x = y
    · by_cases h2 : a = b
      · simp [h1, h2]
      · simp [h1, h2]
    · simp [h1]
def TStr (t : List (Str × List Str)) : Prop := ∀ e ∈ t, PyData.strOk e.1 = true ∧ ∀ w ∈ e.2, PyData.strOk w = true
theorem strs_depth : ∀ ws : List Str, PyData.depthAll (ws.map PyData.str) = 0
  | [] => by simp [PyData.depthAll]
  | w :: ws => by simp [PyData.depthAll, PyData.depth, strs_depth ws]
theorem tab_lay : ∀ t : List (Str × List Str), TStr t → PyData.canLayAll0 (t.map entryD) = true
  | [], _ => by simp [PyData.canLayAll0]
  | e :: t, h => by
    have h1 := h e List.mem_cons_self
    rw [List.map_cons, PyData.canLayAll0, tab_lay t fun x hx => h x (List.mem_cons_of_mem _ hx), Bool.and_true]
    unfold entryD
    simp [PyData.canLay0, PyData.canLayAll0, h1.1, lay_strs e.2 h1.2]
theorem tab_depth : ∀ t : List (Str × List Str), PyData.depthAll (t.map entryD) ≤ 2
  | [] => by simp [PyData.depthAll]
  | e :: t => by
    have h1 := tab_depth t
    rw [List.map_cons, PyData.depthAll]
    have h2 : (entryD e).depth ≤ 2 := by
      unfold entryD
      simp [PyData.depth, PyData.depthAll, strs_depth]
    omega
theorem tab_shaped {t : List (Str × List Str)} (h : TStr t) : SeqAt.shaped (tabD t) = true := by
  unfold SeqAt.shaped tabD
  have h2 := tab_depth t
  rw [PyData.canLay0, tab_lay t h, Bool.true_and]
  refine decide_eq_true ?_
  rw [PyData.depth]
  omega
theorem rulesD_shaped {rs : List (List (Str × Str))} (h : ∀ r ∈ rs, RStr r) : SeqAt.shaped (rulesD rs) = true := by
  unfold SeqAt.shaped rulesD
  have h2 := rules_depth rs
  rw [PyData.canLay0, rules_lay rs h, Bool.true_and]
  refine decide_eq_true ?_
  rw [PyData.depth]
  omega
theorem tabR_dps {K : PySem.W.Frag} {H : Hp} : ∀ {ps : List Addr} {kvs : List (Key × V)} {t : List (Str × List Str)}, TabR K H ps kvs t → DpAll K H (ps.map V.ref) (t.map entryD)
  | _, _, _, .nil => .nil
  | _, _, _, .cons a b o c => .cons (.tup a (.cons (.str _) (.cons (.tup b (dps_strs _)) .nil))) (tabR_dps c)
theorem tab_dp {K : PySem.W.Frag} {H : Hp} {p : Addr} {t : List (Str × List Str)} (h : TabAt K H p t) : Dp K H (.ref p) (tabD t) := by
  obtain ⟨ps, kvs, a, b, _⟩ := h
  exact .tup a.sqT (tabR_dps b)
theorem rules_dp {K : PySem.W.Frag} {H : Hp} {p : Addr} {rs : List (List (Str × Str))} (h : RulesAt K H p rs) : Dp K H (.ref p) (rulesD rs) := by
  obtain ⟨ps, a, b⟩ := h
  exact .tup a.sqT (rules_dps b)
/-- a form stands at x -/
structure Stands (K : PySem.W.Frag) (C : Addr) (H : Hp) (x : Addr) (t : List (Str × List Str)) (rs : List (List (Str × Str))) : Prop where
  at_ : ∃ pf pr, FormAt C H x pf pr ∧ TabAt K H pf t ∧ RulesAt K H pr rs
  ts : TStr t
  rs : ∀ r ∈ rs, RStr r
def spGet (K : PySem.W.Frag) (C : Addr) (r : Bool) : Sp := fun vs H Q _ => ∃ x pf pr, vs = [.ref x] ∧ FormAt C H x pf pr ∧ Q (.ref (if r = true then pr else pf)) H
def spEq (K : PySem.W.Frag) (C : Addr) : Sp := fun vs H Q _ => ∃ x t rs v, vs = [.ref x, v] ∧ Stands K C H x t rs ∧
  ((∃ d, Dp K H v d ∧ Q (.bl false) H) ∨ ∃ y t' rs', v = .ref y ∧ Stands K C H y t' rs' ∧ Q (.bl (decide (t = t') && decide (rs = rs'))) H)
/-- what the written part says of the class -/
structure Fc (K : PySem.W.Frag) (mg : Str → Option Value) (C : Addr) : Prop where
  cl : Cls K C
  nF : NoAttr K C "_fields"
  nR : NoAttr K C "_rules"
  gF : mg "Form" = some (.ref C)
  isi : mg "isinstance" = none
  ty : ∀ {H : Hp} {x dx : Addr} {fs : List (Str × V)}, H x = some (.ins C dx fs) → TyOf K H (.ref x) (.ref C)
  self : PySem.W.kitOne K (.ref C) (.ref C) = some true
  no : ∀ d : PyData, (∀ kvs, d ≠ .dict kvs) → PySem.W.kitOne K (.type (tyName d)) (.ref C) = some false
theorem lkF {l z : Addr} : List.lookup ("_fields" : Str) [(("_fields" : Str), V.ref l), (("_rules" : Str), V.ref z)] = some (.ref l) := by
  have e : (("_fields" : Str) == "_fields") = true := by decide +kernel
  rw [List.lookup, e]
theorem lkR {l z : Addr} : List.lookup ("_rules" : Str) [(("_fields" : Str), V.ref l), (("_rules" : Str), V.ref z)] = some (.ref z) := by
  have e : (("_rules" : Str) == "_fields") = false := by decide +kernel
  have e2 : (("_rules" : Str) == "_rules") = true := by decide +kernel
  rw [List.lookup, e]
  show List.lookup ("_rules" : Str) [(("_rules" : Str), V.ref z)] = _
  rw [List.lookup, e2]
section
variable {P : Program} {w : World} {K : PySem.W.Frag} {mg : Str → Option Value} {base : Heap}
theorem ok_fieldsM {f C : Addr} {fd : FuncData} (F : Fun K "fields" "Form.fields" sFieldsM f fd) (T : Fc K mg C) : FnOk P w K mg base CX0 1 f fd ["self"] (spGet K C false) := by
  refine F.ok scFieldsM (fun vs H Q E h => ?_) (fun cdv A outer s H vs Q E hr h => ?_)
  · obtain ⟨x, pf, pr, rfl, _⟩ := h
    rfl
  obtain ⟨x, pf, pr, rfl, ⟨dx, hx⟩, k⟩ := h
  refine ⟨_, pss_one (ps_ret (pe_fld (pv 0) rfl)), ?_⟩
  exact ⟨_, rfl, x, C, dx, _, _, rfl, hx, T.cl, T.nF, lkF, k⟩
theorem ok_rulesM {f C : Addr} {fd : FuncData} (F : Fun K "rules" "Form.rules" sRulesM f fd) (T : Fc K mg C) : FnOk P w K mg base CX0 1 f fd ["self"] (spGet K C true) := by
  refine F.ok scRulesM (fun vs H Q E h => ?_) (fun cdv A outer s H vs Q E hr h => ?_)
  · obtain ⟨x, pf, pr, rfl, _⟩ := h
    rfl
  obtain ⟨x, pf, pr, rfl, ⟨dx, hx⟩, k⟩ := h
  refine ⟨_, pss_one (ps_ret (pe_fld (pv 0) rfl)), ?_⟩
  exact ⟨_, rfl, x, C, dx, _, _, rfl, hx, T.cl, T.nR, lkR, k⟩
theorem ok_eqM {f C : Addr} {fd : FuncData} (F : Fun K "__eq__" "Form.__eq__" sEqM f fd) (T : Fc K mg C) : FnOk P w K mg base CX0 1 f fd ["self", "other"] (spEq K C) := by
  refine F.ok scEqM (fun vs H Q E h => ?_) (fun cdv A outer s H vs Q E hr h => ?_)
  · obtain ⟨x, t, rs, v, rfl, _⟩ := h
    rfl
  obtain ⟨x, t, rs, v, rfl, ⟨⟨pf, pr, ⟨dx, hx⟩, h2, h3⟩, hts, hrs⟩, k⟩ := h
  have hu := hr.units
  refine ⟨_, pss_one (ps_ret (pe_and (pe_callB call_isi rfl T.isi (by decide +kernel) (pa_cons (pv 1) (pa_cons (pe_glob (v := .ref C) (by rfl) T.gF rfl) pa_nil)))
    (pe_and (pe_cmpR (op_eqD hu) (pe_fld (pv 0) rfl) (pe_fld (pv 1) rfl) (nomark _)) (pe_one (pe_cmpR (op_eqD hu) (pe_fld (pv 0) rfl) (pe_fld (pv 1) rfl) (nomark _)))))), ?_⟩
  rcases k with ⟨d, hd, k⟩ | ⟨y, t', rs', rfl, ⟨⟨pf', pr', ⟨dx', hx'⟩, h2', h3'⟩, hts', hrs'⟩, k⟩
  · exact ⟨_, rfl, _, _, _, _, _, rfl, .own C, tyD hd, T.no d (dp_no_dict hd), _, rfl, iteF k⟩
  · refine ⟨_, rfl, _, _, _, _, _, rfl, .own C, .base (T.ty hx'), T.self, _, rfl, iteT ?_⟩
    refine ⟨_, rfl, x, C, dx, _, _, rfl, hx, T.cl, T.nF, lkF, _, rfl, y, C, dx', _, _, rfl, hx', T.cl, T.nF, lkF, tabD t, tabD t', tab_dp h2, tab_dp h2', tab_shaped hts, tab_shaped hts', _, rfl, ?_⟩
    have e1 : PyData.eqv (tabD t) (tabD t') = decide (t = t') := by
      unfold tabD
      rw [PyData.eqv]
      exact eqvAll_tab t t'
    have e2 : PyData.eqv (rulesD rs) (rulesD rs') = decide (rs = rs') := by
      unfold rulesD
      rw [PyData.eqv]
      exact eqvAll_rules rs rs'
    rw [e1]
    by_cases g : t = t'
    · rw [decide_eq_true g, Bool.true_and] at k
      refine iteDT g ⟨_, rfl, x, C, dx, _, _, rfl, hx, T.cl, T.nR, lkR, _, rfl, y, C, dx', _, _, rfl, hx', T.cl, T.nR, lkR, rulesD rs, rulesD rs', rules_dp h3, rules_dp h3', rulesD_shaped hrs, rulesD_shaped hrs', ?_⟩
      rw [e2]
      exact k
    · rw [decide_eq_false g, Bool.false_and] at k
      exact iteDF g k
end
end Q
set_option Elab.async false
set_option linter.all false
set_option maxRecDepth 100000
set_option maxHeartbeats 4000000
namespace Q
open PySem L2
end Q
/-! ### the flow: a list of the script's copy and five ints -/
namespace Q
open PySem L2
def fl (b : Addr) (p s c m w : Int) : List V := [.ref b, .int p, .int s, .int c, .int m, .int w]
/-- a flow at a: its copy of the script at b -/
structure Fx (H : Hp) (a b : Addr) (ns : List Int) (p s c m w : Int) : Prop where
  at_ : H a = some (.lst (fl b p s c m w))
  ls : H b = some (.lst (ns.map V.int))
  pos : 0 ≤ p
/-- .. whose copy of the script is b -/
def Flw (b : Addr) (H : Hp) (a : Addr) : Prop := ∃ (ns : List Int) (p s c m w : Int), Fx H a b ns p s c m w
/-- all but a stands -/
def Kept (a : Addr) (H H' : Hp) : Prop := ∀ x o, x ≠ a → H x = some o → H' x = some o
theorem Kept.refl {a : Addr} {H : Hp} : Kept a H H := fun _ _ _ e => e
theorem Kept.trans {a : Addr} {H H1 H2 : Hp} (k : Kept a H H1) (l : Kept a H1 H2) : Kept a H H2 := fun x o n e => l x o n (k x o n e)
theorem Kept.upd {a : Addr} {H : Hp} {o : HO} : Kept a H (upd H a o) := fun x u n e => by
  rw [upd_ne n]
  exact e
theorem Fx.ne {H : Hp} {a b : Addr} {ns : List Int} {p s c m w : Int} (F : Fx H a b ns p s c m w) : b ≠ a := fun e => by
  have h := F.ls
  rw [e, F.at_] at h
  have q : (fl b p s c m w) = ns.map V.int := HO.lst.inj (Option.some.inj h)
  cases ns with
  | nil => cases q
  | cons x r =>
    have z := (List.cons.inj q).1
    cases z
theorem Fx.put {H : Hp} {a b : Addr} {ns : List Int} {p s c m w p' s' c' m' w' : Int} (F : Fx H a b ns p s c m w) (h : 0 ≤ p') : Fx (upd H a (.lst (fl b p' s' c' m' w'))) a b ns p' s' c' m' w' :=
  ⟨upd_same, by rw [upd_ne F.ne]; exact F.ls, h⟩
theorem Fx.kept {H H' : Hp} {a b : Addr} {ns : List Int} {p s c m w : Int} (F : Fx H a b ns p s c m w) (k : Same H H') : Fx H' a b ns p s c m w :=
  ⟨k _ _ F.at_, k _ _ F.ls, F.pos⟩
theorem Flw.same {H H' : Hp} {a b : Addr} (F : Flw b H a) (k : Same H H') : Flw b H' a := by
  obtain ⟨ns, p, s, c, m, w, F⟩ := F
  exact ⟨ns, p, s, c, m, w, F.kept k⟩
theorem Kept.of_same {a : Addr} {H H' : Hp} (k : Same H H') : Kept a H H' := fun x o _ e => k x o e
theorem fl0 {b : Addr} {p s c m w : Int} : atI (fl b p s c m w) 0 = some (.ref b) := rfl
theorem fl1 {b : Addr} {p s c m w : Int} : atI (fl b p s c m w) 1 = some (.int p) := rfl
theorem fl2 {b : Addr} {p s c m w : Int} : atI (fl b p s c m w) 2 = some (.int s) := rfl
theorem fl3 {b : Addr} {p s c m w : Int} : atI (fl b p s c m w) 3 = some (.int c) := rfl
theorem fl4 {b : Addr} {p s c m w : Int} : atI (fl b p s c m w) 4 = some (.int m) := rfl
theorem fl5 {b : Addr} {p s c m w : Int} : atI (fl b p s c m w) 5 = some (.int w) := rfl
/-! ### promises -/
def spFlow (K : PySem.W.Frag) : Sp := fun vs H Q _ => ∃ (a : Addr) (ns : List Int), vs = [.ref a] ∧ SqL K H a (ns.map V.int) ∧
  ∀ (f b : Addr) (H' : Hp), Same H H' → Flw b H' f → H f = none → H b = none → Q (.ref f) H'
def spLoad : Sp := fun vs H Q _ => ∃ a b, vs = [.ref a] ∧ Flw b H a ∧ ∀ H', Flw b H' a → Kept a H H' → Q .non H'
def spDraw : Sp := fun vs H Q _ => ∃ (a b : Addr) (n : Int), vs = [.ref a, .int n] ∧ Flw b H a ∧ n.natAbs < 2 ^ 200 ∧
  ∀ (r : Int) (H' : Hp), 0 ≤ r → r < (if n > 1 then n else 1) → Flw b H' a → Kept a H H' → Q (.int r) H'
def spPick : Sp := fun vs H Q _ => ∃ (a b t : Addr) (xs : List V), vs = [.ref a, .ref t] ∧ Flw b H a ∧ H t = some (.lst xs) ∧ t ≠ a ∧ 0 < xs.length ∧ xs.length ≤ 1000 ∧
  ∀ (x : V) (H' : Hp), x ∈ xs → Flw b H' a → Kept a H H' → Q x H'
structure Bt (mg : Str → Option Value) : Prop where
  int : mg "int" = none
  list : mg "list" = none
  len : mg "len" = none
  abs : mg "abs" = none
  max : mg "max" = none
section
variable {P : Program} {w : World} {K : PySem.W.Frag} {mg : Str → Option Value} {base : Heap}
theorem scFlow : FnScope ["script", "mixed", "cell"] ["script"] (defScope sFlow) := ⟨rfl, rfl, rfl, by decide +kernel, rfl, by decide +kernel, by decide +kernel⟩
theorem ok_flow {f : Addr} {fd : FuncData} (F : Fun K "_law_flow" "_law_flow" sFlow f fd) (T : Bt mg) : FnOk P w K mg base CX0 1 f fd ["script"] (spFlow K) := by
  refine F.ok scFlow (fun vs H Q E h => ?_) (fun cdv A outer s H vs Q E hr h => ?_)
  · obtain ⟨a, ns, rfl, _⟩ := h
    rfl
  obtain ⟨a, ns, rfl, hS, k⟩ := h
  refine ⟨_, pss_cons (ps_set (i := 1) scFlow.nd rfl (.inl rfl) pe_int)
    (pss_cons (ps_for PassesOwn.never rfl (pi_list (pv 0)) (pg_name (i := 2) scFlow.nd rfl (.inl rfl))
      (pss_one (ps_set (i := 1) scFlow.nd rfl (.inl rfl) (pe_op op_mod (pe_callTy call_int1 rfl T.int (by decide +kernel) (pa_cons (pe_op op_add (pe_op op_mul (pv 1) pe_int) (pe_callTy call_int1 rfl T.int (by decide +kernel) (pa_cons (pv 2) pa_nil))) pa_nil)) pe_int))))
    (pss_one (ps_ret (pe_lst (pa_cons (pe_callTy call_list_of rfl T.list (by decide +kernel) (pa_cons (pv 0) pa_nil)) (pa_cons pe_int (pa_cons pe_int (pa_cons pe_int (pa_cons (pv 1) (pa_cons pe_int pa_nil)))))))))), ?_⟩
  refine ⟨_, rfl, a, rfl, ⟨_, hS⟩, for_list (K := K) (a := a) (xs := ns.map V.int) (fun i σ H' => ∃ (m : Int) (v : Option V), σ = [some (.ref a), some (.int m), v] ∧ Same H H')
    ⟨1, none, rfl, Same.refl H⟩ (fun i σ H' _ ⟨_, _, _, s5⟩ => s5.seq hS) ?_ ?_⟩
  · rintro i y σ H' hi ⟨m, v, rfl, s5⟩
    obtain ⟨z, hz, rfl⟩ : ∃ z, ns[i]? = some z ∧ y = V.int z := by
      rw [List.getElem?_map] at hi
      obtain ⟨z, hz, e⟩ := Option.map_eq_some_iff.mp hi
      exact ⟨z, hz, e.symm⟩
    refine ⟨_, rfl, _, _, rfl, rfl, .inr ⟨by decide, by decide⟩, _, rfl, .inl ⟨_, rfl, _, _, rfl, rfl, .inl ⟨_, rfl, _, _, rfl, rfl, (by show (0 : Int) < 2147483647; decide), ?_⟩⟩⟩
    exact ⟨_, _, rfl, s5⟩
  · rintro σ H' ⟨m, v, rfl, s5⟩
    refine ⟨_, rfl, a, _, rfl, .inl (s5.seq hS), fun b hb => ⟨_, rfl, (by show 6 ≤ sizeLine; decide), fun p hp => ?_⟩⟩
    have nb : b ≠ p := fun e => by
      rw [← e, upd_same] at hp
      cases hp
    have hp' : H' p = none := by
      by_cases e : p = b
      · rw [e, upd_same] at hp
        cases hp
      · rwa [upd_ne e] at hp
    refine k p b _ (fun x o e => ?_) ⟨ns, 0, 0, 0, m, 0, upd_same, by rw [upd_ne nb, upd_same], Int.le_refl 0⟩ (s5.free hp') (s5.free hb)
    rw [upd_ne (ne_of_none (s5 _ _ e) hp'), upd_ne (ne_of_none (s5 _ _ e) hb)]
    exact s5 _ _ e
theorem scLoad : FnScope ["flow", "cell"] ["flow"] (defScope sLoad) := ⟨rfl, rfl, rfl, by decide +kernel, rfl, by decide +kernel, by decide +kernel⟩
theorem ok_load {f : Addr} {fd : FuncData} (F : Fun K "_law_load" "_law_load" sLoad f fd) (T : Bt mg) : FnOk P w K mg base CX0 1 f fd ["flow"] spLoad := by
  refine F.ok scLoad (fun vs H Q E h => ?_) (fun cdv A outer s H vs Q E hr h => ?_)
  · obtain ⟨a, b, rfl, _⟩ := h
    rfl
  obtain ⟨a, b, rfl, ⟨ns, p, s0, c, m, wd, Z⟩, k⟩ := h
  refine ⟨_, pss_cons (ps_if (pt_cmpR op_ge (pe_ix ix_list (pv 0) pe_int (fun _ _ => rfl)) (pe_callB call_len_seq rfl T.len PySem.boot_len (pa_cons (pe_ix ix_list (pv 0) pe_int (fun _ _ => rfl)) pa_nil)) (nomark _))
      (pss_cons (ps_asg pe_int (pg_sub (pv 0) pe_int set_list)) (pss_cons (ps_asg pe_int (pg_sub (pv 0) pe_int set_list)) (pss_cons (ps_asg pe_int (pg_sub (pv 0) pe_int set_list)) (pss_one ps_retN)))) pss_nil)
    (pss_cons (ps_set (i := 1) scLoad.nd rfl (.inl rfl) (pe_callTy call_int1 rfl T.int (by decide +kernel) (pa_cons (pe_ix ix_list (pe_ix ix_list (pv 0) pe_int (fun _ _ => rfl)) (pe_ix ix_list (pv 0) pe_int (fun _ _ => rfl)) (fun _ _ => rfl)) pa_nil)))
    (pss_cons (ps_asg (pe_op op_add (pe_ix ix_list (pv 0) pe_int (fun _ _ => rfl)) pe_int) (pg_sub (pv 0) pe_int set_list))
    (pss_cons (ps_asg (pe_op op_fdiv (pe_callB call_abs rfl T.abs (by decide +kernel) (pa_cons (pv 1) pa_nil)) pe_int) (pg_sub (pv 0) pe_int set_list))
    (pss_cons (ps_asg pe_int (pg_sub (pv 0) pe_int set_list))
    (pss_cons (ps_asg (pe_op op_mod (pe_callTy call_int1 rfl T.int (by decide +kernel) (pa_cons (pv 1) pa_nil)) pe_int) (pg_sub (pv 0) pe_int set_list))
    (pss_one (ps_if (pt_cmpR op_eq (pe_ix ix_list (pv 0) pe_int (fun _ _ => rfl)) pe_int (nomark _))
      (pss_cons (ps_asg (pe_op op_mod (pe_callTy call_int1 rfl T.int (by decide +kernel) (pa_cons (pe_ix ix_list (pv 0) pe_int (fun _ _ => rfl)) pa_nil)) pe_int) (pg_sub (pv 0) pe_int set_list)) (pss_one (ps_asg pe_int (pg_sub (pv 0) pe_int set_list)))) pss_nil))))))), ?_⟩
  refine ⟨_, rfl, a, _, _, _, rfl, rfl, SqL.of Z.at_, fl1, _, rfl, a, _, _, _, rfl, rfl, SqL.of Z.at_, fl0, b, _, rfl, .inl (SqL.of Z.ls), _, _, rfl, rfl, _, rfl, ?_⟩
  refine ite2 (fun q => ?_) (fun q => ?_)
  · have Z1 := Z.put (p' := p) (s' := 40503) (c' := c) (m' := m) (w' := wd) Z.pos
    have Z2 := Z1.put (p' := p) (s' := 40503) (c' := 1000) (m' := m) (w' := wd) Z.pos
    have Z3 := Z2.put (p' := p) (s' := 40503) (c' := 1000) (m' := m) (w' := 1) Z.pos
    refine ⟨_, rfl, a, _, _, _, rfl, rfl, Z.at_, rfl, _, rfl, a, _, _, _, rfl, rfl, Z1.at_, rfl, _, rfl, a, _, _, _, rfl, rfl, Z2.at_, rfl, ?_⟩
    exact k _ ⟨_, _, _, _, _, _, Z3⟩ (Kept.upd.trans (Kept.upd.trans Kept.upd))
  · have q2 : ¬ ((ns.map V.int).length : Int) ≤ p := of_decide_eq_false (Bool.eq_false_iff.mpr q)
    rw [List.length_map] at q2
    have h0 := Z.pos
    have lt : p.toNat < ns.length := by omega
    have ep : p = ((p.toNat : Nat) : Int) := by omega
    have at1 : atI (ns.map V.int) p = some (.int ns[p.toNat]) := by
      exact at_of ep (by rw [List.getElem?_map, List.getElem?_eq_getElem lt] <;> rfl)
    generalize ns[p.toNat] = z at at1
    have Z1 := Z.put (p' := p + 1) (s' := s0) (c' := c) (m' := m) (w' := wd) (by omega)
    have Z2 := Z1.put (p' := p + 1) (s' := (if z < 0 then -z else z) / 2) (c' := c) (m' := m) (w' := wd) (by omega)
    have Z3 := Z2.put (p' := p + 1) (s' := (if z < 0 then -z else z) / 2) (c' := 60) (m' := m) (w' := wd) (by omega)
    have Z4 := Z3.put (p' := p + 1) (s' := (if z < 0 then -z else z) / 2) (c' := 60) (m' := m) (w' := z % 2) (by omega)
    have Z5 := Z4.put (p' := p + 1) (s' := (if z < 0 then -z else z) / 2 % 2147483629) (c' := 60) (m' := m) (w' := z % 2) (by omega)
    have Z6 := Z5.put (p' := p + 1) (s' := (if z < 0 then -z else z) / 2 % 2147483629) (c' := 6) (m' := m) (w' := z % 2) (by omega)
    refine ⟨_, rfl, a, _, _, _, rfl, rfl, SqL.of Z.at_, fl0, _, rfl, a, _, _, _, rfl, rfl, SqL.of Z.at_, fl1, b, _, _, _, rfl, rfl, SqL.of Z.ls, at1, .inl ⟨_, rfl, ?_⟩⟩
    refine ⟨_, rfl, a, _, _, _, rfl, rfl, SqL.of Z.at_, fl1, _, _, rfl, rfl, _, rfl, a, _, _, _, rfl, rfl, Z.at_, rfl, ?_⟩
    refine ⟨_, rfl, _, rfl, _, _, rfl, rfl, ⟨by decide, by decide⟩, _, rfl, a, _, _, _, rfl, rfl, Z1.at_, rfl, ?_⟩
    refine ⟨_, rfl, a, _, _, _, rfl, rfl, Z2.at_, rfl, ?_⟩
    refine ⟨_, rfl, .inl ⟨_, rfl, _, _, rfl, rfl, (by show (0 : Int) < 2; decide), _, rfl, a, _, _, _, rfl, rfl, Z3.at_, rfl, ?_⟩⟩
    refine ⟨_, rfl, a, _, _, _, rfl, rfl, SqL.of Z4.at_, fl5, rfl, _, rfl, ?_⟩
    refine ite2 (fun _ => ?_) (fun _ => ?_)
    · refine ⟨_, rfl, a, _, _, _, rfl, rfl, SqL.of Z4.at_, fl2, .inl ⟨_, rfl, _, _, rfl, rfl, (by show (0 : Int) < 2147483629; decide), _, rfl, a, _, _, _, rfl, rfl, Z4.at_, rfl, ?_⟩⟩
      refine ⟨_, rfl, a, _, _, _, rfl, rfl, Z5.at_, rfl, ?_⟩
      exact k _ ⟨_, _, _, _, _, _, Z6⟩ (Kept.upd.trans (Kept.upd.trans (Kept.upd.trans (Kept.upd.trans (Kept.upd.trans Kept.upd)))))
    · exact k _ ⟨_, _, _, _, _, _, Z4⟩ (Kept.upd.trans (Kept.upd.trans (Kept.upd.trans Kept.upd)))
/-- what a draw of n is below -/
def lim (n : Int) : Int := if n > 1 then n else 1
theorem lim_pos (n : Int) : 0 < lim n := by
  unfold lim
  split <;> omega
theorem lim_small {n : Int} (h : n.natAbs < 2 ^ 200) : (lim n).natAbs < 2 ^ 200 := by
  unfold lim
  split
  · exact h
  · exact (by decide : (1 : Int).natAbs < 2 ^ 200)
theorem scDraw : FnScope ["flow", "many", "drawn"] ["flow", "many"] (defScope sDraw) := ⟨rfl, rfl, rfl, by decide +kernel, rfl, by decide +kernel, by decide +kernel⟩
theorem ok_draw {f fL : Addr} {fd fdL : FuncData} (F : Fun K "_law_draw" "_law_draw" sDraw f fd) (T : Bt mg) (FL : Fun K "_law_load" "_law_load" sLoad fL fdL) (bL : Binds K fdL ["flow"] []) (mL : mg "_law_load" = some (.ref fL)) :
    FnOk P w K mg base CX0 2 f fd ["flow", "many"] spDraw := by
  have GL : FnOk P w K mg base CX0 1 fL fdL ["flow"] spLoad := ok_load FL T
  refine F.ok scDraw (fun vs H Q E h => ?_) (fun cdv A outer s H vs Q E hr h => ?_)
  · obtain ⟨a, b, n, rfl, _⟩ := h
    rfl
  obtain ⟨a, b, n, rfl, Fl, hn, k⟩ := h
  refine ⟨_, pss_cons (ps_if (pt_cmpR op_eq (pe_ix ix_list (pv 0) pe_int (fun _ _ => rfl)) pe_int (nomark _)) (pss_one (ps_expr (pe_call GL hr rfl mL FL.kp bL .nil pass0 (pa_cons (pv 0) pa_nil)))) pss_nil)
    (pss_cons (ps_asg (pe_op op_sub (pe_ix ix_list (pv 0) pe_int (fun _ _ => rfl)) pe_int) (pg_sub (pv 0) pe_int set_list))
    (pss_cons (ps_if (pt_cmpR op_eq (pe_ix ix_list (pv 0) pe_int (fun _ _ => rfl)) pe_int (nomark _))
      (pss_cons (ps_asg (pe_op op_mod (pe_callTy call_int1 rfl T.int (by decide +kernel) (pa_cons (pe_op op_add (pe_op op_add (pe_op op_mul (pe_ix ix_list (pv 0) pe_int (fun _ _ => rfl)) pe_int) (pe_ix ix_list (pv 0) pe_int (fun _ _ => rfl))) pe_int) pa_nil)) pe_int) (pg_sub (pv 0) pe_int set_list))
      (pss_one (ps_ret (pe_op op_mod (pe_callTy call_int1 rfl T.int (by decide +kernel) (pa_cons (pe_op op_fdiv (pe_ix ix_list (pv 0) pe_int (fun _ _ => rfl)) pe_int) pa_nil)) (pe_callB (call_max2 rfl) rfl T.max (by decide +kernel) (pa_cons pe_int (pa_cons (pv 1) pa_nil))))))) pss_nil)
    (pss_cons (ps_set (i := 2) scDraw.nd rfl (.inl rfl) (pe_op op_mod (pe_callTy call_int1 rfl T.int (by decide +kernel) (pa_cons (pe_ix ix_list (pv 0) pe_int (fun _ _ => rfl)) pa_nil)) (pe_callB (call_max2 rfl) rfl T.max (by decide +kernel) (pa_cons pe_int (pa_cons (pv 1) pa_nil)))))
    (pss_cons (ps_asg (pe_op op_fdivW (pe_ix ix_list (pv 0) pe_int (fun _ _ => rfl)) (pe_callB (call_max2 rfl) rfl T.max (by decide +kernel) (pa_cons pe_int (pa_cons (pv 1) pa_nil)))) (pg_sub (pv 0) pe_int set_list))
    (pss_cons (ps_if (pt_cmpR op_eq (pe_ix ix_list (pv 0) pe_int (fun _ _ => rfl)) pe_int (nomark _)) (pss_one (ps_asg pe_int (pg_sub (pv 0) pe_int set_list))) pss_nil)
    (pss_one (ps_ret (pv 2)))))))), ?_⟩
  have small : lim n = (if n > 1 then n else 1) := rfl
  obtain ⟨ns0, p0, t0, c0, m0, w0, Z0⟩ := id Fl
  refine ⟨_, rfl, a, _, _, _, rfl, rfl, SqL.of Z0.at_, fl3, rfl, _, rfl, ?_⟩
  refine ite2 (fun _ => ⟨_, rfl, a, b, rfl, Fl, fun H1 F1 k1 => ?_⟩) (fun _ => ?_)
  rotate_left
  have F1 := Fl
  have k1 : Kept a H H := Kept.refl
  rotate_right
  all_goals
    clear Z0
    obtain ⟨ns, p, t, c, m, wd, Z⟩ := F1
    have h0 := Z.pos
    have Z1 := Z.put (p' := p) (s' := t) (c' := c - 1) (m' := m) (w' := wd) h0
    have k2 := k1.trans (Kept.upd (o := .lst (fl b p t (c - 1) m wd)))
    refine ⟨_, rfl, a, _, _, _, rfl, rfl, SqL.of Z.at_, fl3, _, _, rfl, rfl, _, rfl, a, _, _, _, rfl, rfl, Z.at_, rfl, ?_⟩
    refine ⟨_, rfl, a, _, _, _, rfl, rfl, SqL.of Z1.at_, fl5, rfl, _, rfl, ?_⟩
    refine ite2 (fun _ => ?_) (fun _ => ?_)
    · have Z2 := Z1.put (p' := p) (s' := t) (c' := c - 1) (m' := (m * 48271 + t + 12345) % 2147483647) (w' := wd) h0
      refine ⟨_, rfl, a, _, _, _, rfl, rfl, SqL.of Z1.at_, fl4, _, _, rfl, rfl, .inr ⟨by decide, by decide⟩, _, rfl, a, _, _, _, rfl, rfl, SqL.of Z1.at_, fl2, _, _, rfl, rfl, _, _, rfl, rfl, .inl ⟨_, rfl, _, _, rfl, rfl, (by show (0 : Int) < 2147483647; decide), _, rfl, a, _, _, _, rfl, rfl, Z1.at_, rfl, ?_⟩⟩
      refine ⟨_, rfl, a, _, _, _, rfl, rfl, SqL.of Z2.at_, fl4, _, _, rfl, rfl, ⟨by decide, by decide⟩, .inl ⟨_, rfl, _, rfl, _, _, rfl, _, _, rfl, rfl, lim_pos n, ?_⟩⟩
      exact k _ _ (Int.emod_nonneg _ (Int.ne_of_gt (lim_pos n))) (Int.emod_lt_of_pos _ (lim_pos n)) ⟨_, _, _, _, _, _, Z2⟩ (k2.trans Kept.upd)
    · have Z2 := Z1.put (p' := p) (s' := t / lim n) (c' := c - 1) (m' := m) (w' := wd) h0
      have Z3 := Z2.put (p' := p) (s' := t / lim n) (c' := 0) (m' := m) (w' := wd) h0
      refine ⟨_, rfl, a, _, _, _, rfl, rfl, SqL.of Z1.at_, fl2, .inl ⟨_, rfl, _, rfl, _, _, rfl, _, _, rfl, rfl, lim_pos n, ?_⟩⟩
      refine ⟨_, rfl, a, _, _, _, rfl, rfl, SqL.of Z1.at_, fl2, _, rfl, _, _, rfl, _, _, rfl, rfl, wide_div (lim_pos n) (lim_small hn) (by decide) (by decide), _, rfl, a, _, _, _, rfl, rfl, Z1.at_, rfl, ?_⟩
      refine ⟨_, rfl, a, _, _, _, rfl, rfl, SqL.of Z2.at_, fl2, rfl, _, rfl, ?_⟩
      refine ite2 (fun _ => ⟨_, rfl, a, _, _, _, rfl, rfl, Z2.at_, rfl, _, rfl, ?_⟩) (fun _ => ⟨_, rfl, ?_⟩)
      · exact k _ _ (Int.emod_nonneg _ (Int.ne_of_gt (lim_pos n))) (Int.emod_lt_of_pos _ (lim_pos n)) ⟨_, _, _, _, _, _, Z3⟩ (k2.trans (Kept.upd.trans Kept.upd))
      · exact k _ _ (Int.emod_nonneg _ (Int.ne_of_gt (lim_pos n))) (Int.emod_lt_of_pos _ (lim_pos n)) ⟨_, _, _, _, _, _, Z2⟩ (k2.trans Kept.upd)
theorem scPick : FnScope ["flow", "things"] ["flow", "things"] (defScope sPick) := ⟨rfl, rfl, rfl, by decide +kernel, rfl, by decide +kernel, by decide +kernel⟩
theorem ok_pick {f fD : Addr} {fd fdD : FuncData} (F : Fun K "_law_pick" "_law_pick" sPick f fd) (T : Bt mg) (GD : FnOk P w K mg base CX0 2 fD fdD ["flow", "many"] spDraw) (FD : PySem.W.keepIn K (.ref fD) = true) (bD : Binds K fdD ["flow", "many"] []) (mD : mg "_law_draw" = some (.ref fD)) :
    FnOk P w K mg base CX0 3 f fd ["flow", "things"] spPick := by
  refine F.ok scPick (fun vs H Q E h => ?_) (fun cdv A outer s H vs Q E hr h => ?_)
  · obtain ⟨a, b, t, xs, rfl, _⟩ := h
    rfl
  obtain ⟨a, b, t, xs, rfl, Fl, ht, ne, hl, hm, k⟩ := h
  refine ⟨_, pss_one (ps_ret (pe_ix ix_list (pv 1) (pe_call GD hr rfl mD FD bD .nil pass0 (pa_cons (pv 0) (pa_cons (pe_callB call_len_seq rfl T.len PySem.boot_len (pa_cons (pv 1) pa_nil)) pa_nil))) (fun _ _ => rfl))), ?_⟩
  refine ⟨_, rfl, _, rfl, _, rfl, t, _, rfl, .inl (SqL.of ht), a, b, _, rfl, Fl, ?_, fun r H' h0 h1 F1 k1 => ?_⟩
  · have : (1000 : Nat) < 2 ^ 200 := by decide
    omega
  · have h2 : r < (xs.length : Int) := by
      have : r < (if (xs.length : Int) > 1 then (xs.length : Int) else 1) := h1
      split at this <;> omega
    have lt : r.toNat < xs.length := by omega
    exact ⟨t, _, _, _, rfl, rfl, SqL.of (k1 _ _ ne ht), at_of (by omega : r = ((r.toNat : Nat) : Int)) (List.getElem?_eq_getElem lt), k _ _ (List.getElem_mem lt) F1 k1⟩
end
end Q
set_option Elab.async false
set_option linter.all false
set_option maxRecDepth 100000
set_option maxHeartbeats 4000000
/-! C(..) of an own class whose __init__ may let errors out, told by the slots at the call: within a try. -/
namespace XK
open PySem PySem.Spec PyProof.Rows L2
def tMakeS (C : Addr) (sp : Sp) (E : L2.St → XK) (t : TA) : TE := fun σ H Q => t σ H fun vs H1 => ∀ x dx, H1 x = none → H1 dx = none → dx ≠ x →
  sp (.ref x :: vs) (upd (upd H1 dx (.own x)) x (.ins C dx [])) (fun v H2 => v = .non ∧ Q (.ref x) H2) (E σ)
section
variable {X : Cx} {CX : CXT} {k : Nat} {f C : Addr} {fd : FuncData} {ps : List Str} {sp : Sp} {E : L2.St → XK} {x : Str} {p pos : Pos} {e : Expr} {es : List Expr} {t : TA}
theorem run_makeS {pins : List (Addr × Obj)} {σ : L2.St} {H : Hp} {s : Shared} {Q : VK} {us : List Value} {vs : List V} (M : Mk X.K C f) (F : FnOk X.prog X.w X.K X.mg X.base CX k f fd ps sp) (hr : Room (k + 1) X.A) (hb : Binds X.K fd ps [])
    (hx : PassesAt CX X σ (E σ)) (I : Inv X pins σ H s) (r : Vals vs us)
    (h : ∀ x dx, H x = none → H dx = none → dx ≠ x → sp (.ref x :: vs) (upd (upd H dx (.own x)) x (.ins C dx [])) (fun v H2 => v = .non ∧ Q (.ref x) H2) (E σ)) :
    wpAny (model X.prog X.w) X.A (call (.ref C) us) (EP X pins σ Q) X.xe s := by
  have hq := h (s.heap.objs.size + 1) s.heap.objs.size (I.hok.fresh (Nat.le_succ _)) (I.hok.fresh (Nat.le_refl _)) (Nat.ne_of_lt (Nat.lt_succ_self _))
  have I2 := Inv.made (C := C) I
  have r2 : Vals (V.ref (s.heap.objs.size + 1) :: vs) (Value.ref (s.heap.objs.size + 1) :: us) := .cons rfl r
  have hl : (Value.ref (s.heap.objs.size + 1) :: us).length = ps.length := by
    have e := r2.length
    rw [F.len _ _ _ _ hq] at e
    exact e.symm
  have b := fun s1 kin => hb s1 (Value.ref (s.heap.objs.size + 1) :: us) kin (by rw [List.append_nil]; exact hl)
  rw [List.append_nil] at b
  refine wpAny_call (make_map (f := f) I.kIn M.makes M.init (beq_iff_eq.mp M.fn) (codeAny_mono (F.run _ X.stack _ _ ⟨Value.ref (s.heap.objs.size + 1) :: us, []⟩ (Value.ref (s.heap.objs.size + 1) :: us) _ _ (E σ) (hr.make C us [])
    (I2.env0.make C us []) (b _ I2.kIn) r2 hq) fun r s' hq' => ?_))
  cases r with
  | error e => exact hx pins _ _ e s' I2 hq'
  | ok fl =>
    cases fl with
    | ret u =>
      obtain ⟨v, H', I3, rv, ev, q3⟩ := I2.after hq'
      subst ev
      exact ⟨rv, ⟨V.ref (s.heap.objs.size + 1), H', I3, rfl, q3⟩⟩
    | next => exact False.elim hq'
    | brk => exact False.elim hq'
    | cont => exact False.elim hq'
theorem pe_makeS (M : Mk X.K C f) (F : FnOk X.prog X.w X.K X.mg X.base CX k f fd ps sp) (hr : Room (k + 1) X.A) (hg : Gl X x) (hm : X.mg x = some (.ref C)) (hb : Binds X.K fd ps []) (hx : ∀ σ, PassesAt CX X σ (E σ))
    (ha : PA X (e :: es) t) (hdb : (x == ("__debug__" : Str)) = false := by decide) (he : starEach (e :: es) X.env = (false, eval e X.env) :: starEach es X.env := by rfl) (hpl : (backTo pos (starEach es X.env)).any (·.1) = false := by rfl) :
    PE X (.Call (.Name x p) (e :: es) [] pos) (tMakeS C sp E t) := by
  refine ⟨fun pins s σ H Q I h => ?_⟩
  refine wpAny_Call_Name_kw (ld_glob I hg hm ?_ hdb)
  refine PySem.W.callWith_K (h₀ := X.base) I.ok.mod.kin M.kp (thn (ha.run pos pins s σ H _ I h) fun us s1 ⟨vs, H1, I1, r, q⟩ => ⟨I1.kIn, ?_⟩) he hpl
  exact run_makeS M F hr hb (hx σ) I1 r q
end
end XK
set_option Elab.async false
set_option linter.all false
set_option maxRecDepth 100000
set_option maxHeartbeats 4000000
/-! Within an except suite: isinstance of what was caught (it has its own dict); all(..) of a list of truths; a list comprehension over a range. -/
namespace XH
open PySem PySem.Spec PySem.W PySem.Calls PyProof.Rows
section
variable {prog : Program} {w : World} {A : Around} {E : Value → Shared → Prop} {s : Shared} {K : Frag} {x D : Addr} {ox : Obj} {od : Option Obj}
/-- what the class says, so that isinstance asks its instances rightly -/
structure ClsQ (K : Frag) (D : Addr) : Prop where
  hg : findIn K (.ref D) "__getattribute__" = some (some (.builtin "BaseException.__getattribute__"))
  hk : findIn K (.ref D) "__getattr__" = some none
  hs : subIn K (.ref D) (.type "BaseException") = some true
  hd : hasDictIn K D = true
  ha : findIn K (.ref D) "__class__" = some (some (.builtin "object.__class__"))
  hn : specialIn K (.builtin "object.__class__") "__get__" = some (some (.builtin "getset_descriptor.__get__"))
  ht : takesIn K (.builtin "object.__class__") = some true
  hm : mroIn K D (.type "object") = some true
theorem class_found (T : ClsQ K D) : findObj K D od "__class__" = some (.bind (.builtin "getset_descriptor.__get__") (.builtin "object.__class__")) := by
  obtain ⟨cd, hc, _⟩ := any_some T.hd
  have h1 := T.hn
  have h2 := T.ht
  unfold findObj
  rw [hc, Option.bind_some, T.ha, Option.bind_some]
  simp [h1, h2]
theorem asked_class (T : ClsQ K D) {Q : Option Value → Shared → Prop} (X : K.In s.heap) (I : InstAt s.heap x ox D od)
    (h : Q (some (.ref D)) { s with toks := s.toks + 1 }) : wpAny (model prog w) A (getAttr? (.ref x) "__class__") Q E s := by
  have hf := class_found (od := od) T
  obtain ⟨hp, g, d, t, os⟩ := s
  have ty := I.type (M := model prog w)
  have l1 := looks_findIn (M := model prog w) X T.hg
  have l2 := looks_findIn (M := model prog w) X T.hk
  have l3 := looks_find (M := model prog w) X I hf
  have sub : Looks (model prog w) hp (isInstance (.ref x) (.type "BaseException")) true := ty.andThen (looks_subIn X T.hs)
  have no0 : (false && onTheHeap (Value.builtin "BaseException.__getattribute__")) = false := rfl
  have no2 : (Value.builtin "BaseException.__getattribute__" == Value.builtin "object.__getattribute__") = false := by
    decide +kernel
  have no1 : (onTheHeap (Value.ref D) && Value.builtin "BaseException.__getattribute__" == Value.builtin "object.__getattribute__") = false := by
    rw [no2]
    rfl
  unfold getAttr? getAttrBy? getAttrBy
  refine wpAny_bind (wpAny_mkText (wpAny_bind (wpAny_attempt (wpAny_holding (wpAny_bind (ty.at (wpAny_bind (l1.at ?_))))))))
  show wpAny _ _ (if (onTheHeap (Value.ref D) && Value.builtin "BaseException.__getattribute__" == Value.builtin "object.__getattribute__") = true then _ else _) _ _ _
  rw [no1, if_neg Bool.false_ne_true]
  unfold getAttrByItsOwn hookBefore
  refine wpAny_bind ?_
  rw [if_pos (show onTheHeap (Value.ref D) = true from rfl)]
  refine l2.at ?_
  refine wpAny_bind (wpAny_attempt (wpAny_holding ?_))
  unfold callGetattribute
  rw [no0, if_neg Bool.false_ne_true]
  unfold boundAndCalled
  rw [PySem.F.excAttr_ValueError.ga.bind (.ref x)]
  refine wpAny_bind (wpAny_pure ?_)
  show wpAny _ _ (call (.builtin "BaseException.__getattribute__") [.ref x, .str "__class__" t]) _ _ _
  refine wpAny_call (codeAny_call_builtin PySem.F.excAttr_ValueError.ga.plain PySem.F.entry_bexc_ga ?_)
  refine @check_slot (model prog w) _ _ ⟨hp, g, d, t + 1, os⟩ "BaseException.__getattribute__" "BaseException" "__getattribute__" (.ref x) [.str "__class__" t] [] _ (by decide +kernel) (by decide +kernel) sub (PySem.F.args_bexc_ga (.ref x) (.str "__class__" t)) ?_
  unfold Builtin.«object.__getattribute__»
  refine wpAny_bind (wpAny_of_eq (a := ((Value.ref x : Value), [Value.str "__class__" t])) (by first | rfl | (simp only [slotArgs]; rfl)) ?_)
  refine wpAny_bind (wpAny_pure (wpAny_bind (ty.at (wpAny_bind (l3.at ?_)))))
  show wpAny _ _ (holding [Value.builtin "object.__class__"] (call (.builtin "getset_descriptor.__get__") [.builtin "object.__class__", .ref x, .ref D]) >>= ret) _ _ _
  refine wpAny_bind (wpAny_holding (wpAny_call (class_get (s := ⟨hp, g, d, t + 1, os⟩) (ox := ox) (od := od) X I T.hm ?_)))
  refine wpAny_pure ?_
  show wpAny _ _ (handedOut (.ref D)) _ _ _
  rw [handedOut_of (v := .ref D) rfl]
  first
    | exact wpAny_pure (wpAny_pure h)
    | exact wpAny_pure h
    | exact wpAny_pure (wpAny_bind (wpAny_pure (wpAny_pure h)))
theorem kit_err (T : ClsQ K D) : KitX K (.ref x) (.ref D) (fun h => ∃ ox od, InstAt h x ox D od) where
  ty := fun _ _ _ ⟨_, _, I⟩ => I.type
  it := fun _ _ X _ => by
    obtain ⟨cd, hc, _⟩ := any_some T.hd
    unfold clsIn at hc
    split at hc
    · rename_i c' d' cd' sl' ho
      intro A' Q' E' s' k q
      unfold isType loadHead
      exact wpAny_bind (wpAny_loadPart (k _ _ (X _ _ ho)) (wpAny_pure q))
    · cases hc
  ne := fun h tp dd its n sl X htp => by
    obtain ⟨cd, hc, _⟩ := any_some T.hd
    refine Bool.eq_false_iff.mpr fun q => ?_
    have e : D = tp := Value.ref.inj (beq_iff_eq.mp q)
    subst e
    unfold clsIn at hc
    split at hc
    · rename_i c' d' cd' sl' ho
      have z := (X _ _ ho).symm.trans htp
      cases z
    · cases hc
  ca := fun X I k => by
    obtain ⟨ox, od, I⟩ := I
    exact asked_class T X I k
end
end XH
namespace XH
open PySem PySem.Spec PyProof.Rows L2
/-- isinstance(e, c): e what the suite holds, c one class -/
def rIs1 (K : PySem.W.Frag) (D a : Addr) : List V → Hp → VK → Prop := fun xs H Q =>
  ∃ (c : V) (cv : Value) (b : Bool), xs = [.ref a, c] ∧ ClsV c cv ∧ PySem.W.kitOne K (.ref D) cv = some b ∧ Q (.bl b) H
/-- isinstance(e, (c1, ..)): the tuple just laid -/
def rIsN (K : PySem.W.Frag) (D a : Addr) : List V → Hp → VK → Prop := fun xs H Q =>
  ∃ (tp : Addr) (cs : List V) (us : List Value) (b : Bool), xs = [.ref a, .ref tp] ∧ H tp = some (.tup cs) ∧ Paired ClsV cs us ∧ PySem.W.kitAny K (.ref D) us = some b ∧ Q (.bl b) H
section
variable {X : Cx} {a D dx : Addr} {oe : Obj} {pn : List (Addr × Obj)} {fs : List (Str × V)} {cls : Value} {d : Option Addr}
theorem held_inst {pins : List (Addr × Obj)} {σ : L2.St} {H : Hp} {s : Shared} (I : Inv (X.suite a ((a, oe) :: pn)) pins σ H s)
    (hz : Zc (.ref D) (some dx) oe) (hf : ∃ vs, oe.data = .fields vs) (hd : H dx = some (.xd fs)) : ∃ ox od, PySem.W.InstAt s.heap a ox D od := by
  obtain ⟨hget, _⟩ := I.pin (a, oe) (List.mem_append.mpr (.inl List.mem_cons_self))
  have hx : ObjOk X.prog X.w H s.heap dx (.xd fs) := I.hok dx _ hd
  obtain ⟨mA, hns, _⟩ := hx
  obtain ⟨o1, ho, _⟩ := lookIn_ns hns
  obtain ⟨vs, hv⟩ := hf
  exact ⟨oe, some o1, hget, hz.1, by unfold PySem.W.notCls; rw [hv] <;> rfl, by rw [hz.2]; exact ho⟩
/-- the class of what is held, its dict -/
def Held (K : PySem.W.Frag) (cls : Value) (d : Option Addr) (D : Addr) (H : Hp) : Prop :=
  cls = .ref D ∧ ClsQ K D ∧ ∃ dx fs, d = some dx ∧ H dx = some (.xd fs)
theorem call_is1 (hz : Zc cls d oe) (hf : ∃ vs, oe.data = .fields vs) :
    CallR (X.suite a ((a, oe) :: pn)) (.builtin "isinstance") (fun xs H Q => ∃ D, Held X.K cls d D H ∧ rIs1 X.K D a xs H Q) := by
  intro pins s σ H xs us Q I r h
  obtain ⟨D, ⟨rfl, T, dx, fs, rfl, hd⟩, c, cv, b, rfl, hc, e, q⟩ := h
  obtain ⟨u1, u2, rfl, r1, r2⟩ := vals2 r
  have ec := hc.eq r2
  subst ec
  cases (show u1 = Value.ref a from r1)
  exact PySem.W.kia_one (kit_err T) I.kIn (held_inst I hz hf hd) e (fun z => nomatch z) fun tk => ⟨.bl b, H, I.tok tk, rfl, q⟩
theorem call_isN (hz : Zc cls d oe) (hf : ∃ vs, oe.data = .fields vs) :
    CallR (X.suite a ((a, oe) :: pn)) (.builtin "isinstance") (fun xs H Q => ∃ D, Held X.K cls d D H ∧ rIsN X.K D a xs H Q) := by
  intro pins s σ H xs us Q I r h
  obtain ⟨D, ⟨rfl, T, dx, fs, rfl, hd⟩, tp, cs, ws, b, rfl, hT, hc, e, q⟩ := h
  obtain ⟨u1, u2, rfl, r1, r2⟩ := vals2 r
  cases (show u1 = Value.ref a from r1)
  cases (show u2 = Value.ref tp from r2)
  obtain ⟨_, its, rv, o, h1, h2, n, h3⟩ := (show ObjOk X.prog X.w H s.heap tp (.tup cs) from I.hok tp _ hT)
  have e3 := ClsV.all hc rv
  subst e3
  have ht : s.heap.get? tp = some ⟨.type "tuple", o.dict, .seq its.toArray n, o.slots⟩ := by
    rw [h1]
    obtain ⟨oc, od, oda, osl⟩ := o
    cases h2
    cases h3
    rfl
  exact PySem.W.kia_tup (kit_err T) I.kIn (held_inst I hz hf hd) ht e (fun z => nomatch z) fun tk => ⟨.bl b, H, I.tok tk, rfl, q⟩
end
end XH
namespace XH
open PySem PySem.Spec PyProof.Rows L2 HotX L2H
section
variable {prog : Program} {w : World} {A : Around} {E : Value → Shared → Prop} {s : Shared}
/-- the end of a list's iterator while an exception is handled: the StopIteration has it as its context, and is dropped -/
theorem list_end_hot {it l x1 : Addr} {i : Nat} {items : Array Value} {Q : Option Value → Shared → Prop} (hot : HotAt A x1 s.heap) (nx : x1 ≠ it)
    (hit : s.heap.IsListIter it l i) (hl : s.heap.IsList l items) (hx : items[i]? = none)
    (hQ : ∀ h', Heap.ExtBut it s.heap h' → Q none { s with heap := h' }) : wpAny (model prog w) A (pyNext (.ref it)) Q E s := by
  obtain ⟨o, ho, hc, hd⟩ := id hit
  obtain ⟨ol, hol, _, nl, hdl⟩ := hl
  obtain ⟨hh, o1, vs1, g1, d1, c1⟩ := hot
  unfold pyNext
  refine wpAny_bind (wpAny_attempt (wpAny_callSpecial?_slot (name := Str.ofString "__next__") hit.typeIs slot_listiter_next
    (wpAny_call_entry slot_listiter_next hit.typeIs entry_listiter_next ?_ (args_listiter_next _))))
  show wpAny _ _ (field (.ref it) 0 >>= _) _ _ s
  refine wpAny_bind (wpAny_field ho hd (x := .ref l) rfl ?_)
  show wpAny _ _ (if (Value.ref l == Value.none) = true then _ else _) _ _ s
  rw [if_neg (show ¬ ((Value.ref l == Value.none) = true) from Bool.false_ne_true)]
  show wpAny _ _ (field (.ref it) 1 >>= _) _ _ s
  refine wpAny_bind (wpAny_field ho hd (x := .int i 0) rfl ?_)
  show wpAny _ _ (seqItems? (.ref l) >>= _) _ _ s
  refine wpAny_bind (wpAny_seqItems hol hdl ?_)
  simp only [Int.toNat_natCast, hx]
  refine wpAny_bind (wpAny_rule (wpAny_bind (wpAny_setField ho hd (by simp) ?_)))
  show wpAny _ _ (newExc (.type "StopIteration") [] >>= _) _ _ _
  refine wpAny_bind ?_
  simp only [newExc, newTuple]
  refine wpAny_bind (wpAny_newObj_type ?_ (by size_fits))
  refine wpAny_bind (m := firstArgMember _ _) (wpAny_of_eq (a := Value.none) (by first | rfl | (simp only [firstArgMember]; rfl)) ?_)
  refine wpAny_newObj_type ?_ (by size_fits)
  have up : ∀ (f : Array Value → Array Value), (s.heap.update it (Obj.mapFields f)).get? x1 = some o1 := fun f =>
    (Heap.get?_update_other _ _ (Ne.symm nx)).trans g1
  refine raiseNew_hot ⟨hh, o1, vs1, Heap.get?_push_of_some _ (Heap.get?_push_of_some _ (up _)), d1, c1⟩
    (Nat.ne_of_lt (Heap.lt_size (Heap.get?_push_of_some _ (up _)))) (Heap.get?_push_size _ rfl) rfl
    (by first | (simp; done) | (simp; omega) | (simp only [Array.size_append]; simp; omega)) ?_
  refine wpAny_bind (wpAny_isInstance (T := "StopIteration") (b := true) ⟨_, Heap.get?_update_self _ (Heap.get?_push_size _ rfl) rfl, rfl⟩ isSubtype_stop ?_)
  refine wpAny_pure (hQ _ ?_)
  have base := ((Heap.SameBut.update (h := s.heap) it (Obj.mapFields fun vs => vs.setIfInBounds 0 Value.none)).extBut)
  intro b ob nb e
  have lt : b < s.heap.objs.size := Heap.lt_size e
  have e1 : (s.heap.update it (Obj.mapFields fun vs => vs.setIfInBounds 0 Value.none)).get? b = some ob := base b ob nb e
  have e2 := Heap.get?_push_of_some (h := s.heap.update it (Obj.mapFields fun vs => vs.setIfInBounds 0 Value.none)) { cls := .type "tuple", data := .seq ([] : List Value).toArray } e1
  rw [Heap.get?_update_other _ _ (Nat.ne_of_gt (Heap.lt_size e2))]
  exact Heap.get?_push_of_some _ e2
end
end XH
set_option Elab.async false
set_option linter.all false
set_option maxRecDepth 100000
set_option maxHeartbeats 4000000
/-! Within an except suite, or in a def called there: all(..) of a list of truths, a list comprehension over range(n). -/
namespace XA
open PySem PySem.Spec PyProof.Rows L2 HotX L2H XH
theorem walks_hot {prog : Program} {w : World} {A : Around} {x1 : Addr} {o1 : Obj} {vs1 : Array Value} (hh : A.handled = some (.ref x1)) (d1 : o1.data = .fields vs1) (c1 : vs1[2]? = some .none)
    (I ax : Addr) (hne : ax ≠ I) (nx : x1 ≠ I) (items : Array Value) :
    Walks prog w A I [I, ax, x1] [I] items.size (fun i v => items[i]? = some v) (fun i h => h.IsListIter I ax i ∧ h.IsList ax items ∧ h.get? x1 = some o1) where
  sub := fun b hb => by
    simp at hb
    simp [hb]
  frame := fun _ _ _ st hk => ⟨st.1.at fun o e => hk I (by simp) o e, st.2.1.at fun o e => hk ax (by simp) o e, hk x1 (by simp) _ st.2.2⟩
  item := fun i s Q E hi st hQ => by
    refine wpAny_pyNext_list_item st.1 st.2.1 (x := items[i]) (by simp [hi]) fun h' hit' hs' => ?_
    have g : h'.get? x1 = some o1 := hs'.extBut x1 _ nx st.2.2
    exact hQ _ h' s.toks (by simp [hi]) ⟨hit', st.2.1.extBut hs'.extBut hne, g⟩ fun b o hb e => hs'.extBut b o (fun h => hb (by simp [h])) e
  done := fun s Q E st hQ =>
    list_end_hot ⟨hh, o1, vs1, st.2.2, d1, c1⟩ nx st.1 st.2.1 (by simp) fun h' he' => hQ h' s.toks fun b o hb e => he' b o (fun h => hb (by simp [h])) e
  self := fun _ _ _ _ st hQ => wpAny_pyIter_listiter st.1 hQ
theorem cr_allH {X : Cx} (hc : HotC X) : CallR X (.builtin "all") (rAll X.K) := by
  intro pins s σ H vs us Q I r h
  obtain ⟨a, bs, rfl, hs, q⟩ := h
  obtain ⟨its, rv, hl, _⟩ := I.list hs
  rw [Vals.ref1 r]
  have hb := rv.bls
  obtain ⟨p, ⟨hh, v1, e1, c1⟩, hp⟩ := hc
  have P1 := I.pin p (List.mem_append_left _ hp)
  refine call_all_walk (iter_any hl.isList fun s2 e2 st hne => ?_)
  subst e2
  have nx : p.1 ≠ s.heap.objs.size := Nat.ne_of_lt (Heap.lt_size P1.1)
  refine ⟨_, _, _, _, _, _, _, rfl, walks_hot (A := X.A.in1) hh e1 c1 _ a hne nx its.toArray,
    ⟨st.1, st.2, Heap.get?_push_of_some _ P1.1⟩, truth_bools hb, fun h' tk hk => ?_⟩
  refine ⟨.bl _, H, I.kept fun b o eo => hk b o (fun hm => ?_) (Heap.get?_push_of_some _ eo), ?_, q⟩
  · rcases List.mem_cons.mp hm with e | hm
    · exact absurd (e ▸ Heap.lt_size eo) (Nat.lt_irrefl _)
    · cases hm
  · show Value.bool _ = Value.bool _
    rw [← L2.all_range, hb, List.size_toArray, List.length_map]
/-! ### the block of a comprehension, in a context that bears what is handled -/
abbrev blkH (X : Cx) (s : Shared) (H : Hp) (scope : Scope) (cenv : Env) (fp : List Addr) (p : Addr × Obj) : Cx := { X.blk s H scope cenv fp with pn := [p] }
section
variable {X : Cx} {s0 : Shared} {H0 : Hp} {scope : Scope} {ce : Env} {fp : List Addr} {p : Addr × Obj} {pins : List (Addr × Obj)} {σ : L2.St} {H : Hp} {s : Shared}
theorem ok_to (ok : (X.blk s0 H0 scope ce fp).Ok) : (blkH X s0 H0 scope ce fp p).Ok :=
  ⟨ok.mod, ok.kind, ok.glob, ok.blt, ok.above, ok.inj, ok.has, ok.cab, ok.hd, ok.frames, ok.stk, ok.exf, ok.bs, ok.bsz, ok.noex, ok.exfs, ok.funs, ok.frf⟩
theorem ok_from (ok : (blkH X s0 H0 scope ce fp p).Ok) : (X.blk s0 H0 scope ce fp).Ok :=
  ⟨ok.mod, ok.kind, ok.glob, ok.blt, ok.above, ok.inj, ok.has, ok.cab, ok.hd, ok.frames, ok.stk, ok.exf, ok.bs, ok.bsz, ok.noex, ok.exfs, ok.funs, ok.frf⟩
theorem inv_to (I : Inv (X.blk s0 H0 scope ce fp) (p :: pins) σ H s) : Inv (blkH X s0 H0 scope ce fp p) pins σ H s :=
  ⟨ok_to I.ok, I.os, I.bare, I.base, I.loc, I.cell, I.free, I.freeC, fun q hq => I.pin q hq, I.hok, I.len⟩
theorem inv_from (I : Inv (blkH X s0 H0 scope ce fp p) pins σ H s) : Inv (X.blk s0 H0 scope ce fp) (p :: pins) σ H s :=
  ⟨ok_from I.ok, I.os, I.bare, I.base, I.loc, I.cell, I.free, I.freeC, fun q hq => I.pin q hq, I.hok, I.len⟩
end
section
variable {X : Cx}
theorem lc_hot {pins : List (Addr × Obj)} {s : Shared} {σ : L2.St} {H : Hp} {Q : VK} {elt tg iter : Expr} {ifs : List Expr} {scope : Scope} {own : List (Str × Nat)}
    {pos pos2 : Pos} {wi : TI} {g : TG} {tt : TT} {te : TE} {use : Option (Value → Sem Unit)} {Qf : Value → Shared → Prop} {p : Addr × Obj} (hot : Hot1 X.A p) (hp : p ∈ X.pn) (hN : X.N.Nodup) (I : Inv X pins σ H s) (hi : PIH X tg iter wi) (ok : BlkOk X.N X.env.scope scope own)
    (hg : ∀ (s : Shared) (H : Hp) (C : Addr) (cl : List (Str × Addr)) (fp : List Addr), PG (blkH X s H scope (compEnvC scope cl C X.env) fp p) tg g)
    (ht : ∀ (s : Shared) (H : Hp) (C : Addr) (cl : List (Str × Addr)) (fp : List Addr), PTs (blkH X s H scope (compEnvC scope cl C X.env) fp p) ifs tt)
    (he : ∀ (s : Shared) (H : Hp) (C : Addr) (cl : List (Str × Addr)) (fp : List Addr), PE (blkH X s H scope (compEnvC scope cl C X.env) fp p) elt te)
    (hs : ∀ x, foldedSetIterable iter X.env x = pure x) (h : tLc wi g tt te (own.map (·.2)) σ H Q)
    (fin : ∀ D C s2 m H2, Inv X pins σ H2 s2 → Q (.ref D) H2 → s2.heap.Ns C m → FpOk X pins H2 C → compPost (model X.prog X.w) X.A X.xe use Qf (.ref D) C (.ok .next) s2) :
    wpAny (model X.prog X.w) X.A (comprehension (.ListComp elt [⟨tg, iter, ifs, 0⟩] scope pos) scope X.env pos2 (newList []) false (eval iter X.env) use) Qf X.xe s := by
  have hfree : ∀ y ∈ scope.names, y.2 = .free → ∃ c, X.env.cells.lookup y.1 = some c := fun y hy e =>
    (ok.free y hy e).elim (fun k => I.ok.has _ (.inl k)) (fun k => I.ok.has _ (.inr k))
  refine wpAny_comprehension_free (use := use) rfl hs (closure_ok hfree) ok.kind (fun y hy e => by rw [ok.uniq y hy, e])
    (thn (hi.run pins s σ H _ I h) fun xv s1 hx => thn hx fun itv s2 h2 => ?_)
  obtain ⟨it, fp, tn, J, H2, rfl, I2, T, st2, f2, q⟩ := h2
  refine wpAny_newObj_type (newEnv_comp ?_) (by show 0 ≤ sizeLine; decide)
  generalize hD : s2.heap.objs.size = D
  have nD : H2 D = none := I2.hok.fresh (Nat.le_of_eq hD)
  obtain ⟨W, ⟨m0, w0⟩, turn⟩ := q D nD
  generalize hs3 : ({ s2 with heap := s2.heap.push { cls := .type "list", data := .seq ([] : List Value).toArray } } : Shared) = s3
  have h3 : s3.heap = s2.heap.push { cls := .type "list", data := .seq ([] : List Value).toArray } := by
    rw [← hs3]
  have I3 : Inv X pins σ (upd H2 D (.lst [])) s3 := by
    rw [← hs3]
    refine I2.laid (t' := s2.toks) (fun b o e => Heap.get?_push_of_some _ e) (Nat.le_of_eq hD) ⟨Nat.zero_le _, [], 0, .nil, ?_⟩
    rw [← hD]
    exact Heap.get?_push_size _ rfl
  have lt2 : ∀ b ∈ fp, b < s2.heap.objs.size := fun b hb =>
    (T.obj _ _ st2 b hb).elim fun o e => Heap.lt_size e.1
  have f3 : ∀ b ∈ fp, FpOk X pins (upd H2 D (.lst [])) b ∧ b < s3.heap.objs.size := by
    intro b hb
    have lt := lt2 b hb
    refine ⟨⟨?_, (f2 b hb).2⟩, by rw [h3, Heap.size_push]; exact Nat.lt_succ_of_lt lt⟩
    rw [upd_ne (by rw [← hD]; exact Nat.ne_of_lt lt)]
    exact (f2 b hb).1
  have st3 : tn 0 s3.heap := T.keep _ _ _ st2 fun b _ o e => by
    rw [h3]
    exact Heap.get?_push_of_some _ e
  -- the pin stands: it is older than all that is made here
  have P3 := I3.pin p (List.mem_append_left _ hp)
  have I4 := block_start I3 ok hN f3
  have pg := hg s3 (upd H2 D (.lst [])) s3.heap.objs.size (cellsFrom (s3.heap.objs.size + 1) scope.names (cloFrom X.env.cells scope.names [])) fp
  have pt := ht s3 (upd H2 D (.lst [])) s3.heap.objs.size (cellsFrom (s3.heap.objs.size + 1) scope.names (cloFrom X.env.cells scope.names [])) fp
  have pe := he s3 (upd H2 D (.lst [])) s3.heap.objs.size (cellsFrom (s3.heap.objs.size + 1) scope.names (cloFrom X.env.cells scope.names [])) fp
  show codeAny _ _ (.compStart (.ListComp elt [⟨tg, iter, ifs, 0⟩] scope pos) 0 (.ref it) (.ref D) (compEnvC scope (cellsFrom (s3.heap.objs.size + 1) scope.names (cloFrom X.env.cells scope.names [])) s3.heap.objs.size X.env))
    (compPost (model X.prog X.w) X.A X.xe use Qf (.ref D) s3.heap.objs.size) { s3 with heap := pushCells (s3.heap.push { cls := .type "dict", data := .dict #[] }) scope.names }
  have nfp : ∀ b ∈ fp, (upd H2 D (.lst [])) b = none := fun b hb => (f3 b hb).1.1
  generalize hce : compEnvC scope (cellsFrom (s3.heap.objs.size + 1) scope.names (cloFrom X.env.cells scope.names [])) s3.heap.objs.size X.env = ce at I4 pg pt pe ⊢
  have cL : ce.locals = s3.heap.objs.size := by
    subst hce
    rfl
  generalize hH3 : upd H2 D (.lst []) = H3 at I3 I4 pg pt pe w0 nfp f3 P3
  generalize hs4 : ({ s3 with heap := pushCells (s3.heap.push { cls := .type "dict", data := .dict #[] }) scope.names } : Shared) = s4 at I4 ⊢
  have kept4 : ∀ b o, s3.heap.get? b = some o → s4.heap.get? b = some o := fun b o e => by
    rw [← hs4]
    exact pushCells_keeps _ _ _ _ (Heap.get?_push_of_some _ e)
  have st4 : tn 0 s4.heap := T.keep _ _ _ st3 fun b _ o e => kept4 b o e
  have I5 : Inv (blkH X s3 H3 scope ce fp p) [] (wipe σ (own.map (·.2))) H3 s4 := inv_to (pins := []) ⟨I4.ok, I4.os, I4.bare, I4.base, I4.loc, I4.cell, I4.free, I4.freeC, fun q hq => by
    have e : q = p := by simpa using hq
    subst e
    refine ⟨kept4 _ _ P3.1, P3.2.1, ?_, ?_, P3.2.2.2.2⟩
    · rw [cL]
      exact Nat.ne_of_lt (Heap.lt_size P3.1)
    · exact fun hm => (List.mem_cons.mp (I3.stkSub q.1 hm)).elim P3.2.2.1 P3.2.2.2.1, I4.hok, I4.len⟩
  have hotB : HotC (blkH X s3 H3 scope ce fp p) := ⟨p, hot, by simp⟩
  have stat : ∀ {σ' : L2.St} {H' : Hp} {s' : Shared}, Inv (blkH X s3 H3 scope ce fp p) [] σ' H' s' → (∀ b ∈ fp, H' b = none) → ∀ b ∈ fp, FpOk (blkH X s3 H3 scope ce fp p) [] H' b := by
    intro σ' H' s' Z hn b hb
    refine ⟨hn b hb, (Z.ok.exf b hb).1, Z.ok.exfs b hb, .inl hb, fun x c e => (Z.ok.exf b hb).2 x c e, fun q hq => ?_⟩
    have e : q = p := by simpa using hq
    subst e
    have pnew := (f3 b hb).1.2.2.2.2.2 q (List.mem_append_left _ hp)
    exact pnew
  have loop : codeAny (model X.prog X.w) X.A (.compLoop (.ListComp elt [⟨tg, iter, ifs, 0⟩] scope pos) 0 (.ref it) (.ref D) ce) (compPost (model X.prog X.w) X.A X.xe use Qf (.ref D) s3.heap.objs.size) s4 := by
    refine compLoop_any (fun n s' => ∃ i H', Inv (blkH X s3 H3 scope ce fp p) [] (wipe σ (own.map (·.2))) H' s' ∧ tn i s'.heap ∧ (∀ b ∈ fp, H' b = none) ∧ W i n H') ?_ m0 ⟨0, H3, I5, st4, nfp, w0⟩
    rintro n s5 ⟨i, H5, J5, st5, n5, w5⟩
    rcases turn i n H5 w5 with ⟨stop, qq⟩ | ⟨go, Nx, hNx, step⟩
    · refine thnF (T.done (blkH X s3 H3 scope ce fp p) rfl rfl rfl hotB i [] s5 _ H5 (fun _ _ => False) J5 (stat J5 n5) st5 stop) fun r s6 ⟨hr, J6⟩ => ?_
      subst hr
      have J7 : Inv X pins σ H5 s6 := I3.call' (ch := fp) J6.os J6.base J6.hok J6.bare fun b hb =>
        ⟨(f3 b hb).1.2.2.2.1, (f3 b hb).1.2.1, (f3 b hb).1.2.2.2.2.1, (f3 b hb).1.2.2.2.2.2⟩
      have nC : H5 s3.heap.objs.size = none := by
        have z : H5 ce.locals = none := J6.free
        rwa [cL] at z
      obtain ⟨m, hn, _⟩ := J6.loc
      have hn2 : s6.heap.Ns ce.locals m := hn
      rw [cL] at hn2
      exact fin D s3.heap.objs.size s6 m H5 J7 qq hn2 (I3.fpOk (Nat.le_refl _) nC)
    · refine thnF (T.item (blkH X s3 H3 scope ce fp p) rfl rfl rfl hotB i [] s5 _ H5 (fun _ _ => False) J5 (stat J5 n5) st5 go) fun r s6 ⟨u, hr, h6⟩ => ?_
      subst hr
      refine thnF h6 fun _ s7 ⟨x, H7, J7, r7, y7, st7, n7⟩ => ?_
      have K7 := J7.pinned (stat J7 n7) (T.obj _ _ st7)
      refine thnF (pg.run _ s7 _ H7 x u _ K7 r7 (step x H7 y7)) fun _ s8 ⟨σ8, H8, J8, hw8, q8⟩ => ?_
      refine thnF (pt.run _ s8 σ8 H8 _ J8 q8) fun b s9 ⟨H9, J9, q9⟩ => ?_
      have back : ∀ {s' : Shared} {H' : Hp}, Inv (blkH X s3 H3 scope ce fp p) ([] ++ pinsAt fp s7.heap) σ8 H' s' → Nx H' →
          ∃ m, m < n ∧ ∃ i H', Inv (blkH X s3 H3 scope ce fp p) [] (wipe σ (own.map (·.2))) H' s' ∧ tn i s'.heap ∧ (∀ b ∈ fp, H' b = none) ∧ W i m H' := by
        intro s' H' Z nx
        obtain ⟨m', hm, w'⟩ := hNx H' nx
        have stands : ∀ b ∈ fp, ∀ o, s7.heap.get? b = some o → s'.heap.get? b = some o ∧ H' b = none := fun b hb o e =>
          let z := Z.pin (b, o) (List.mem_append_right _ (List.mem_append_right _ (mem_pinsAt hb e)))
          ⟨z.1, z.2.1⟩
        have hl : (wipe σ (own.map (·.2))).length = σ8.length := by
          rw [← hw8, wipe_length]
        refine ⟨m', hm, i + 1, H', (Z.unpinned (pins := [])).weak hl (fun j v e => ?_), T.keep _ _ _ st7 fun b hb o e => (stands b hb o e).1, fun b hb => ?_, w'⟩
        · rw [← hw8] at e
          exact (wipe_some e).1
        · obtain ⟨o, e, _⟩ := T.obj _ _ st7 b hb
          exact (stands b hb o e).2
      cases b with
      | false =>
        simp only [Bool.false_eq_true, if_false] at q9 ⊢
        exact back J9 q9
      | true =>
        simp only [if_true] at q9 ⊢
        refine thnF (pe.run _ s9 σ8 H9 _ J9 q9) fun z s10 ⟨yv, H10, J10, r10, acc, hD10, hz10, nx⟩ => ?_
        exact app_ok (X := blkH X s3 H3 scope ce fp p) J10 hD10 hz10 r10 fun s11 J11 => back J11 nx
  exact codeAny_compStart_list loop (T.self X.A 0 _ _ _ st4 loop)
theorem pe_lcH {elt tg iter : Expr} {ifs : List Expr} {scope : Scope} {own : List (Str × Nat)} {pos : Pos} {wi : TI} {g : TG} {tt : TT} {te : TE} {p : Addr × Obj} (hot : Hot1 X.A p) (hp : p ∈ X.pn) (hN : X.N.Nodup) (hi : PIH X tg iter wi) (ok : BlkOk X.N X.env.scope scope own)
    (hg : ∀ (s : Shared) (H : Hp) (C : Addr) (cl : List (Str × Addr)) (fp : List Addr), PG (blkH X s H scope (compEnvC scope cl C X.env) fp p) tg g)
    (ht : ∀ (s : Shared) (H : Hp) (C : Addr) (cl : List (Str × Addr)) (fp : List Addr), PTs (blkH X s H scope (compEnvC scope cl C X.env) fp p) ifs tt)
    (he : ∀ (s : Shared) (H : Hp) (C : Addr) (cl : List (Str × Addr)) (fp : List Addr), PE (blkH X s H scope (compEnvC scope cl C X.env) fp p) elt te)
    (hs : ∀ x, foldedSetIterable iter X.env x = pure x := by intro _; rfl) : PE X (.ListComp elt [⟨tg, iter, ifs, 0⟩] scope pos) (tLc wi g tt te (own.map (·.2))) := by
  constructor
  intro pins s σ H Q I h
  rw [eval_ListComp]
  refine lc_hot hot hp hN I hi ok hg ht he hs h fun D C s2 m H2 I2 q hn f => ⟨m, hn, fun h3 sb => ?_⟩
  obtain ⟨f0, f1, f2, f3, f4, f5⟩ := f
  exact ⟨.ref D, H2, I2.turned (t' := s2.toks) (fun b o hb e => (sb.2 b hb).trans e) f0 f1 f3 f4 f5, rfl, q⟩
end
end XA
set_option Elab.async false
set_option linter.all false
set_option maxRecDepth 100000
set_option maxHeartbeats 4000000
/-! ### _law_made -/
namespace Q
open PySem PySem.Spec L2 L2H XD XT XM XH XK
theorem is1 {X Y : Cx} {a : Addr} {oe : Obj} {pn : List (Addr × Obj)} {cls : Value} {d : Option Addr} (hz : L2N.Zn cls d oe) (hf : ∃ vs, oe.data = .fields vs) (K : PySem.W.Frag) (hK : Y.K = K) (e : Y = X.suite a ((a, oe) :: pn)) :
    CallR Y (.builtin "isinstance") (fun xs H Q => ∃ D, Held K cls d D H ∧ rIs1 K D a xs H Q) := by
  subst hK
  subst e
  exact call_is1 hz.zc hf
theorem xf_of {K : PySem.W.Frag} {C fI : Addr} {f q : Str} (T : XcT K C fI f q) : XfC K C := ⟨T.ga, T.gg, T.exC, T.hdC⟩
theorem takesF {X : Cx} : L2N.Takes X (fun _ _ _ _ => False) := fun _ _ x => by
  obtain ⟨_, _, _, _, _, _, _, _, _, _, _, _, _, _, _, _, z⟩ := x
  exact z.elim
/-- the error classes, one to another -/
structure Ex (K : PySem.W.Frag) (mg : Str → Option Value) (CV CM B : Addr) : Prop where
  gB : mg "TalkError" = some (.ref B)
  vv : PySem.W.exmOne K (.ref CV) (.ref CV) = some true
  mv : PySem.W.exmOne K (.ref CM) (.ref CV) = some false
  mm : PySem.W.exmOne K (.ref CM) (.ref CM) = some true
  kv : PySem.W.kitOne K (.ref CV) (.ref B) = some true
  km : PySem.W.kitOne K (.ref CM) (.ref B) = some true
  qv : ClsQ K CV
  qm : ClsQ K CM
theorem seq_back {K : PySem.W.Frag} {H : Hp} {x dx C q : Addr} {zs : List V} (h : SqL K (upd (upd H dx (.own x)) x (.ins C dx [])) q zs ∨ SqT K (upd (upd H dx (.own x)) x (.ins C dx [])) q zs) : SqL K H q zs ∨ SqT K H q zs := by
  have back : ∀ {o : HO}, (∀ y, o ≠ .own y) → (∀ C dx fs, o ≠ .ins C dx fs) → (upd (upd H dx (.own x)) x (.ins C dx [])) q = some o → H q = some o := fun {o} n1 n2 e => by
    by_cases h1 : q = x
    · rw [h1, upd_same] at e
      exact absurd (Option.some.inj e).symm (n2 _ _ _)
    · rw [upd_ne h1] at e
      by_cases h2 : q = dx
      · rw [h2, upd_same] at e
        exact absurd (Option.some.inj e).symm (n1 _)
      · rw [upd_ne h2] at e
        exact e
  rcases h with ((h | ⟨o, h⟩) | h) | ((h | ⟨o, h⟩) | h)
  · exact .inl (.inl (.inl (back (by intro _ z; cases z) (by intro _ _ _ z; cases z) h)))
  · exact .inl (.inl (.inr ⟨o, back (by intro _ z; cases z) (by intro _ _ _ z; cases z) h⟩))
  · exact .inl (.inr h)
  · exact .inr (.inl (.inl (back (by intro _ z; cases z) (by intro _ _ _ z; cases z) h)))
  · exact .inr (.inl (.inr ⟨o, back (by intro _ z; cases z) (by intro _ _ _ z; cases z) h⟩))
  · exact .inr (.inr h)
/-- what _law_made tells -/
def madeEnd (H : Hp) (Q : VK) : Made → Prop
  | .bad i => ∀ p H', Same H H' → H' p = none → Q (.ref p) (upd H' p (.tup [.str "value", .int i, .bl true]))
  | .many => ∀ p H', Same H H' → H' p = none → Q (.ref p) (upd H' p (.tup [.str "many", .str "fillings", .bl true]))
  | .form _ _ => ∀ H', Same H H' → Q .non H'
def spMade (K : PySem.W.Frag) : Sp := fun vs H Q _ => ∃ (vF vR : V) (dF dR : PyData), vs = [vF, vR] ∧ Dp K H vF dF ∧ Dp K H vR dR ∧ FShort dF ∧ ROk dR ∧ (∀ t rs, made dF dR = .form t rs → RZ K H vR dR) ∧ madeEnd H Q (made dF dR)
def tsM (K : PySem.W.Frag) (C B : Addr) (f word : Str) : Addr → Value → Option Addr → TS := fun a cls d =>
  tRet (tTup (tCons (tC (.str word)) (tCons (tXf a cls d C f (tVar 2)) (tCons (tCB (fun xs H Q => ∃ D, Held K cls d D H ∧ rIs1 K D a xs H Q) (tCons (tVar 2) (tCons (tC (.ref B)) tNil))) tNil))))
section
variable {P : Program} {w : World} {K : PySem.W.Frag} {mg : Str → Option Value} {base : Heap}
theorem scMade : FnScope ["table", "bans", "e"] ["table", "bans"] (defScope sMade) := ⟨rfl, rfl, rfl, by decide +kernel, rfl, by decide +kernel, by decide +kernel⟩
theorem ok_made {f fI C CV CM B : Addr} {fd fdI : FuncData} (F : Fun K "_law_made" "_law_made" sMade f fd) (T : Fc K mg C) (R : Er K mg CV CM) (Z : Ex K mg CV CM B) (M : Mk K C fI) (GI : FnOk P w K mg base (L2N.CX P w) 6 fI fdI ["self", "fields", "rules"] (spInit K C CV CM)) (bI : Binds K fdI ["self", "fields", "rules"] []) :
    FnOk P w K mg base CX0 8 f fd ["table", "bans"] (spMade K) := by
  obtain ⟨fIv, qv, XV⟩ := R.v
  obtain ⟨fIm, qm, XN⟩ := R.m
  have vI : PySem.bootBuiltins "isinstance" = some (.builtin "isinstance") := by decide +kernel
  refine F.ok scMade (fun vs H Q E h => ?_) (fun cdv A outer s H vs Q E hr h => ?_)
  · obtain ⟨vF, vR, dF, dR, rfl, _⟩ := h
    rfl
  obtain ⟨vF, vR, dF, dR, rfl, hF, hR, hs, ho, hz, k⟩ := h
  refine ⟨_, pss_cons (ps_try_cls (tb := fun W => tDrop (tMakeS C (spInit K C CV CM) (L2.WE W) (tCons (tVar 0) (tCons (tVar 1) tNil)))) (l := [⟨.ref CV, 2, tsM K CV B "at" "value"⟩, ⟨.ref CM, 2, tsM K CM B "word" "many"⟩]) (Wout := fun _ _ _ _ => False) rfl rfl scMade.nd takesF
      (fun W pn xe tk _ => pss_one (ps_expr (pe_makeS M GI hr rfl T.gF bI (fun σ => L2N.passAt tk σ) (pa_cons (pv 0) (pa_cons (pv 1) pa_nil)))))
      (.cons ⟨rfl, by decide, .inl R.gv⟩ rfl rfl ?s1 (.cons ⟨rfl, by decide, .inl R.gm⟩ rfl rfl ?s2 .nil)))
    (pss_one (ps_ret pe_non)), ?_⟩
  case s1 =>
    intro a oe cls d pn hz hf
    show PSs _ _ (tsM K CV B "at" "value" a cls d)
    unfold tsM
    exact pss_one (ps_ret (pe_tup (pa_cons pe_str (pa_cons (pe_xf (xf_of XV) XV.noN hz.zc hf (pv 2)) (pa_cons (pe_callB (is1 hz hf K (by rfl) (by rfl)) (by rfl) T.isi vI (pa_cons (pv 2) (pa_cons (pe_glob (v := .ref B) (by rfl) Z.gB (by rfl)) pa_nil))) pa_nil)))))
  case s2 =>
    intro a oe cls d pn hz hf
    show PSs _ _ (tsM K CM B "word" "many" a cls d)
    unfold tsM
    exact pss_one (ps_ret (pe_tup (pa_cons pe_str (pa_cons (pe_xf (xf_of XN) XN.noN hz.zc hf (pv 2)) (pa_cons (pe_callB (is1 hz hf K (by rfl) (by rfl)) (by rfl) T.isi vI (pa_cons (pv 2) (pa_cons (pe_glob (v := .ref B) (by rfl) Z.gB (by rfl)) pa_nil))) pa_nil)))))
  refine ⟨_, rfl, _, rfl, fun x dx hx hdx hne => ?_⟩
  have s0 : Same H (upd (upd H dx (.own x)) x (.ins C dx [])) := fun b o e => by
    rw [upd_ne (ne_of_none e hx), upd_ne (ne_of_none e hdx)]
    exact e
  refine ⟨x, dx, vF, vR, dF, dR, rfl, upd_same, dp_same s0 hF, dp_same s0 hR, hs, ho, fun t rs em => (hz t rs em).same s0, ?_⟩
  · cases em : made dF dR with
    | bad i =>
      rw [em] at k
      intro d H' s1 hd
      have s2 : Same H' (upd H' d (.xd [("at", .int i)])) := new_same hd _
      refine ⟨true, Z.vv, fun _ a _ => ?_, fun z => Bool.noConfusion z⟩
      refine ⟨_, rfl, rfl, rfl, d, _, .int i, rfl, upd_same, by simp [List.lookup], ?_⟩
      refine ⟨_, rfl, CV, ⟨rfl, Z.qv, d, _, rfl, upd_same⟩, _, _, _, rfl, .own _, Z.kv, (by show 3 ≤ sizeLine; decide), fun p hp => ?_⟩
      exact k p _ (s0.trans (s1.trans s2)) hp
    | many =>
      rw [em] at k
      intro d H' s1 hd
      have s2 : Same H' (upd H' d (.xd [("word", .str "fillings")])) := new_same hd _
      refine ⟨false, Z.mv, (fun z => Bool.noConfusion z), fun _ => ⟨true, Z.mm, fun _ a _ => ?_, fun z => Bool.noConfusion z⟩⟩
      refine ⟨_, rfl, rfl, rfl, d, _, .str "fillings", rfl, upd_same, by simp [List.lookup], ?_⟩
      refine ⟨_, rfl, CM, ⟨rfl, Z.qm, d, _, rfl, upd_same⟩, _, _, _, rfl, .own _, Z.km, (by show 3 ≤ sizeLine; decide), fun p hp => ?_⟩
      exact k p _ (s0.trans (s1.trans s2)) hp
    | form t rs =>
      rw [em] at k
      intro pf pr H' hk _ _ _
      refine ⟨rfl, ?_⟩
      refine k H' (fun b o e => hk b o (ne_of_none e hx) (s0 _ _ e))
end
end Q
set_option Elab.async false
set_option linter.all false
set_option maxRecDepth 100000
set_option maxHeartbeats 4000000
/-! ### _law_letter, _law_name -/
namespace Q
open PySem L2 XD
theorem Flw.off {H : Hp} {a b D : Addr} {o : HO} (F : Flw b H a) (h1 : D ≠ a) (h2 : D ≠ b) : Flw b (upd H D o) a := by
  obtain ⟨ns, p, s, c, m, w, Fl⟩ := F
  exact ⟨ns, p, s, c, m, w, by rw [upd_ne h1.symm]; exact Fl.at_, by rw [upd_ne h2.symm]; exact Fl.ls, Fl.pos⟩
theorem Flw.ne {H : Hp} {a b D : Addr} (F : Flw b H a) (h : H D = none) : D ≠ a ∧ D ≠ b := by
  obtain ⟨ns, p, s, c, m, w, Fl⟩ := F
  refine ⟨fun z => ?_, fun z => ?_⟩
  · rw [z, Fl.at_] at h
    cases h
  · rw [z, Fl.ls] at h
    cases h
def spLetter : Sp := fun vs H Q _ => ∃ a b, vs = [.ref a] ∧ Flw b H a ∧ ∀ (c : Nat) H', az c = true → Flw b H' a → Kept a H H' → Q (.str ⟨#[c]⟩) H'
theorem abc_at : ∀ n, n < 26 → atI ("abcdefghijklmnopqrstuvwxyz" : Str).cps.toList (n : Nat) = some (97 + n) ∧ az (97 + n) = true := by
  decide +kernel
section
variable {P : Program} {w : World} {K : PySem.W.Frag} {mg : Str → Option Value} {base : Heap}
theorem scLetter : FnScope ["flow"] ["flow"] (defScope sLetter) := ⟨rfl, rfl, rfl, by decide +kernel, rfl, by decide +kernel, by decide +kernel⟩
theorem ok_letter {f : Addr} {fd : FuncData} (F : Fun K "_law_letter" "_law_letter" sLetter f fd) (KD : Kn P w K mg base 2 "_law_draw" ["flow", "many"] spDraw) : FnOk P w K mg base CX0 3 f fd ["flow"] spLetter := by
  obtain ⟨fD, fdD, GD, kD, bD, mD⟩ := KD.ex
  refine F.ok scLetter (fun vs H Q E h => ?_) (fun cdv A outer s H vs Q E hr h => ?_)
  · obtain ⟨a, b, rfl, _⟩ := h
    rfl
  obtain ⟨a, b, rfl, ha, k⟩ := h
  refine ⟨_, pss_one (ps_ret (pe_ix ix_str pe_str (pe_call GD hr rfl mD kD bD .nil pass0 (pa_cons (pv 0) (pa_cons pe_int pa_nil))) (fun _ _ => rfl))), ?_⟩
  refine ⟨_, rfl, a, b, 26, rfl, ha, by decide, fun r H' h0 h1 hf hk => ?_⟩
  have h26 : r < 26 := by
    have : (if (26 : Int) > 1 then (26 : Int) else 1) = 26 := by decide
    omega
  obtain ⟨n, rfl⟩ : ∃ n : Nat, r = (n : Int) := ⟨r.toNat, by omega⟩
  obtain ⟨e1, e2⟩ := abc_at n (by omega)
  exact ⟨_, _, _, rfl, rfl, (by show 26 ≤ sizeLine; decide), e1, k _ H' e2 hf hk⟩
def signs (cs : List Nat) : List Str := cs.map fun c => ⟨#[c]⟩
def spName : Sp := fun vs H Q _ => ∃ a b, vs = [.ref a] ∧ Flw b H a ∧ ∀ (x : Str) H', word x = true → Flw b H' a → Kept a H H' → Q (.str x) H'
theorem join_signs : ∀ cs : List Nat, (Txt.join Str.empty (signs cs)).cps.toList = cs := fun cs => by
  rw [TL.join_eq]
  have e := TL.tl_join Str.empty (signs cs)
  have e2 : ∀ cs : List Nat, TL.joinL [] ((signs cs).map TL.tl) = cs := by
    intro cs
    induction cs with
    | nil => rfl
    | cons c cs ih =>
      cases cs with
      | nil => rfl
      | cons d cs =>
        show [c] ++ ([] ++ TL.joinL [] ((signs (d :: cs)).map TL.tl)) = c :: d :: cs
        rw [ih]
        rfl
  exact e.trans (e2 cs)
theorem word_signs {cs : List Nat} (h1 : 1 ≤ cs.length) (h8 : cs.length ≤ 8) (h : cs.all az = true) : word (Txt.join Str.empty (signs cs)) = true := by
  have e := join_signs cs
  have hl : (Txt.join Str.empty (signs cs)).length = cs.length := by
    have : (Txt.join Str.empty (signs cs)).length = (Txt.join Str.empty (signs cs)).cps.toList.length := by
      rw [Array.length_toList]
      rfl
    rw [this, e]
  unfold word
  rw [hl, e, decide_eq_true h1, decide_eq_true h8, h]
  rfl
theorem signs_sum : ∀ cs : List Nat, ((signs cs).map (·.length)).sum = cs.length
  | [] => rfl
  | c :: cs => by
    show 1 + ((signs cs).map (·.length)).sum = cs.length + 1
    rw [signs_sum cs]
    omega
theorem scName : FnScope ["flow", "k"] ["flow"] (defScope sName) := ⟨rfl, rfl, rfl, by decide +kernel, rfl, by decide +kernel, by decide +kernel⟩
theorem ok_name {f : Addr} {fd : FuncData} (F : Fun K "_law_name" "_law_name" sName f fd) (T : mg "range" = none) (KD : Kn P w K mg base 2 "_law_draw" ["flow", "many"] spDraw) (KL : Kn P w K mg base 3 "_law_letter" ["flow"] spLetter) : FnOk P w K mg base CX0 4 f fd ["flow"] spName := by
  obtain ⟨fD, fdD, GD, kD, bD, mD⟩ := KD.ex
  obtain ⟨fL, fdL, GL, kL, bL, mL⟩ := KL.ex
  refine F.ok scName (fun vs H Q E h => ?_) (fun cdv A outer s H vs Q E hr h => ?_)
  · obtain ⟨a, b, rfl, _⟩ := h
    rfl
  obtain ⟨a, b, rfl, ha, k⟩ := h
  refine ⟨_, pss_one (ps_ret (pe_join pe_str (pe_lc (own := [("k", 1)]) (g := gName 1) (tt := tYes) (by rfl) scName.nd (pi_range1 rfl T (pa_cons (pe_op op_add pe_int (pe_call GD (hr.mono (by decide)) rfl mD kD bD .nil pass0 (pa_cons (pv 0) (pa_cons pe_int pa_nil)))) pa_nil)) (blkOk_by (N := ["flow", "k"]) (sc := defScope sName) (by decide +kernel))
      (fun _ _ _ _ _ => pg_name (i := 1) scName.nd rfl (.inl rfl)) (fun _ _ _ _ _ => pts_nil) (fun _ _ _ _ _ => pe_call GL hr rfl mL kL bL .nil pass0 (pa_cons (pv 0) pa_nil))))), ?_⟩
  refine ⟨⟨_, rfl⟩, _, rfl, a, b, 8, rfl, ha, by decide, fun r H1 h0 h1 hf hk => ?_⟩
  have h8 : r < 8 := by
    have : (if (8 : Int) > 1 then (8 : Int) else 1) = 8 := by decide
    omega
  obtain ⟨n, rfl⟩ : ∃ n : Nat, r = (n : Int) := ⟨r.toNat, by omega⟩
  refine ⟨_, _, rfl, rfl, _, rfl, ?_, ?_, fun D hD => ?_⟩
  · have : -(2 ^ 62 : Int) ≤ 0 := by decide
    omega
  · have : (16 : Int) < 2 ^ 62 := by decide
    omega
  have en : ((1 : Int) + (n : Int)).toNat = n + 1 := by omega
  rw [en]
  obtain ⟨aD, bD⟩ := hf.ne hD
  refine lc_range (lo := 0) (n := n + 1) (fun i H' => ∃ cs : List Nat, H' D = some (.lst ((signs cs).map V.str)) ∧ cs.length = i ∧ cs.all az = true ∧ Flw b H' a ∧ Kept a H1 H') ⟨[], upd_same, rfl, rfl, hf.same (new_same hD _), Kept.of_same (new_same hD _)⟩ (fun i H' hi hP => ?_) (fun H' hP => ?_)
  · obtain ⟨cs, g1, g2, g3, g4, g5⟩ := hP
    refine ⟨rfl, ?_⟩
    unfold tYes
    refine iteT ⟨_, rfl, a, b, rfl, g4, fun c H2 hc hf2 hk2 => ?_⟩
    have g1' := hk2 D _ aD g1
    refine ⟨_, g1', small1000 ?_, cs ++ [c], ?_, ?_, ?_, ?_, ?_⟩
    · rw [List.length_map]
      unfold signs
      rw [List.length_map]
      omega
    · rw [upd_same]
      unfold signs
      rw [List.map_append, List.map_append]
      rfl
    · rw [List.length_append, g2] <;> rfl
    · rw [List.all_append, g3]
      show (true && (az c && true)) = true
      rw [hc]
      rfl
    · exact hf2.off aD bD
    · intro x o nx e
      rw [upd_ne (ne_of_none e hD)]
      exact hk2 x o nx (g5 x o nx e)
  · obtain ⟨cs, g1, g2, g3, g4, g5⟩ := hP
    refine ⟨_, D, signs cs, rfl, rfl, .inl (SqL.of g1), ?_, k _ H' (word_signs (by omega) (by omega) g3) g4 (hk.trans g5)⟩
    rw [signs_sum]
    have : Str.length ("" : Str) = 0 := rfl
    rw [this]
    omega
end
end Q
set_option Elab.async false
set_option linter.all false
set_option maxRecDepth 100000
set_option maxHeartbeats 4000000
/-! ### _law_same: of two times the same data it says True -/
namespace Q
open PySem L2 XD
/-- data to a depth, no row longer than 1000 -/
def Ds : Nat → PyData → Prop
  | 0, _ => False
  | n + 1, d => ∀ xs, rowOf d = some xs → xs.length ≤ 1000 ∧ ∀ x ∈ xs, Ds n x
def spSame (K : PySem.W.Frag) (n : Nat) : Sp := fun vs H Q _ => ∃ (v u : V) (d : PyData), vs = [v, u] ∧ Dp K H v d ∧ Dp K H u d ∧ Ds n d ∧ ∀ H', Same H H' → Q (.bl true) H'
structure Bs (mg : Str → Option Value) : Prop where
  isi : mg "isinstance" = none
  tup : mg "tuple" = none
  list : mg "list" = none
  len : mg "len" = none
  all : mg "all" = none
  range : mg "range" = none
  str : mg "str" = none
  bool : mg "bool" = none
  int : mg "int" = none
theorem all_true (n : Nat) : (List.replicate n true).all id = true := by
  induction n with
  | zero => rfl
  | succ n ih => rw [List.replicate_succ, List.all_cons, ih] <;> rfl
theorem iteNS {c : Bool} {A B : Prop} (h : c = false) (b : B) : if c = true then A else B := by
  rw [h]
  exact iteF b
theorem dps_get2 {K : PySem.W.Frag} {H : Hp} {vs us : List V} {ds : List PyData} {i : Nat} (h1 : DpAll K H vs ds) (h2 : DpAll K H us ds) (hi : i < ds.length) : ∃ v u d, vs[i]? = some v ∧ us[i]? = some u ∧ ds[i]? = some d ∧ Dp K H v d ∧ Dp K H u d := by
  have l1 := dps_len h1
  have l2 := dps_len h2
  have e1 : vs[i]? = some vs[i] := List.getElem?_eq_getElem (by omega)
  have e2 : us[i]? = some us[i] := List.getElem?_eq_getElem (by omega)
  obtain ⟨d, g1, g2⟩ := dps_get h1 e1
  obtain ⟨d', g3, g4⟩ := dps_get h2 e2
  rw [g1] at g3
  cases g3
  exact ⟨_, _, d, e1, e2, g1, g2, g4⟩
section
variable {P : Program} {w : World} {K : PySem.W.Frag} {mg : Str → Option Value} {base : Heap}
theorem scSame : FnScope ["actual", "due", "k"] ["actual", "due"] (defScope sSame) := ⟨rfl, rfl, rfl, by decide +kernel, rfl, by decide +kernel, by decide +kernel⟩
theorem same_none {f : Addr} {fd : FuncData} : FnOk P w K mg base CX0 0 f fd ["actual", "due"] (spSame K 0) := by
  have no : ∀ vs H Q E, ¬ spSame K 0 vs H Q E := fun vs H Q E h => by
    obtain ⟨v, u, d, _, _, _, z, _⟩ := h
    exact z
  exact ⟨fun vs H Q E h => absurd h (no vs H Q E), fun A outer s H args us vs Q E _ _ _ _ h => absurd h (no vs H Q E)⟩
theorem ok_same {f : Addr} {fd : FuncData} {n : Nat} (F : Fun K "_law_same" "_law_same" sSame f fd) (T : Bs mg) (G : FnOk P w K mg base CX0 n f fd ["actual", "due"] (spSame K n)) (bG : Binds K fd ["actual", "due"] []) (mG : mg "_law_same" = some (.ref f)) :
    FnOk P w K mg base CX0 (n + 1) f fd ["actual", "due"] (spSame K (n + 1)) := by
  refine F.ok scSame (fun vs H Q E h => ?_) (fun cdv A outer s H vs Q E hr h => ?_)
  · obtain ⟨v, u, d, rfl, _⟩ := h
    rfl
  obtain ⟨v, u, d, rfl, h1, h2, hd, k⟩ := h
  have vt : PySem.bootBuiltins "tuple" = some (.type "tuple") := by decide +kernel
  have vl : PySem.bootBuiltins "list" = some (.type "list") := by decide +kernel
  have vs_ : PySem.bootBuiltins "str" = some (.type "str") := by decide +kernel
  have vb : PySem.bootBuiltins "bool" = some (.type "bool") := by decide +kernel
  have vi : PySem.bootBuiltins "int" = some (.type "int") := by decide +kernel
  refine ⟨_, pss_cons (ps_if (PW.pt (pw_or (pt_val (pe_isi T.isi T.tup vt (pv 1))) (pw_or1 (pt_val (pe_isi T.isi T.list vl (pv 1))))))
      (pss_cons (ps_if (PW.pt (pw_or (pt_cmpR op_ne (pe_isi T.isi T.tup vt (pv 1)) (pe_isi T.isi T.tup vt (pv 0)) (nomark _)) (pw_or1 (pt_cmpR op_ne (pe_isi T.isi T.list vl (pv 1)) (pe_isi T.isi T.list vl (pv 0)) (nomark _)))))
        (pss_one (ps_ret pe_bl)) pss_nil)
      (pss_one (ps_ret (pe_and (pe_cmpR op_eq (pe_callB call_len_seq rfl T.len PySem.boot_len (pa_cons (pv 0) pa_nil)) (pe_callB call_len_seq rfl T.len PySem.boot_len (pa_cons (pv 1) pa_nil)) (nomark _))
        (pe_one (pe_callB (cr_all (by rfl)) rfl T.all (by decide +kernel) (pa_cons (pe_lc (own := [("k", 2)]) (g := gName 2) (tt := tYes) (by rfl) scSame.nd
          (pi_range1 rfl T.range (pa_cons (pe_callB call_len_seq rfl T.len PySem.boot_len (pa_cons (pv 1) pa_nil)) pa_nil)) (blkOk_by (N := ["actual", "due", "k"]) (sc := defScope sSame) (by decide +kernel))
          (fun _ _ _ _ _ => pg_name (i := 2) scSame.nd rfl (.inl rfl)) (fun _ _ _ _ _ => pts_nil)
          (fun _ _ _ _ _ => pe_call G hr rfl mG F.kp bG .nil pass0 (pa_cons (pe_ix (ix_both K rfl) (pv 0) (pv 2) (fun _ _ => rfl)) (pa_cons (pe_ix (ix_both K rfl) (pv 1) (pv 2) (fun _ _ => rfl)) pa_nil)))) pa_nil))))))) pss_nil)
    (pss_cons (ps_if (pt_cmp (pc_isN (pv 1))) (pss_one (ps_ret (pe_cmp (pc_isN (pv 0))))) pss_nil)
    (pss_cons (ps_if (pt_val (pe_isi T.isi T.str vs_ (pv 1))) (pss_one (ps_ret (pe_and (pe_isi T.isi T.str vs_ (pv 0)) (pe_one (pe_cmpR op_eq (pv 0) (pv 1) (nomark _)))))) pss_nil)
    (pss_cons (ps_if (pt_val (pe_isi T.isi T.bool vb (pv 1))) (pss_one (ps_ret (pe_and (pe_isi T.isi T.bool vb (pv 0)) (pe_one (pe_cmpR op_eq (pv 0) (pv 1) (nomark _)))))) pss_nil)
    (pss_one (ps_ret (pe_and (pe_isi T.isi T.int vi (pv 0)) (pe_and (pe_not (pe_isi T.isi T.bool vb (pv 0))) (pe_one (pe_cmpR op_eq (pv 0) (pv 1) (nomark _)))))))))), ?_⟩
  have row : ∀ (xs : List PyData) (p q : Addr) (ys zs : List V), rowOf d = some xs → (SqL K H p ys ∨ SqT K H p ys) → (SqL K H q zs ∨ SqT K H q zs) → DpAll K H ys xs → DpAll K H zs xs →
      (tAndV (tOp rEq (tCB (fun xs H Q => ∃ p ys, xs = [.ref p] ∧ (SqL K H p ys ∨ SqT K H p ys) ∧ Q (.int ys.length) H) (tCons (tVar 0) tNil)) (tCB (fun xs H Q => ∃ p ys, xs = [.ref p] ∧ (SqL K H p ys ∨ SqT K H p ys) ∧ Q (.int ys.length) H) (tCons (tVar 1) tNil)))
        (tCB (rAll K) (tCons (tLc (iRng1 (tCons (tCB (fun xs H Q => ∃ p ys, xs = [.ref p] ∧ (SqL K H p ys ∨ SqT K H p ys) ∧ Q (.int ys.length) H) (tCons (tVar 1) tNil)) tNil)) (gName 2) tYes (tCall (spSame K n) [] E0 (tCons (tOp (rBoth K) (tVar 0) (tVar 2)) (tCons (tOp (rBoth K) (tVar 1) (tVar 2)) tNil))) [2]) tNil)))
      [some (.ref p), some (.ref q), none] H Q := fun xs p q ys zs er hp hq ha hb => by
    obtain ⟨hl, hm⟩ := hd xs er
    have l1 := dps_len ha
    have l2 := dps_len hb
    refine ⟨_, rfl, p, ys, rfl, hp, _, rfl, q, zs, rfl, hq, rfl, _, rfl, iteDT (by rw [l1, l2]) ?_⟩
    refine ⟨_, rfl, q, zs, rfl, hq, _, rfl, ?_, ?_, fun D hD => ?_⟩
    · have : -(2 ^ 62 : Int) ≤ 0 := by decide
      omega
    · have : (1001 : Int) < 2 ^ 62 := by decide
      omega
    rw [l2]
    refine lc_range (lo := 0) (n := xs.length) (fun i H' => H' D = some (.lst ((List.replicate i true).map V.bl)) ∧ Same H H') ⟨upd_same, new_same hD _⟩ (fun i H' hi hP => ?_) (fun H' hP => ⟨_, _, rfl, SqL.of hP.1, q_is (all_true _) (k _ hP.2)⟩)
    obtain ⟨hL, s5⟩ := hP
    obtain ⟨x, y, e, g1, g2, g3, g4, g5⟩ := dps_get2 ha hb hi
    have ei : (0 : Int) + (i : Int) = ((i : Nat) : Int) := by omega
    refine ⟨rfl, ?_⟩
    unfold tYes
    refine iteT ⟨_, rfl, _, rfl, ix_row (sq_same s5 hp) (at_of ei g1) ⟨_, rfl, _, rfl, ix_row (sq_same s5 hq) (at_of ei g2) ⟨x, y, e, rfl, dp_same s5 g4, dp_same s5 g5, hm e (List.mem_of_getElem? g3), fun H2 s6 => ?_⟩⟩⟩
    refine ⟨_, s6 _ _ hL, small1000 (by rw [List.length_map, List.length_replicate]; omega), ?_, fun b o z => ?_⟩
    · rw [upd_same, List.replicate_succ', List.map_append]
      rfl
    · rw [upd_ne (ne_of_none z hD)]
      exact s6 _ _ (s5 _ _ z)
  cases d with
  | dict kvs => exact absurd rfl (dp_no_dict h1 kvs)
  | none =>
    cases h1
    cases h2
    refine ⟨_, rfl, _, _, _, _, _, rfl, .ty _, .base .non, kit_ty (r := false) (by decide +kernel), _, rfl, iteF ⟨_, rfl, _, _, _, _, _, rfl, .ty _, .base .non, kit_ty (r := false) (by decide +kernel), _, rfl, iteF ?_⟩⟩
    exact ⟨_, rfl, _, rfl, iteDT rfl ⟨_, rfl, q_is (decide_eq_true rfl) (k H (Same.refl H))⟩⟩
  | str x =>
    cases h1
    cases h2
    refine ⟨_, rfl, _, _, _, _, _, rfl, .ty _, .base (.str x), kit_ty (r := false) (by decide +kernel), _, rfl, iteF ⟨_, rfl, _, _, _, _, _, rfl, .ty _, .base (.str x), kit_ty (r := false) (by decide +kernel), _, rfl, iteF ?_⟩⟩
    refine ⟨_, rfl, _, rfl, iteDF (by intro z; cases z) ⟨_, rfl, _, _, _, _, _, rfl, .ty _, .base (.str x), kit_ty (r := true) (by decide +kernel), _, rfl, iteT ?_⟩⟩
    exact ⟨_, rfl, _, _, _, _, _, rfl, .ty _, .base (.str x), kit_ty (r := true) (by decide +kernel), _, rfl, iteT ⟨_, rfl, _, rfl, rfl, q_is (decide_eq_true rfl) (k H (Same.refl H))⟩⟩
  | bool b =>
    cases h1
    cases h2
    refine ⟨_, rfl, _, _, _, _, _, rfl, .ty _, .base (.bl b), kit_ty (r := false) (by decide +kernel), _, rfl, iteF ⟨_, rfl, _, _, _, _, _, rfl, .ty _, .base (.bl b), kit_ty (r := false) (by decide +kernel), _, rfl, iteF ?_⟩⟩
    refine ⟨_, rfl, _, rfl, iteDF (by intro z; cases z) ⟨_, rfl, _, _, _, _, _, rfl, .ty _, .base (.bl b), kit_ty (r := false) (by decide +kernel), _, rfl, iteF ?_⟩⟩
    refine ⟨_, rfl, _, _, _, _, _, rfl, .ty _, .base (.bl b), kit_ty (r := true) (by decide +kernel), _, rfl, iteT ?_⟩
    exact ⟨_, rfl, _, _, _, _, _, rfl, .ty _, .base (.bl b), kit_ty (r := true) (by decide +kernel), _, rfl, iteT ⟨_, rfl, _, rfl, rfl, q_is (decide_eq_true rfl) (k H (Same.refl H))⟩⟩
  | int i =>
    cases h1
    cases h2
    refine ⟨_, rfl, _, _, _, _, _, rfl, .ty _, .base (.int i), kit_ty (r := false) (by decide +kernel), _, rfl, iteF ⟨_, rfl, _, _, _, _, _, rfl, .ty _, .base (.int i), kit_ty (r := false) (by decide +kernel), _, rfl, iteF ?_⟩⟩
    refine ⟨_, rfl, _, rfl, iteDF (by intro z; cases z) ⟨_, rfl, _, _, _, _, _, rfl, .ty _, .base (.int i), kit_ty (r := false) (by decide +kernel), _, rfl, iteF ?_⟩⟩
    refine ⟨_, rfl, _, _, _, _, _, rfl, .ty _, .base (.int i), kit_ty (r := false) (by decide +kernel), _, rfl, iteF ?_⟩
    refine ⟨_, rfl, _, _, _, _, _, rfl, .ty _, .base (.int i), kit_ty (r := true) (by decide +kernel), _, rfl, iteT ?_⟩
    exact ⟨_, rfl, _, _, _, _, _, rfl, .ty _, .base (.int i), kit_ty (r := false) (by decide +kernel), _, rfl, _, rfl, iteT ⟨_, rfl, _, rfl, rfl, q_is (decide_eq_true rfl) (k H (Same.refl H))⟩⟩
  | list xs =>
    have t1 : TyX K H v (.type "list") := tyD h1
    have t2 : TyX K H u (.type "list") := tyD h2
    cases h1 with
    | lst hp ha =>
      cases h2 with
      | lst hq hb =>
        refine ⟨_, rfl, _, _, _, _, _, rfl, .ty _, t2, kit_ty (r := false) (by decide +kernel), _, rfl, iteF ⟨_, rfl, _, _, _, _, _, rfl, .ty _, t2, kit_ty (r := true) (by decide +kernel), _, rfl, iteT ?_⟩⟩
        refine ⟨_, rfl, _, _, _, _, _, rfl, .ty _, t2, kit_ty (r := false) (by decide +kernel), _, rfl, _, _, _, _, _, rfl, .ty _, t1, kit_ty (r := false) (by decide +kernel), rfl, _, rfl, iteNS rfl ?_⟩
        refine ⟨_, rfl, _, _, _, _, _, rfl, .ty _, t2, kit_ty (r := true) (by decide +kernel), _, rfl, _, _, _, _, _, rfl, .ty _, t1, kit_ty (r := true) (by decide +kernel), rfl, _, rfl, iteNS rfl ?_⟩
        exact row xs _ _ _ _ rfl (.inl hp) (.inl hq) ha hb
  | tuple xs =>
    have t1 : TyX K H v (.type "tuple") := tyD h1
    have t2 : TyX K H u (.type "tuple") := tyD h2
    cases h1 with
    | tup hp ha =>
      cases h2 with
      | tup hq hb =>
        refine ⟨_, rfl, _, _, _, _, _, rfl, .ty _, t2, kit_ty (r := true) (by decide +kernel), _, rfl, iteT (iteT ?_)⟩
        refine ⟨_, rfl, _, _, _, _, _, rfl, .ty _, t2, kit_ty (r := true) (by decide +kernel), _, rfl, _, _, _, _, _, rfl, .ty _, t1, kit_ty (r := true) (by decide +kernel), rfl, _, rfl, iteNS rfl ?_⟩
        refine ⟨_, rfl, _, _, _, _, _, rfl, .ty _, t2, kit_ty (r := false) (by decide +kernel), _, rfl, _, _, _, _, _, rfl, .ty _, t1, kit_ty (r := false) (by decide +kernel), rfl, _, rfl, iteNS rfl ?_⟩
        exact row xs _ _ _ _ rfl (.inr hp) (.inr hq) ha hb
/-- the recursion, to any depth -/
theorem same_all {f : Addr} {fd : FuncData} (F : Fun K "_law_same" "_law_same" sSame f fd) (T : Bs mg) (bG : Binds K fd ["actual", "due"] []) (mG : mg "_law_same" = some (.ref f)) :
    ∀ n : Nat, FnOk P w K mg base CX0 n f fd ["actual", "due"] (spSame K n)
  | 0 => same_none
  | n + 1 => ok_same F T (same_all F T bG mG n) bG mG
end
end Q
set_option Elab.async false
set_option linter.all false
set_option maxRecDepth 100000
set_option maxHeartbeats 4000000
/-! ### _law_sorted -/
namespace Q
open PySem L2 XD
/-- the pairs in the sequence of the table, as the law finds them -/
def bySeq (t : List (Str × List Str)) (r : List (Str × Str)) : List (Str × Str) := t.flatMap fun e => r.filter fun f => decide (f.1 = e.1)
theorem bySeq_next {t : List (Str × List Str)} {r : List (Str × Str)} {i : Nat} {e : Str × List Str} (h : t[i]? = some e) : bySeq (t.take (i + 1)) r = bySeq (t.take i) r ++ r.filter fun f => decide (f.1 = e.1) := by
  unfold bySeq
  rw [take_one h, List.flatMap_append]
  simp
theorem prd_app {α β : Type} {R : α → β → Prop} : ∀ {xs xs2 : List α} {ys ys2 : List β}, Paired R xs ys → Paired R xs2 ys2 → Paired R (xs ++ xs2) (ys ++ ys2)
  | _, _, _, _, .nil, h => h
  | _, _, _, _, .cons a b, h => .cons a (prd_app b h)
def spSorted (K : PySem.W.Frag) : Sp := fun vs H Q _ => ∃ (p q : Addr) (ps : List Addr) (kvs : List (Key × V)) (t : List (Str × List Str)) (qs : List Addr) (r : List (Str × Str)), vs = [.ref p, .ref q] ∧ (SqL K H p (ps.map V.ref) ∨ SqT K H p (ps.map V.ref)) ∧ TabR K H ps kvs t ∧
  (SqL K H q (qs.map V.ref) ∨ SqT K H q (qs.map V.ref)) ∧ Paired (fun q (e : Str × Str) => SqT K H q [.str e.1, .str e.2]) qs r ∧ t.length ≤ 6 ∧ r.length ≤ 10 ∧ ∀ z H', Same H H' → RuleAt K H' z (bySeq t r) → Q (.ref z) H'
section
variable {P : Program} {w : World} {K : PySem.W.Frag} {mg : Str → Option Value} {base : Heap}
theorem scSorted : FnScope ["table", "ban", "found", "name", "values", "pair"] ["table", "ban"] (defScope sSorted) := ⟨rfl, rfl, rfl, by decide +kernel, rfl, by decide +kernel, by decide +kernel⟩
theorem ok_sorted {f : Addr} {fd : FuncData} (F : Fun K "_law_sorted" "_law_sorted" sSorted f fd) (T : mg "tuple" = none) : FnOk P w K mg base CX0 1 f fd ["table", "ban"] (spSorted K) := by
  refine F.ok scSorted (fun vs H Q E h => ?_) (fun cdv A outer s H vs Q E hr h => ?_)
  · obtain ⟨p, q, ps, kvs, t, qs, r, rfl, _⟩ := h
    rfl
  obtain ⟨p, q, ps, kvs, t, qs, r, rfl, hp, hT, hq, hR, hl6, hl10, k⟩ := h
  have vt_ : PySem.bootBuiltins "tuple" = some (.type "tuple") := by decide +kernel
  refine ⟨_, pss_cons (ps_set (i := 2) scSorted.nd rfl (.inl rfl) (pe_lst pa_nil))
    (pss_cons (ps_for PassesOwn.never rfl (pi_row (pv 0)) (pg_row rfl (pgs_cons (pg_name (i := 3) scSorted.nd rfl (.inr rfl)) (pgs_cons (pg_name (i := 4) scSorted.nd rfl (.inl rfl)) pgs_nil)))
      (pss_one (ps_set (i := 2) scSorted.nd rfl (.inl rfl) (pe_op op_cat (pv 2) (pe_lc (own := [("pair", 5)]) (g := gName 5) (by rfl) scSorted.nd (pi_row (pv 1)) (blkOk_by (N := ["table", "ban", "found", "name", "values", "pair"]) (sc := defScope sSorted) (by decide +kernel))
        (fun _ _ _ _ _ => pg_name (i := 5) scSorted.nd rfl (.inl rfl)) (fun _ _ _ _ _ => pts_one (pt_cmpR op_eq (pe_ix (ix_both K rfl) (pv 5) pe_int (fun _ _ => rfl)) (pv 3) (nomark _))) (fun _ _ _ _ _ => pv 5))))))
    (pss_one (ps_ret (pe_callTy (call_tupK K rfl) rfl T vt_ (pa_cons (pv 2) pa_nil))))), ?_⟩
  refine ⟨by show 0 ≤ sizeLine; decide, fun B hB => ?_⟩
  have hlen : (ps.map V.ref).length = t.length := by rw [List.length_map, hT.len.1]
  have s1 : Same H (upd H B (.lst [])) := new_same hB _
  show tFor (iRow K (tVar 0)) _ _ _ [some (.ref p), some (.ref q), some (.ref B), none, none, none] _
  refine for_row (ys := ps.map V.ref) (H0 := H) (fun i σ H' => ∃ (B : Addr) (f3 f4 f5 : Option V) (zs : List Addr), σ = [some (.ref p), some (.ref q), some (.ref B), f3, f4, f5] ∧ H' B = some (.lst (zs.map V.ref)) ∧ Paired (fun q (e : Str × Str) => SqT K H q [.str e.1, .str e.2]) zs (bySeq (t.take i) r) ∧ zs.length ≤ 10 * i ∧ Same H H') (fun Q' z => ⟨_, rfl, z⟩) hp
    ⟨B, none, none, none, [], rfl, upd_same, .nil, Nat.le_refl _, s1⟩ ?_ ?_ ?_
  · rintro i σ H' ⟨_, _, _, _, _, _, _, _, _, z⟩
    exact z
  · rintro i x σ H' hi ⟨B, f3, f4, f5, zs, rfl, g1, g2, g3, g4⟩ hx
    obtain ⟨q1, v1, n, ws, rfl, e1, e2, e3⟩ := hT.at hx
    refine .inl ⟨q1, _, rfl, seqT_same g4 e2, rfl, .str n, _, rfl, .ref v1, [], rfl, rfl, ?_⟩
    refine ⟨_, rfl, ?_⟩
    have hqs : (qs.map V.ref).length = r.length := by rw [List.length_map, prd_len hR]
    refine lc_row (ys := qs.map V.ref) (fun D j H2 => ∃ ms : List Addr, H2 D = some (.lst (ms.map V.ref)) ∧ Paired (fun q (e : Str × Str) => SqT K H q [.str e.1, .str e.2]) ms ((r.take j).filter fun f => decide (f.1 = n)) ∧ ms.length ≤ j ∧ Same H' H2) (fun Q' z => ⟨_, rfl, z⟩) (sq_same g4 hq)
      (fun D hD => ⟨[], upd_same, .nil, Nat.le_refl _, new_same hD _⟩) (fun D j H2 _ hP => by obtain ⟨_, _, _, _, z⟩ := hP; exact z) (fun D j x H2 hD hj hP hx => ?_) (fun D H2 hD hP => ?_)
    · obtain ⟨ms, m1, m2, m3, m4⟩ := hP
      obtain ⟨pr, e0, rfl⟩ : ∃ pr, qs[j]? = some pr ∧ x = .ref pr := by
        rw [List.getElem?_map] at hx
        cases e : qs[j]? with
        | none =>
          rw [e] at hx
          cases hx
        | some pr =>
          rw [e] at hx
          cases hx
          exact ⟨pr, rfl, rfl⟩
      obtain ⟨e, er, es⟩ := prd_at hR e0
      refine ⟨rfl, ?_⟩
      refine ⟨_, rfl, ix_row (.inr (seqT_same (g4.trans m4) es)) rfl ⟨_, rfl, rfl, _, rfl, ?_⟩⟩
      have ed : decide (V.str e.1 = V.str n) = decide (e.1 = n) := decide_eq_decide.mpr ⟨fun z => V.str.inj z, fun z => by rw [z]⟩
      rw [ed]
      have hnx : (r.take (j + 1)).filter (fun f => decide (f.1 = n)) = (r.take j).filter (fun f => decide (f.1 = n)) ++ if e.1 = n then [e] else [] := by
        rw [take_one er, List.filter_append]
        by_cases z : e.1 = n
        · simp [z]
        · simp [z]
      by_cases hn : e.1 = n
      · rw [if_pos hn] at hnx
        refine iteDT hn ⟨_, rfl, _, m1, small1000 (by rw [List.length_map]; omega), ms ++ [pr], ?_, ?_, ?_, fun b o z => ?_⟩
        · rw [upd_same, List.map_append] <;> rfl
        · rw [hnx]
          exact prd_snoc m2 es
        · rw [List.length_append, List.length_singleton]
          omega
        · rw [upd_ne (ne_of_none z hD)]
          exact m4 _ _ z
      · rw [if_neg hn, List.append_nil] at hnx
        exact iteDF hn ⟨ms, m1, by rw [hnx]; exact m2, by omega, m4⟩
    · obtain ⟨ms, m1, m2, m3, m4⟩ := hP
      rw [List.take_of_length_le (by omega)] at m2
      refine ⟨B, D, _, _, rfl, rfl, m4 _ _ g1, m1, ?_, fun B2 hB2 => ?_⟩
      · have : 1000 ≤ sizeLine := by decide
        rw [List.length_map, List.length_map]
        omega
      · refine ⟨B2, _, _, _, zs ++ ms, rfl, ?_, ?_, ?_, (g4.trans m4).trans (new_same hB2 _)⟩
        · rw [upd_same, List.map_append]
        · rw [bySeq_next e1]
          exact prd_app g2 m2
        · rw [List.length_append]
          omega
  · rintro σ H' ⟨B, f3, f4, f5, zs, rfl, g1, g2, g3, g4⟩
    rw [List.take_of_length_le (by omega)] at g2
    refine ⟨_, rfl, B, _, rfl, .inl ⟨SqL.of g1, fun l o hl ho => ?_⟩⟩
    have sl : Same H' (upd H' l (.frz o (.tup (zs.map V.ref)))) := new_same hl _
    exact k l _ (g4.trans sl) ⟨zs, ⟨o, upd_same, ho⟩, prd_same (g4.trans sl) g2⟩
end
end Q
set_option Elab.async false
set_option linter.all false
set_option maxRecDepth 100000
set_option maxHeartbeats 4000000
/-! ### _law_told -/
namespace Q
open PySem L2 XD
/-- a rule as the law hands it in -/
def BanAt (K : PySem.W.Frag) (H : Hp) (b : Addr) (r : List (Str × Str)) : Prop := ∃ ms : List Addr, (SqL K H b (ms.map V.ref) ∨ SqT K H b (ms.map V.ref)) ∧ Paired (fun q (e : Str × Str) => SqT K H q [.str e.1, .str e.2]) ms r
theorem bySeq_mem {t : List (Str × List Str)} {r : List (Str × Str)} {e : Str × Str} (h : e ∈ bySeq t r) : e ∈ r := by
  unfold bySeq at h
  obtain ⟨f, _, h2⟩ := List.mem_flatMap.mp h
  exact (List.mem_filter.mp h2).1
def spTold (K : PySem.W.Frag) : Sp := fun vs H Q _ => ∃ (p q : Addr) (ps : List Addr) (kvs : List (Key × V)) (t : List (Str × List Str)) (qs : List Addr) (rs : List (List (Str × Str))), vs = [.ref p, .ref q] ∧ (SqL K H p (ps.map V.ref) ∨ SqT K H p (ps.map V.ref)) ∧ TabR K H ps kvs t ∧
  (SqL K H q (qs.map V.ref) ∨ SqT K H q (qs.map V.ref)) ∧ Paired (BanAt K H) qs rs ∧ t.length ≤ 6 ∧ rs.length ≤ 100 ∧ (∀ r ∈ rs, r.length ≤ 10 ∧ RStr r) ∧ ∀ z H', Same H H' → RulesAt K H' z (once (rs.map (bySeq t))) → Q (.ref z) H'
section
variable {P : Program} {w : World} {K : PySem.W.Frag} {mg : Str → Option Value} {base : Heap}
theorem scTold : FnScope ["table", "bans", "found", "ban", "row"] ["table", "bans"] (defScope sTold) := ⟨rfl, rfl, rfl, by decide +kernel, rfl, by decide +kernel, by decide +kernel⟩
theorem ok_told {f : Addr} {fd : FuncData} (F : Fun K "_law_told" "_law_told" sTold f fd) (T : mg "tuple" = none) (KS : Kn P w K mg base 1 "_law_sorted" ["table", "ban"] (spSorted K)) : FnOk P w K mg base CX0 2 f fd ["table", "bans"] (spTold K) := by
  obtain ⟨fS, fdS, GS, kS, bS, mS⟩ := KS.ex
  refine F.ok scTold (fun vs H Q E h => ?_) (fun cdv A outer s H vs Q E hr h => ?_)
  · obtain ⟨p, q, ps, kvs, t, qs, rs, rfl, _⟩ := h
    rfl
  obtain ⟨p, q, ps, kvs, t, qs, rs, rfl, hp, hT, hq, hR, hl6, hl100, hs, k⟩ := h
  have vt_ : PySem.bootBuiltins "tuple" = some (.type "tuple") := by decide +kernel
  have hu2 : (A.deeper (PyProof.Rows.envOfC "_law_told" (defScope sTold) s.heap.objs.size f cdv)).units + 65 < cLine := by
    have := hr.un
    omega
  refine ⟨_, pss_cons (ps_set (i := 2) scTold.nd rfl (.inl rfl) (pe_lst pa_nil))
    (pss_cons (ps_for PassesOwn.never rfl (pi_row (pv 1)) (pg_name (i := 3) scTold.nd rfl (.inl rfl))
      (pss_cons (ps_set (i := 4) scTold.nd rfl (.inl rfl) (pe_call GS hr rfl mS kS bS .nil pass0 (pa_cons (pv 0) (pa_cons (pv 3) pa_nil))))
      (pss_one (ps_if (pt_cmpR (op_notInD hu2) (pv 4) (pv 2) (by with_unfolding_all rfl))
        (pss_one (ps_expr (pe_bm PySem.F.plainAttrs_list PySem.F.slot_list_append PySem.F.type_list_append mt_append (pv 2) (pa_cons (pv 4) pa_nil)))) pss_nil))))
    (pss_one (ps_ret (pe_callTy (call_tupK K rfl) rfl T vt_ (pa_cons (pv 2) pa_nil))))), ?_⟩
  refine ⟨by show 0 ≤ sizeLine; decide, fun B hB => ?_⟩
  have hlen : (qs.map V.ref).length = rs.length := by rw [List.length_map, prd_len hR]
  have s1 : Same H (upd H B (.lst [])) := new_same hB _
  show tFor (iRow K (tVar 1)) _ _ _ [some (.ref p), some (.ref q), some (.ref B), none, none] _
  refine for_row (ys := qs.map V.ref) (H0 := H) (fun i σ H' => ∃ (f3 f4 : Option V) (ks : List Addr), σ = [some (.ref p), some (.ref q), some (.ref B), f3, f4] ∧ H' B = some (.lst (ks.map V.ref)) ∧ Paired (RuleAt K H') ks (once ((rs.map (bySeq t)).take i)) ∧ (∀ r ∈ once ((rs.map (bySeq t)).take i), RStr r) ∧ ks.length ≤ i ∧ Same H H') (fun Q' z => ⟨_, rfl, z⟩) hq
    ⟨none, none, [], rfl, upd_same, .nil, (fun (r : List (Str × Str)) (h : r ∈ ([] : List (List (Str × Str)))) => absurd h List.not_mem_nil), Nat.le_refl _, s1⟩ ?_ ?_ ?_
  · rintro i σ H' ⟨_, _, _, _, _, _, _, _, z⟩
    exact z
  · rintro i x σ H' hi ⟨f3, f4, ks, rfl, g1, g2, g3, g4, g5⟩ hx
    obtain ⟨pr, e0, rfl⟩ : ∃ pr, qs[i]? = some pr ∧ x = .ref pr := by
      rw [List.getElem?_map] at hx
      cases e : qs[i]? with
      | none =>
        rw [e] at hx
        cases hx
      | some pr =>
        rw [e] at hx
        cases hx
        exact ⟨pr, rfl, rfl⟩
    obtain ⟨r, e1, ms, hb, hm⟩ := prd_at hR e0
    have hrm : r ∈ rs := List.mem_of_getElem? e1
    have hrs : RStr (bySeq t r) := fun e he => (hs r hrm).2 e (bySeq_mem he)
    have e2 : (rs.map (bySeq t))[i]? = some (bySeq t r) := by rw [List.getElem?_map, e1] <;> rfl
    have hnx := once_next e2
    refine ⟨_, rfl, _, rfl, p, pr, ps, kvs, t, ms, r, rfl, sq_same g5 hp, hT.same g5, sq_same g5 hb, prd_same g5 hm, hl6, (hs r hrm).1, fun z H2 s2 hz => ?_⟩
    have g1' := s2 _ _ g1
    have g2' := rules_same s2 g2
    have hany : ((once ((rs.map (bySeq t)).take i)).map ruleD).any (fun z => PyData.eqv z (ruleD (bySeq t r))) = decide (bySeq t r ∈ once ((rs.map (bySeq t)).take i)) := by
      rw [List.any_map]
      refine (List.any_eq (p := _)).trans (decide_eq_decide.mpr ⟨fun ⟨y, h1, h2⟩ => ?_, fun h1 => ⟨bySeq t r, h1, ?_⟩⟩)
      · have h3 : PyData.eqv (ruleD y) (ruleD (bySeq t r)) = true := h2
        rw [eqv_rule] at h3
        exact (of_decide_eq_true h3) ▸ h1
      · show PyData.eqv (ruleD (bySeq t r)) (ruleD (bySeq t r)) = true
        rw [eqv_rule]
        exact decide_eq_true rfl
    refine ⟨_, rfl, _, rfl, ruleD (bySeq t r), (once ((rs.map (bySeq t)).take i)).map ruleD, hz.dp, .lst (SqL.of g1') (rules_dps g2'), rule_shaped hrs, rules_shaped g3, _, rfl, ?_⟩
    rw [hany]
    by_cases hin : bySeq t r ∈ once ((rs.map (bySeq t)).take i)
    · rw [if_pos hin] at hnx
      rw [decide_eq_true hin]
      exact iteF ⟨_, _, ks, rfl, g1', by rw [hnx]; exact g2', by rw [hnx]; exact g3, by omega, g5.trans s2⟩
    · rw [if_neg hin] at hnx
      rw [decide_eq_false hin]
      refine iteT ⟨_, rfl, .inl ⟨rfl, _, SqL.of g1'⟩, _, rfl, B, _, _, rfl, rfl, g1', small1000 (by rw [List.length_map]; omega), ?_⟩
      refine ⟨_, _, ks ++ [z], rfl, ?_, ?_, ?_, ?_, fun b o y => ?_⟩
      · rw [upd_same, List.map_append] <;> rfl
      · rw [hnx]
        exact rules_off g1' (prd_snoc g2' hz)
      · rw [hnx]
        intro r' h'
        rcases List.mem_append.mp h' with h' | h'
        · exact g3 r' h'
        · rw [List.mem_singleton.mp h']
          exact hrs
      · rw [List.length_append, List.length_singleton]
        omega
      · rw [upd_ne (ne_of_none y hB)]
        exact s2 _ _ (g5 _ _ y)
  · rintro σ H' ⟨f3, f4, ks, rfl, g1, g2, g3, g4, g5⟩
    rw [List.take_of_length_le (by rw [List.length_map]; omega)] at g2
    refine ⟨_, rfl, B, _, rfl, .inl ⟨SqL.of g1, fun l o hl ho => ?_⟩⟩
    have sl : Same H' (upd H' l (.frz o (.tup (ks.map V.ref)))) := new_same hl _
    exact k l _ (g5.trans sl) ⟨ks, ⟨o, upd_same, ho⟩, rules_same sl g2⟩
end
end Q
set_option Elab.async false
set_option linter.all false
set_option maxRecDepth 100000
set_option maxHeartbeats 4000000
/-! ### _law_right -/
namespace Q
open PySem L2 XD
theorem ds_strs (n : Nat) (ws : List Str) (h : ws.length ≤ 1000) : Ds (n + 2) (.tuple (ws.map PyData.str)) := fun xs e => by
  cases e
  refine ⟨by rw [List.length_map]; exact h, fun x hx => ?_⟩
  obtain ⟨w, _, rfl⟩ := List.mem_map.mp hx
  exact fun xs e => by cases e
theorem ds_tab {t : List (Str × List Str)} (h : t.length ≤ 1000) (h2 : ∀ e ∈ t, e.2.length ≤ 1000) : Ds 5 (tabD t) := fun xs e => by
  cases e
  refine ⟨by rw [List.length_map]; exact h, fun x hx => ?_⟩
  obtain ⟨e, he, rfl⟩ := List.mem_map.mp hx
  intro xs e1
  cases e1
  refine ⟨by show 2 ≤ 1000; decide, fun y hy => ?_⟩
  rcases List.mem_cons.mp hy with rfl | hy
  · exact fun xs e => by cases e
  · rw [List.mem_singleton.mp hy]
    exact ds_strs 1 e.2 (h2 e he)
theorem ds_rules {rs : List (List (Str × Str))} (h : rs.length ≤ 1000) (h2 : ∀ r ∈ rs, r.length ≤ 1000) : Ds 5 (rulesD rs) := fun xs e => by
  cases e
  refine ⟨by rw [List.length_map]; exact h, fun x hx => ?_⟩
  obtain ⟨r, hr, rfl⟩ := List.mem_map.mp hx
  intro xs e1
  cases e1
  refine ⟨by rw [List.length_map]; exact h2 r hr, fun y hy => ?_⟩
  obtain ⟨e, _, rfl⟩ := List.mem_map.mp hy
  intro xs e2
  cases e2
  refine ⟨by show 2 ≤ 1000; decide, fun z hz => ?_⟩
  rcases List.mem_cons.mp hz with rfl | hz
  · exact fun xs e => by cases e
  · rw [List.mem_singleton.mp hz]
    exact fun xs e => by cases e
theorem nf_ {l z : Addr} : List.lookup ("fields" : Str) [(("_fields" : Str), V.ref l), (("_rules" : Str), V.ref z)] = none := by
  have e1 : (("fields" : Str) == "_fields") = false := by decide +kernel
  have e2 : (("fields" : Str) == "_rules") = false := by decide +kernel
  rw [List.lookup, e1]
  show List.lookup ("fields" : Str) [(("_rules" : Str), V.ref z)] = none
  rw [List.lookup, e2]
  rfl
theorem nr_ {l z : Addr} : List.lookup ("rules" : Str) [(("_fields" : Str), V.ref l), (("_rules" : Str), V.ref z)] = none := by
  have e1 : (("rules" : Str) == "_fields") = false := by decide +kernel
  have e2 : (("rules" : Str) == "_rules") = false := by decide +kernel
  rw [List.lookup, e1]
  show List.lookup ("rules" : Str) [(("_rules" : Str), V.ref z)] = none
  rw [List.lookup, e2]
  rfl
theorem once_sub {rs : List (List (Str × Str))} : ∀ r ∈ once rs, r ∈ rs := by
  have h : ∀ i, ∀ r ∈ once (rs.take i), r ∈ rs := by
    intro i
    induction i with
    | zero => exact fun r hr => absurd hr List.not_mem_nil
    | succ i ih =>
      intro r hr
      by_cases hi : i < rs.length
      · have e : rs[i]? = some rs[i] := List.getElem?_eq_getElem hi
        rw [once_next e] at hr
        by_cases hin : rs[i] ∈ once (rs.take i)
        · rw [if_pos hin] at hr
          exact ih r hr
        · rw [if_neg hin] at hr
          rcases List.mem_append.mp hr with hr | hr
          · exact ih r hr
          · rw [List.mem_singleton.mp hr]
            exact List.getElem_mem hi
      · rw [List.take_of_length_le (by omega)] at hr
        have := ih r
        rw [List.take_of_length_le (by omega)] at this
        exact this hr
  intro r hr
  have := h rs.length r
  rw [List.take_length] at this
  exact this hr
theorem once_len {rs : List (List (Str × Str))} : (once rs).length ≤ rs.length := by
  have h : ∀ i, (once (rs.take i)).length ≤ i := by
    intro i
    induction i with
    | zero => exact Nat.le_refl _
    | succ i ih =>
      by_cases hi : i < rs.length
      · have e : rs[i]? = some rs[i] := List.getElem?_eq_getElem hi
        rw [once_next e]
        by_cases hin : rs[i] ∈ once (rs.take i)
        · rw [if_pos hin]
          omega
        · rw [if_neg hin, List.length_append, List.length_singleton]
          omega
      · rw [List.take_of_length_le (by omega : rs.length ≤ i + 1)]
        rw [List.take_of_length_le (by omega : rs.length ≤ i)] at ih
        omega
  have := h rs.length
  rw [List.take_length] at this
  exact this
theorem bans_same {K : PySem.W.Frag} {H H' : Hp} (s : Same H H') : ∀ {qs : List Addr} {rs : List (List (Str × Str))}, Paired (BanAt K H) qs rs → Paired (BanAt K H') qs rs
  | _, _, .nil => .nil
  | _, _, .cons a b => by
    obtain ⟨ms, h1, h2⟩ := a
    exact .cons ⟨ms, sq_same s h1, prd_same s h2⟩ (bans_same s b)
def spRight (K : PySem.W.Frag) (C : Addr) : Sp := fun vs H Q _ => ∃ (x pf pr p q : Addr) (ps : List Addr) (kvs : List (Key × V)) (t : List (Str × List Str)) (qs : List Addr) (rs : List (List (Str × Str))), vs = [.ref x, .ref p, .ref q] ∧ FormAt C H x pf pr ∧ TabAt K H pf t ∧ RulesAt K H pr (once (rs.map (bySeq t))) ∧
  (SqL K H p (ps.map V.ref) ∨ SqT K H p (ps.map V.ref)) ∧ TabR K H ps kvs t ∧ (SqL K H q (qs.map V.ref) ∨ SqT K H q (qs.map V.ref)) ∧ Paired (BanAt K H) qs rs ∧ t.length ≤ 6 ∧ (∀ e ∈ t, e.2.length ≤ 5) ∧ TStr t ∧ rs.length ≤ 100 ∧ (∀ r ∈ rs, r.length ≤ 10 ∧ RStr r) ∧ ∀ H', Same H H' → Q (.bl true) H'
theorem bySeq_len {t : List (Str × List Str)} {r : List (Str × Str)} : (bySeq t r).length ≤ t.length * r.length := by
  unfold bySeq
  induction t with
  | nil => simp
  | cons e t ih =>
    rw [List.flatMap_cons, List.length_append, List.length_cons, Nat.succ_mul]
    have := List.length_filter_le (fun f : Str × Str => decide (f.1 = e.1)) r
    omega
section
variable {P : Program} {w : World} {K : PySem.W.Frag} {mg : Str → Option Value} {base : Heap}
theorem scRight : FnScope ["made", "table", "bans", "due", "name", "values"] ["made", "table", "bans"] (defScope sRight) := ⟨rfl, rfl, rfl, by decide +kernel, rfl, by decide +kernel, by decide +kernel⟩
theorem ok_right {f fF fR C : Addr} {fd fdF fdR : FuncData} (F : Fun K "_law_right" "_law_right" sRight f fd) (T : mg "tuple" = none) (Z : Fc K mg C)
    (GF : FnOk P w K mg base CX0 1 fF fdF ["self"] (spGet K C false)) (bF : Binds K fdF ["self"] []) (mF : Meth K C "fields" fF) (GR : FnOk P w K mg base CX0 1 fR fdR ["self"] (spGet K C true)) (bR : Binds K fdR ["self"] []) (mR : Meth K C "rules" fR)
    (KS : Kn P w K mg base 5 "_law_same" ["actual", "due"] (spSame K 5)) (KT : Kn P w K mg base 2 "_law_told" ["table", "bans"] (spTold K)) : FnOk P w K mg base CX0 6 f fd ["made", "table", "bans"] (spRight K C) := by
  obtain ⟨fS, fdS, GS, kS, bS, mS⟩ := KS.ex
  obtain ⟨fT, fdT, GT, kT, bT, mT⟩ := KT.ex
  refine F.ok scRight (fun vs H Q E h => ?_) (fun cdv A outer s H vs Q E hr h => ?_)
  · obtain ⟨x, pf, pr, p, q, ps, kvs, t, qs, rs, rfl, _⟩ := h
    rfl
  obtain ⟨x, pf, pr, p, q, ps, kvs, t, qs, rs, rfl, ⟨dx, hx⟩, hTab, hRul, hp, hT, hq, hR, hl6, hl5, hts, hl100, hs, k⟩ := h
  have vt_ : PySem.bootBuiltins "tuple" = some (.type "tuple") := by decide +kernel
  have hr1 : Room 1 _ := hr.mono (by decide)
  refine ⟨_, pss_cons (ps_set (i := 3) scRight.nd rfl (.inl rfl) (pe_callTy (call_tupK K rfl) rfl T vt_ (pa_cons (pe_lc (own := [("name", 4), ("values", 5)]) (g := gRow K 2 (gCons (gName 4) (gCons (gName 5) gNil))) (tt := tYes) (by rfl) scRight.nd (pi_row (pv 1)) (blkOk_by (N := ["made", "table", "bans", "due", "name", "values"]) (sc := defScope sRight) (by decide +kernel))
      (fun _ _ _ _ _ => pg_row rfl (pgs_cons (pg_name (i := 4) scRight.nd rfl (.inl rfl)) (pgs_cons (pg_name (i := 5) scRight.nd rfl (.inl rfl)) pgs_nil)))
      (fun _ _ _ _ _ => pts_nil)
      (fun _ _ _ _ _ => pe_tupZ (pa_cons (pv 4) (pa_cons (pe_callTy (call_tupK K rfl) rfl T vt_ (pa_cons (pv 5) pa_nil)) pa_nil)))) pa_nil)))
    (pss_one (ps_ret (pe_and (pe_call GS hr rfl mS kS bS .nil pass0 (pa_cons (pe_meth0 (pv 0) Z.cl mF GF hr1 bF .nil pass0) (pa_cons (pv 3) pa_nil)))
      (pe_one (pe_call GS hr rfl mS kS bS .nil pass0 (pa_cons (pe_meth0 (pv 0) Z.cl mR GR hr1 bR .nil pass0) (pa_cons (pe_call GT (hr.mono (by decide)) rfl mT kT bT .nil pass0 (pa_cons (pv 1) (pa_cons (pv 2) pa_nil))) pa_nil))))))), ?_⟩
  have hlen : (ps.map V.ref).length = t.length := by rw [List.length_map, hT.len.1]
  refine asg_tup ?_
  refine lc_row (ys := ps.map V.ref) (fun D i H' => ∃ (ps2 : List Addr) (kvs2 : List (Key × V)), H' D = some (.lst (ps2.map V.ref)) ∧ TabR K H' ps2 kvs2 (t.take i) ∧ Same H H') (fun Q' z => ⟨_, rfl, z⟩) hp (fun D hD => ⟨[], [], upd_same, .nil, new_same hD _⟩) (fun D i H' hD hP => by obtain ⟨_, _, _, _, z⟩ := hP; exact z) (fun D i y H' hD hi hP hy => ?_) (fun D H2 hD hP => ?_)
  · obtain ⟨ps2, kvs2, g1, g2, g3⟩ := hP
    obtain ⟨q1, v1, n, ws, rfl, e1, e2, e3⟩ := hT.at hy
    have hok := (hts _ (List.mem_of_getElem? e1)).2
    refine .inl ⟨q1, _, rfl, seqT_same g3 e2, rfl, .str n, _, rfl, .ref v1, [], rfl, rfl, ⟨rfl, ?_⟩⟩
    unfold tYes
    refine iteT ⟨_, rfl, _, rfl, v1, ws.map V.str, rfl, .inr ⟨seqT_same g3 e3, by show 2 ≤ sizeLine; decide, fun z o hz0 hod => ?_⟩⟩
    have sz : Same H' (upd H' z (.frz o (.tup [.str n, .ref v1]))) := new_same hz0 _
    have hD4 := sz _ _ g1
    have hpl : ps2.length ≤ 6 := by
      rw [g2.len.1, List.length_take]
      omega
    refine ⟨ps2.map V.ref, hD4, small1000 (by rw [List.length_map]; omega), ps2 ++ [z], kvs2 ++ [((.inr n : Key), V.ref v1)], ?_, ?_, fun b' o' y' => ?_⟩
    · rw [upd_same, List.map_append] <;> rfl
    · rw [take_one e1]
      exact TabR.off hD4 (TabR.snoc (.inl (.inr ⟨o, upd_same⟩)) (seqT_same (g3.trans sz) e3) hok (TabR.same sz g2))
    · rw [upd_ne (ne_of_none y' hD)]
      exact sz _ _ (g3 _ _ y')
  · obtain ⟨ps2, kvs2, g1, g2, g3⟩ := hP
    rw [List.take_of_length_le (by omega)] at g2
    refine ⟨D, _, rfl, .inl ⟨SqL.of g1, fun l o hl hod => ?_⟩⟩
    have sl : Same H2 (upd H2 l (.frz o (.tup (ps2.map V.ref)))) := new_same hl _
    have s3 := g3.trans sl
    have dD : Dp K (upd H2 l (.frz o (.tup (ps2.map V.ref)))) (.ref l) (tabD t) := .tup (.inl (.inr ⟨o, upd_same⟩)) (tabR_dps (TabR.same sl g2))
    refine ⟨_, rfl, x, dx, _, rfl, s3 _ _ hx, nf_, x, pf, pr, rfl, ⟨dx, s3 _ _ hx⟩, _, rfl, .ref pf, .ref l, tabD t, rfl, dp_same s3 (tab_dp hTab), dD, ds_tab (by omega) (fun e he => by have := hl5 e he; omega), fun H4 s4 => ⟨_, rfl, iteT ?_⟩⟩
    have s5 := s3.trans s4
    refine ⟨_, rfl, x, dx, _, rfl, s5 _ _ hx, nr_, x, pf, pr, rfl, ⟨dx, s5 _ _ hx⟩, _, rfl, _, rfl, p, q, ps, kvs, t, qs, rs, rfl, sq_same s5 hp, hT.same s5, sq_same s5 hq, ?_, hl6, hl100, hs, fun z H6 s6 hz => ?_⟩
    · exact bans_same s5 hR
    · have s7 := s5.trans s6
      refine ⟨.ref pr, .ref z, rulesD (once (rs.map (bySeq t))), rfl, dp_same s7 (rules_dp hRul), rules_dp hz, ds_rules ?_ (fun r hr => ?_), fun H8 s8 => k _ (s7.trans s8)⟩
      · have := once_len (rs := rs.map (bySeq t))
        rw [List.length_map] at this
        omega
      · obtain ⟨r0, h0, rfl⟩ := List.mem_map.mp (once_sub r hr)
        have h1 := bySeq_len (t := t) (r := r0)
        have h2 := (hs r0 h0).1
        have h3 : t.length * r0.length ≤ 6 * 10 := Nat.mul_le_mul hl6 h2
        omega
end
end Q
set_option Elab.async false
set_option linter.all false
/-! ### the program's sequence and the law's are one -/
namespace Q
open PySem L2 XD
theorem filter_none {n : Str} : ∀ {r : List (Str × Str)}, (∀ e ∈ r, e.1 ≠ n) → r.filter (fun f => decide (f.1 = n)) = []
  | [], _ => rfl
  | e :: r, h => by
    rw [List.filter_cons_of_neg (by simpa using h e List.mem_cons_self)]
    exact filter_none fun f hf => h f (List.mem_cons_of_mem _ hf)
theorem pick_filter {n : Str} : ∀ {r : List (Str × Str)}, (r.map (·.1)).Nodup → ((pick n r).map fun w => (n, w)).toList = r.filter fun f => decide (f.1 = n)
  | [], _ => rfl
  | (m, w) :: r, h => by
    rw [List.map_cons, List.nodup_cons] at h
    unfold pick
    by_cases e : m = n
    · subst e
      rw [if_pos rfl, List.filter_cons_of_pos (by simp), filter_none fun f hf z => h.1 (List.mem_map.mpr ⟨f, hf, z⟩)]
      rfl
    · rw [if_neg e, List.filter_cons_of_neg (by simpa using e)]
      exact pick_filter h.2
theorem sorted_bySeq {r : List (Str × Str)} (h : (r.map (·.1)).Nodup) : ∀ t : List (Str × List Str), sorted t r = bySeq t r
  | [] => rfl
  | e :: t => by
    have ih := sorted_bySeq h t
    unfold sorted bySeq at ih ⊢
    rw [List.flatMap_cons, ← ih, ← pick_filter (n := e.1) h]
    cases ep : pick e.1 r with
    | none => simp [ep]
    | some w => simp [ep]
end Q
set_option Elab.async false
set_option linter.all false
set_option maxRecDepth 100000
set_option maxHeartbeats 4000000
/-! ### texts as lists of code points; _law_near -/
namespace Q
open PySem L2 XD
def tlx (s : Str) : List Nat := s.cps.toList
theorem tlx_len (s : Str) : (tlx s).length = s.length := Array.length_toList
theorem tlx_app (a b : Str) : tlx (a ++ b) = tlx a ++ tlx b := TL.tl_append a b
theorem tlx_inj {a b : Str} (h : tlx a = tlx b) : a = b := by
  obtain ⟨⟨x⟩⟩ := a
  obtain ⟨⟨y⟩⟩ := b
  have h' : x = y := h
  rw [h']
theorem tlx_one (c : Nat) : tlx ⟨#[c]⟩ = [c] := rfl
theorem tlx_to (z : Str) (k : Nat) : tlx (cutS z none (some (k : Int))) = (tlx z).take k := by
  show ((z.cps.toList.drop 0).take (HT.sIx z.length z.length (some (k : Int)) - 0)) = z.cps.toList.take k
  rw [HT.sIx_nat, List.drop_zero, Nat.sub_zero]
  have e : z.cps.toList.length = z.length := Array.length_toList
  rw [← e, ← List.take_eq_take_min]
theorem tlx_from (z : Str) (k : Nat) : tlx (cutS z (some (k : Int)) none) = (tlx z).drop k := by
  show ((z.cps.toList.drop (HT.sIx z.length 0 (some (k : Int)))).take (z.length - HT.sIx z.length 0 (some (k : Int)))) = z.cps.toList.drop k
  have e : z.cps.toList.length = z.length := Array.length_toList
  rw [HT.sIx_nat, ← e]
  by_cases h : k ≤ z.cps.toList.length
  · rw [Nat.min_eq_left h, List.take_of_length_le (by rw [List.length_drop]; exact Nat.le_refl _)]
  · rw [Nat.min_eq_right (by omega), List.drop_length, List.drop_eq_nil_of_le (by omega), List.take_nil]
theorem word_iff {s : Str} : word s = true ↔ 1 ≤ (tlx s).length ∧ (tlx s).length ≤ 8 ∧ (tlx s).all az = true := by
  unfold word
  rw [Bool.and_eq_true, Bool.and_eq_true, decide_eq_true_eq, decide_eq_true_eq, tlx_len]
  exact ⟨fun ⟨⟨a, b⟩, c⟩ => ⟨a, b, c⟩, fun ⟨a, b, c⟩ => ⟨⟨a, b⟩, c⟩⟩
theorem word_len {s : Str} (h : word s = true) : s.length ≤ 8 := by
  have := (word_iff.mp h).2.1
  rwa [tlx_len] at this
theorem all_take {p : Nat → Bool} {l : List Nat} (h : l.all p = true) (k : Nat) : (l.take k).all p = true :=
  List.all_eq_true.mpr fun x hx => List.all_eq_true.mp h x (List.mem_of_mem_take hx)
theorem all_drop {p : Nat → Bool} {l : List Nat} (h : l.all p = true) (k : Nat) : (l.drop k).all p = true :=
  List.all_eq_true.mpr fun x hx => List.all_eq_true.mp h x (List.mem_of_mem_drop hx)
theorem word_of {s : Str} {l : List Nat} (e : tlx s = l) (h1 : 1 ≤ l.length) (h8 : l.length ≤ 8) (ha : l.all az = true) : word s = true :=
  word_iff.mpr ⟨by rw [e]; exact h1, by rw [e]; exact h8, by rw [e]; exact ha⟩
theorem cutS_short (z : Str) (lo hi : Option Int) : (cutS z lo hi).length ≤ z.length := by
  rw [← tlx_len, ← tlx_len]
  show ((z.cps.toList.drop _).take _).length ≤ z.cps.toList.length
  rw [List.length_take, List.length_drop]
  omega
theorem le_line {n : Nat} (h : n ≤ 1000) : n ≤ sizeLine := Nat.le_of_lt (small1000 h)
theorem one_len (c : Nat) : Str.length ⟨#[c]⟩ = 1 := rfl
theorem seq_cut {t u : TS} {D : Ends} {σ : L2.St} {H : Hp} (M : L2.St → Hp → Prop) (h2 : ∀ σ' H', M σ' H' → u D σ' H') (h1 : (∀ σ' H', M σ' H' → u D σ' H') → t { D with nx := u D } σ H) : tSeq t u D σ H := h1 h2
def spNear : Sp := fun vs H Q _ => ∃ a b x, vs = [.ref a, .str x] ∧ Flw b H a ∧ word x = true ∧ ∀ (y : Str) H', word y = true → Flw b H' a → Kept a H H' → Q (.str y) H'
section
variable {P : Program} {w : World} {K : PySem.W.Frag} {mg : Str → Option Value} {base : Heap}
theorem scNear : FnScope ["flow", "name", "at", "kind"] ["flow", "name"] (defScope sNear) := ⟨rfl, rfl, rfl, by decide +kernel, rfl, by decide +kernel, by decide +kernel⟩
theorem ok_near {f : Addr} {fd : FuncData} (F : Fun K "_law_near" "_law_near" sNear f fd) (T : mg "len" = none) (KD : Kn P w K mg base 2 "_law_draw" ["flow", "many"] spDraw) (KL : Kn P w K mg base 3 "_law_letter" ["flow"] spLetter) : FnOk P w K mg base CX0 4 f fd ["flow", "name"] spNear := by
  obtain ⟨fD, fdD, GD, kD, bD, mD⟩ := KD.ex
  obtain ⟨fL, fdL, GL, kL, bL, mL⟩ := KL.ex
  refine F.ok scNear (fun vs H Q E h => ?_) (fun cdv A outer s H vs Q E hr h => ?_)
  · obtain ⟨a, b, x, rfl, _⟩ := h
    rfl
  obtain ⟨a, b, x, rfl, ha, hw, k⟩ := h
  have hrD : Room 2 _ := hr.mono (by decide)
  refine ⟨_, pss_cons (ps_set (i := 2) scNear.nd rfl (.inl rfl) (pe_call GD (hr.mono (by decide)) rfl mD kD bD .nil pass0 (pa_cons (pv 0) (pa_cons (pe_callB call_len_str rfl T PySem.boot_len (pa_cons (pv 1) pa_nil)) pa_nil))))
    (pss_cons (ps_set (i := 3) scNear.nd rfl (.inl rfl) (pe_call GD (hr.mono (by decide)) rfl mD kD bD .nil pass0 (pa_cons (pv 0) (pa_cons pe_int pa_nil))))
    (pss_cons (ps_if (PW.pt (pw_and (pt_cmpR op_eq (pv 3) pe_int (nomark _)) (pw_and1 (pt_cmpR op_lt (pe_callB call_len_str rfl T PySem.boot_len (pa_cons (pv 1) pa_nil)) pe_int (nomark _)))))
        (pss_one (ps_ret (pe_op op_add_str (pe_op op_add_str (pe_slice sl_str (pv 1) po_none (po_some (pv 2))) (pe_call GL hr rfl mL kL bL .nil pass0 (pa_cons (pv 0) pa_nil))) (pe_slice sl_str (pv 1) (po_some (pv 2)) po_none)))) pss_nil)
    (pss_cons (ps_if (PW.pt (pw_and (pt_cmpR op_eq (pv 3) pe_int (nomark _)) (pw_and1 (pt_cmpR op_gt (pe_callB call_len_str rfl T PySem.boot_len (pa_cons (pv 1) pa_nil)) pe_int (nomark _)))))
        (pss_one (ps_ret (pe_op op_add_str (pe_slice sl_str (pv 1) po_none (po_some (pv 2))) (pe_slice sl_str (pv 1) (po_some (pe_op op_add (pv 2) pe_int)) po_none)))) pss_nil)
    (pss_one (ps_ret (pe_op op_add_str (pe_op op_add_str (pe_slice sl_str (pv 1) po_none (po_some (pv 2))) (pe_call GL hr rfl mL kL bL .nil pass0 (pa_cons (pv 0) pa_nil))) (pe_slice sl_str (pv 1) (po_some (pe_op op_add (pv 2) pe_int)) po_none))))))), ?_⟩
  have hx8 := word_len hw
  obtain ⟨w1, w8, wa⟩ := word_iff.mp hw
  have hln : x.length ≤ sizeLine := le_line (by omega)
  have hx1 : 1 ≤ x.length := by rw [tlx_len] at w1; exact w1
  refine ⟨_, rfl, _, rfl, x, rfl, hln, a, b, _, rfl, ha, ?_, fun r H1 r0 r1 f1 k1 => ?_⟩
  · have : (8 : Nat) < 2 ^ 200 := by decide
    omega
  obtain ⟨n, rfl⟩ : ∃ n : Nat, r = (n : Int) := ⟨r.toNat, by omega⟩
  have hn : n < x.length := by
    split at r1 <;> omega
  have e1 : tlx (cutS x none (some (n : Int))) = (tlx x).take n := tlx_to x n
  have e2 : tlx (cutS x (some (n : Int)) none) = (tlx x).drop n := tlx_from x n
  have e3 : tlx (cutS x (some ((n : Int) + 1)) none) = (tlx x).drop (n + 1) := tlx_from x (n + 1)
  have l0 := tlx_len x
  have z1 := cutS_short x none (some (n : Int))
  have z2 := cutS_short x (some (n : Int)) none
  have z3 := cutS_short x (some ((n : Int) + 1)) none
  refine ⟨_, rfl, a, b, 3, rfl, f1, by decide, fun q H2 q0 q1 f2 k2 => ?_⟩
  have k12 := k1.trans k2
  -- the three ways
  have put : ∀ c H3, az c = true → Flw b H3 a → Kept a H H3 → x.length < 8 → Q (.str (cutS x none (some (n : Int)) ++ ⟨#[c]⟩ ++ cutS x (some (n : Int)) none)) H3 := fun c H3 hc f3 k3 hl => by
    refine k _ H3 (word_of (l := (tlx x).take n ++ [c] ++ (tlx x).drop n) (by rw [tlx_app, tlx_app, e1, e2, tlx_one]) ?_ ?_ ?_) f3 k3
    · simp only [List.length_append, List.length_singleton]
      omega
    · simp only [List.length_append, List.length_singleton, List.length_take, List.length_drop]
      omega
    · rw [List.all_append, List.all_append, all_take wa, all_drop wa]
      simp [hc]
  have swap : ∀ c H3, az c = true → Flw b H3 a → Kept a H H3 → Q (.str (cutS x none (some (n : Int)) ++ ⟨#[c]⟩ ++ cutS x (some ((n : Int) + 1)) none)) H3 := fun c H3 hc f3 k3 => by
    refine k _ H3 (word_of (l := (tlx x).take n ++ [c] ++ (tlx x).drop (n + 1)) (by rw [tlx_app, tlx_app, e1, e3, tlx_one]) ?_ ?_ ?_) f3 k3
    · simp only [List.length_append, List.length_singleton]
      omega
    · simp only [List.length_append, List.length_singleton, List.length_take, List.length_drop]
      omega
    · rw [List.all_append, List.all_append, all_take wa, all_drop wa]
      simp [hc]
  have cut : x.length > 1 → Q (.str (cutS x none (some (n : Int)) ++ cutS x (some ((n : Int) + 1)) none)) H2 := fun hl => by
    refine k _ H2 (word_of (l := (tlx x).take n ++ (tlx x).drop (n + 1)) (by rw [tlx_app, e1, e3]) ?_ ?_ ?_) f2 k12
    · simp only [List.length_append, List.length_take, List.length_drop]
      omega
    · simp only [List.length_append, List.length_take, List.length_drop]
      omega
    · rw [List.all_append, all_take wa, all_drop wa]
      rfl
  have lineA : ∀ c : Nat, (cutS x none (some (n : Int))).length + Str.length ⟨#[c]⟩ ≤ sizeLine := fun c => le_line (by rw [one_len]; omega)
  have lineB : ∀ c : Nat, ∀ y : Str, y.length ≤ x.length → (cutS x none (some (n : Int)) ++ (⟨#[c]⟩ : Str)).length + y.length ≤ sizeLine := fun c y hy => le_line (by
    rw [← tlx_len, tlx_app, List.length_append, tlx_len, tlx_len, one_len]
    omega)
  dsimp only
  refine seq_cut (fun σ H3 => H3 = H2 ∧ σ = [some (.ref a), some (.str x), some (.int n), some (.int q)]) ?_ (fun join => ?_)
  · rintro σ' H3 ⟨rfl, rfl⟩
    refine seq_cut (fun σ H4 => H4 = H3 ∧ σ = [some (.ref a), some (.str x), some (.int n), some (.int q)]) ?_ (fun join => ?_)
    · rintro σ' H4 ⟨rfl, rfl⟩
      refine ⟨_, rfl, _, rfl, _, rfl, x, rfl, hln, _, rfl, a, b, rfl, f2, fun c H5 hc f3 k3 => ⟨_, _, rfl, rfl, lineA c, ?_⟩⟩
      exact ⟨_, rfl, _, rfl, _, _, rfl, rfl, _, rfl, x, rfl, hln, _, _, rfl, rfl, lineB c _ z3, swap c H5 hc f3 (k12.trans k3)⟩
    · refine ⟨_, rfl, rfl, _, rfl, iteB (fun _ => ⟨_, rfl, x, rfl, hln, _, _, rfl, rfl, _, rfl, iteB (fun e => ?_) (fun _ => join _ _ ⟨rfl, rfl⟩)⟩) (fun _ => join _ _ ⟨rfl, rfl⟩)⟩
      have hl : x.length > 1 := by
        have := of_decide_eq_true e
        omega
      exact ⟨_, rfl, _, rfl, _, rfl, x, rfl, hln, _, rfl, _, rfl, _, _, rfl, rfl, _, rfl, x, rfl, hln, _, _, rfl, rfl, le_line (by omega), cut hl⟩
  · refine ⟨_, rfl, rfl, _, rfl, iteB (fun _ => ⟨_, rfl, x, rfl, hln, _, _, rfl, rfl, _, rfl, iteB (fun e => ?_) (fun _ => join _ _ ⟨rfl, rfl⟩)⟩) (fun _ => join _ _ ⟨rfl, rfl⟩)⟩
    have hl : x.length < 8 := by
      have := of_decide_eq_true e
      omega
    refine ⟨_, rfl, _, rfl, _, rfl, x, rfl, hln, _, rfl, a, b, rfl, f2, fun c H5 hc f3 k3 => ⟨_, _, rfl, rfl, lineA c, ?_⟩⟩
    exact ⟨_, rfl, _, rfl, _, rfl, x, rfl, hln, _, _, rfl, rfl, lineB c _ z2, put c H5 hc f3 (k12.trans k3) hl⟩
end
end Q
set_option Elab.async false
set_option linter.all false
set_option maxRecDepth 100000
set_option maxHeartbeats 4000000
/-! ### _law_pick of a list or a tuple; _law_words -/
namespace Q
open PySem L2 XD
theorem sqL_kept {K : PySem.W.Frag} {H H' : Hp} {a p : Addr} {xs : List V} (k : Kept a H H') (n : p ≠ a) (h : SqL K H p xs) : SqL K H' p xs := by
  rcases h with (h | ⟨o, h⟩) | h
  · exact .inl (.inl (k _ _ n h))
  · exact .inl (.inr ⟨o, k _ _ n h⟩)
  · exact .inr h
theorem sqT_kept {K : PySem.W.Frag} {H H' : Hp} {a p : Addr} {xs : List V} (k : Kept a H H') (n : p ≠ a) (h : SqT K H p xs) : SqT K H' p xs := by
  rcases h with (h | ⟨o, h⟩) | h
  · exact .inl (.inl (k _ _ n h))
  · exact .inl (.inr ⟨o, k _ _ n h⟩)
  · exact .inr h
theorem sq_kept {K : PySem.W.Frag} {H H' : Hp} {a p : Addr} {xs : List V} (k : Kept a H H') (n : p ≠ a) (h : SqL K H p xs ∨ SqT K H p xs) : SqL K H' p xs ∨ SqT K H' p xs :=
  h.elim (fun q => .inl (sqL_kept k n q)) (fun q => .inr (sqT_kept k n q))
theorem Flw.lst {H : Hp} {a b : Addr} (F : Flw b H a) : ∃ xs, H a = some (.lst xs) := by
  obtain ⟨ns, p, s, c, m, w, F⟩ := F
  exact ⟨_, F.at_⟩
theorem seqT_flw {K : PySem.W.Frag} {H H' : Hp} {a b q : Addr} {xs : List V} (F : Flw b H a) (k : Kept a H H') (h : SqT K H q xs) : SqT K H' q xs := by
  obtain ⟨ys, e⟩ := F.lst
  have n1 : ∀ {o : HO}, H q = some o → (∀ l, o ≠ .lst l) → q ≠ a := fun e1 e2 z => by
    subst z
    rw [e] at e1
    exact e2 _ (Option.some.inj e1).symm
  rcases h with (h | ⟨o, h⟩) | h
  · exact .inl (.inl (k _ _ (n1 h (by intro l z; cases z)) h))
  · exact .inl (.inr ⟨o, k _ _ (n1 h (by intro l z; cases z)) h⟩)
  · exact .inr h
def spPickB (K : PySem.W.Frag) : Sp := fun vs H Q _ => ∃ (a b t : Addr) (xs : List V), vs = [.ref a, .ref t] ∧ Flw b H a ∧ ((SqL K H t xs ∧ t ≠ a) ∨ SqT K H t xs) ∧ 0 < xs.length ∧ xs.length ≤ 1000 ∧
  ∀ (i : Nat) (x : V) (H' : Hp), xs[i]? = some x → Flw b H' a → Kept a H H' → Q x H'
section
variable {P : Program} {w : World} {K : PySem.W.Frag} {mg : Str → Option Value} {base : Heap}
theorem ok_pickB {f : Addr} {fd : FuncData} (F : Fun K "_law_pick" "_law_pick" sPick f fd) (T : mg "len" = none) (KD : Kn P w K mg base 2 "_law_draw" ["flow", "many"] spDraw) :
    FnOk P w K mg base CX0 3 f fd ["flow", "things"] (spPickB K) := by
  obtain ⟨fD, fdD, GD, kD, bD, mD⟩ := KD.ex
  refine F.ok scPick (fun vs H Q E h => ?_) (fun cdv A outer s H vs Q E hr h => ?_)
  · obtain ⟨a, b, t, xs, rfl, _⟩ := h
    rfl
  obtain ⟨a, b, t, xs, rfl, Fl, ht, hl, hm, k⟩ := h
  refine ⟨_, pss_one (ps_ret (pe_ix (ix_both K rfl) (pv 1) (pe_call GD hr rfl mD kD bD .nil pass0 (pa_cons (pv 0) (pa_cons (pe_callB call_len_seq rfl T PySem.boot_len (pa_cons (pv 1) pa_nil)) pa_nil))) (fun _ _ => rfl))), ?_⟩
  refine ⟨_, rfl, _, rfl, _, rfl, t, _, rfl, ht.elim (fun z => .inl z.1) .inr, a, b, _, rfl, Fl, ?_, fun r H' h0 h1 F1 k1 => ?_⟩
  · have : (1000 : Nat) < 2 ^ 200 := by decide
    omega
  · have h2 : r < (xs.length : Int) := by
      have : r < (if (xs.length : Int) > 1 then (xs.length : Int) else 1) := h1
      split at this <;> omega
    have lt : r.toNat < xs.length := by omega
    have e : xs[r.toNat]? = some xs[r.toNat] := List.getElem?_eq_getElem lt
    exact ix_row (ht.elim (fun z => .inl (sqL_kept k1 z.2 z.1)) (fun z => .inr (seqT_flw Fl k1 z))) (at_of (by omega : r = ((r.toNat : Nat) : Int)) e) (k r.toNat _ H' e F1 k1)
end
/-! ### words not told yet -/
def lastOf (s : Str) : Option Nat := (tlx s).getLast?
def nine : List Nat := ("abcdefghi" : Str).cps.toList
theorem nine_nodup : nine.Nodup := by decide +kernel
theorem nine_len : nine.length = 9 := by decide +kernel
theorem nine_az : ∀ c ∈ nine, az c = true := by decide +kernel
theorem in_words {w : Str} : ∀ {ws : List Str}, inV (.str w) (ws.map V.str) = decide (w ∈ ws)
  | [] => rfl
  | x :: ws => by
    have ih := in_words (w := w) (ws := ws)
    unfold inV at ih ⊢
    rw [List.map_cons, List.any_cons, ih]
    show ((x == w) || _) = _
    by_cases e : x = w
    · subst e
      simp
    · have e2 : ¬ w = x := fun z => e z.symm
      have e1 : (x == w) = false := beq_eq_false_iff_ne.mpr e
      rw [e1, Bool.false_or]
      simp [e2]
theorem flat_words : ∀ ws : List Str, (ws.map V.str).all flatV = true
  | [] => rfl
  | x :: ws => by
    rw [List.map_cons, List.all_cons, flat_words ws]
    rfl
/-- the word after j letters: new, or each one tried stands among the words -/
def Tried (ws : List Str) (j : Nat) (x : Str) : Prop := x ∉ ws ∨ j = 0 ∨ ∃ l : List Str, (l ++ [x]).map lastOf = (nine.take j).map some ∧ ∀ y ∈ l, y ∈ ws
theorem tried_next {ws : List Str} {j : Nat} {x y : Str} {c : Nat} (h : Tried ws j x) (hin : x ∈ ws) (hc : nine[j]? = some c) (hy : lastOf y = some c) : Tried ws (j + 1) y := by
  rcases h with h | h | ⟨l, h1, h2⟩
  · exact absurd hin h
  · subst h
    refine .inr (.inr ⟨[], ?_, fun y h => absurd h List.not_mem_nil⟩)
    rw [take_one hc, List.map_append]
    show [lastOf y] = [some c]
    rw [hy]
  · refine .inr (.inr ⟨l ++ [x], ?_, fun z hz => ?_⟩)
    · have e2 : ((l ++ [x]) ++ [y]).map lastOf = (l ++ [x]).map lastOf ++ [lastOf y] := List.map_append
      rw [take_one hc, e2, h1, hy, List.map_append]
      rfl
    · rcases List.mem_append.mp hz with hz | hz
      · exact h2 z hz
      · rw [List.mem_singleton.mp hz]
        exact hin
theorem tried_done {ws : List Str} {x : Str} (h : Tried ws 9 x) (hl : ws.length < 8) : x ∉ ws := by
  rcases h with h | h | ⟨l, h1, h2⟩
  · exact h
  · cases h
  · exfalso
    have e9 : nine.take 9 = nine := List.take_of_length_le (by rw [nine_len]; exact Nat.le_refl _)
    rw [e9] at h1
    have hn : ((l ++ [x]).map lastOf).Nodup := by
      rw [h1]
      exact List.pairwise_map.mpr (List.Pairwise.imp (fun h z => h (Option.some.inj z)) nine_nodup)
    have hl8 : l.length = 8 := by
      have := congrArg List.length h1
      rw [List.length_map, List.length_map, nine_len, List.length_append, List.length_singleton] at this
      omega
    have hd : l.Nodup := by
      have h3 : (l ++ [x]).Nodup := List.Pairwise.imp (fun h z => h (by rw [z])) (List.pairwise_map.mp hn)
      exact (List.nodup_append.mp h3).1
    have := List.Nodup.length_le_of_subset hd (fun y hy => h2 y hy)
    omega
theorem tried_put {x : Str} {c : Nat} (hw : word x = true) (hc : az c = true) : word (cutS x none (some (7 : Int)) ++ ⟨#[c]⟩) = true ∧ lastOf (cutS x none (some (7 : Int)) ++ ⟨#[c]⟩) = some c := by
  obtain ⟨w1, w8, wa⟩ := word_iff.mp hw
  have e : tlx (cutS x none (some (7 : Int)) ++ ⟨#[c]⟩) = (tlx x).take 7 ++ [c] := by
    rw [tlx_app, tlx_one]
    exact congrArg (· ++ [c]) (tlx_to x 7)
  refine ⟨word_of e ?_ ?_ ?_, ?_⟩
  · simp only [List.length_append, List.length_singleton]
    omega
  · simp only [List.length_append, List.length_singleton, List.length_take]
    omega
  · rw [List.all_append, all_take wa]
    simp [hc]
  · unfold lastOf
    rw [e]
    simp
end Q
set_option Elab.async false
set_option linter.all false
set_option maxRecDepth 100000
set_option maxHeartbeats 4000000
/-! ### _law_words -/
namespace Q
open PySem L2 XD
def Wds (ws : List Str) : Prop := ws.Nodup ∧ ∀ x ∈ ws, word x = true
def spWords (K : PySem.W.Frag) : Sp := fun vs H Q _ => ∃ (a b p : Addr) (m : Nat) (ws : List Str), vs = [.ref a, .int m, .ref p] ∧ Flw b H a ∧ m ≤ 7 ∧ SqL K H p (ws.map V.str) ∧ p ≠ a ∧ ws.length ≤ 1000 ∧ (∀ x ∈ ws, word x = true) ∧
  ∀ (D : Addr) (us : List Str) (H' : Hp), H D = none → H' D = some (.lst (us.map V.str)) → us.length = m → Wds us → Flw b H' a → Kept a H H' → Q (.ref D) H'
theorem Kept.new {a D : Addr} {H H' : Hp} {o : HO} (k : Kept a H H') (hD : H D = none) : Kept a H (L2.upd H' D o) := fun x u n e => by
  rw [upd_ne (ne_of_none e hD)]
  exact k x u n e
section
variable {P : Program} {w : World} {K : PySem.W.Frag} {mg : Str → Option Value} {base : Heap}
theorem scWords : FnScope ["flow", "many", "pool", "found", "k", "word", "letter"] ["flow", "many", "pool"] (defScope sWords) := ⟨rfl, rfl, rfl, by decide +kernel, rfl, by decide +kernel, by decide +kernel⟩
theorem ok_words {f : Addr} {fd : FuncData} (F : Fun K "_law_words" "_law_words" sWords f fd) (T : mg "len" = none) (T2 : mg "range" = none) (KD : Kn P w K mg base 2 "_law_draw" ["flow", "many"] spDraw) (KP : Kn P w K mg base 3 "_law_pick" ["flow", "things"] (spPickB K))
    (KN : Kn P w K mg base 4 "_law_name" ["flow"] spName) (KE : Kn P w K mg base 4 "_law_near" ["flow", "name"] spNear) : FnOk P w K mg base CX0 5 f fd ["flow", "many", "pool"] (spWords K) := by
  obtain ⟨fD, fdD, GD, kD, bD, mD⟩ := KD.ex
  obtain ⟨fP, fdP, GP, kP, bP, mP⟩ := KP.ex
  obtain ⟨fN, fdN, GN, kN, bN, mN⟩ := KN.ex
  obtain ⟨fE, fdE, GE, kE, bE, mE⟩ := KE.ex
  refine F.ok scWords (fun vs H Q E h => ?_) (fun cdv A outer s H vs Q E hr h => ?_)
  · obtain ⟨a, b, p, m, ws, rfl, _⟩ := h
    rfl
  obtain ⟨a, b, p, m, ws, rfl, ha, hm, hp, hpa, hpl, hpw, k⟩ := h
  refine ⟨_, pss_cons (ps_set (i := 3) scWords.nd rfl (.inl rfl) (pe_lst pa_nil))
    (pss_cons (ps_for PassesOwn.never rfl (pi_range1 rfl T2 (pa_cons (pv 1) pa_nil)) (pg_name (i := 4) scWords.nd rfl (.inl rfl))
      (pss_cons (ps_set (i := 5) scWords.nd rfl (.inl rfl) (pe_call GN (hr.mono (by decide)) rfl mN kN bN .nil pass0 (pa_cons (pv 0) pa_nil)))
      (pss_cons (ps_if (PW.pt (pw_and (pt_cmpR op_gt (pe_callB call_len_seq rfl T PySem.boot_len (pa_cons (pv 2) pa_nil)) pe_int (nomark _)) (pw_and1 (pt_cmpR op_eq (pe_call GD (hr.mono (by decide)) rfl mD kD bD .nil pass0 (pa_cons (pv 0) (pa_cons pe_int pa_nil))) pe_int (nomark _)))))
        (pss_one (ps_set (i := 5) scWords.nd rfl (.inl rfl) (pe_call GP (hr.mono (by decide)) rfl mP kP bP .nil pass0 (pa_cons (pv 0) (pa_cons (pv 2) pa_nil))))) pss_nil)
      (pss_cons (ps_if (PW.pt (pw_and (pt_cmpR op_gt (pv 4) pe_int (nomark _)) (pw_and1 (pt_cmpR op_eq (pe_call GD (hr.mono (by decide)) rfl mD kD bD .nil pass0 (pa_cons (pv 0) (pa_cons pe_int pa_nil))) pe_int (nomark _)))))
        (pss_one (ps_set (i := 5) scWords.nd rfl (.inl rfl) (pe_call GE (hr.mono (by decide)) rfl mE kE bE .nil pass0 (pa_cons (pv 0) (pa_cons (pe_ix ix_list (pv 3) (pe_call GD (hr.mono (by decide)) rfl mD kD bD .nil pass0 (pa_cons (pv 0) (pa_cons (pv 4) pa_nil))) (fun _ _ => rfl)) pa_nil))))) pss_nil)
      (pss_cons (ps_for PassesOwn.never rfl (pi_str pe_str) (pg_name (i := 6) scWords.nd rfl (.inl rfl))
        (pss_one (ps_if (pt_cmpR op_in_seq (pv 5) (pv 3) (by with_unfolding_all rfl)) (pss_one (ps_set (i := 5) scWords.nd rfl (.inl rfl) (pe_op op_add_str (pe_slice sl_str (pv 5) po_none (po_some pe_int)) (pv 6)))) pss_nil)))
      (pss_one (ps_expr (pe_bm PySem.F.plainAttrs_list PySem.F.slot_list_append PySem.F.type_list_append mt_append (pv 3) (pa_cons (pv 5) pa_nil)))))))))
    (pss_one (ps_ret (pv 3)))), ?_⟩
  refine ⟨by show 0 ≤ sizeLine; decide, fun D hD => ?_⟩
  obtain ⟨aD, bD'⟩ := ha.ne hD
  have i62 : -(2 ^ 62 : Int) ≤ (m : Int) := by
    have : -(2 ^ 62 : Int) ≤ 0 := by decide
    omega
  have j62 : (m : Int) < 2 ^ 62 := by
    have : (16 : Int) < 2 ^ 62 := by decide
    omega
  refine ⟨_, rfl, _, rfl, i62, j62, for_range (lo := 0) (n := m) (fun i σ H' => ∃ (us : List Str) (f4 f5 f6 : Option V), σ = [some (.ref a), some (.int m), some (.ref p), some (.ref D), f4, f5, f6] ∧ H' D = some (.lst (us.map V.str)) ∧ us.length = i ∧ Wds us ∧ Flw b H' a ∧ Kept a H H')
    ⟨[], none, none, none, rfl, upd_same, rfl, ⟨List.nodup_nil, fun x h => absurd h List.not_mem_nil⟩, ha.same (new_same hD _), Kept.of_same (new_same hD _)⟩ ?_ ?_⟩
  · rintro i σ H1 hi ⟨us, f4, f5, f6, rfl, g1, g2, g3, g4, g5⟩
    have ei : (0 : Int) + (i : Int) = ((i : Nat) : Int) := by omega
    rw [ei]
    refine ⟨_, rfl, a, b, rfl, g4, fun x H2 hx h4 h5 => ?_⟩
    dsimp only
    refine seq_cut (fun σ H3 => ∃ y, σ = [some (.ref a), some (.int m), some (.ref p), some (.ref D), some (.int i), some (.str y), f6] ∧ word y = true ∧ H3 D = some (.lst (us.map V.str)) ∧ Flw b H3 a ∧ Kept a H H3) ?_ (fun join => ?_)
    · rintro σ' H3 ⟨y, rfl, hy, d1, d4, d5⟩
      refine seq_cut (fun σ H4 => ∃ y, σ = [some (.ref a), some (.int m), some (.ref p), some (.ref D), some (.int i), some (.str y), f6] ∧ word y = true ∧ H4 D = some (.lst (us.map V.str)) ∧ Flw b H4 a ∧ Kept a H H4) ?_ (fun join => ?_)
      · clear hy d1 d4 d5
        rintro σ' H4 ⟨y, rfl, hy, d1, d4, d5⟩
        show tFor _ _ _ _ _ _
        refine ⟨_, rfl, for_it (walk_str (z := ("abcdefghi" : Str))) (fun j σ H5 => H5 = H4 ∧ ∃ (y : Str) (f6 : Option V), σ = [some (.ref a), some (.int m), some (.ref p), some (.ref D), some (.int i), some (.str y), f6] ∧ word y = true ∧ Tried us j y) ⟨rfl, y, f6, rfl, hy, .inr (.inl rfl)⟩ (fun _ _ _ _ _ => trivial) ?_ ?_⟩
        · rintro j v σ H5 H6 hj ⟨rfl, y, f6, rfl, hy, ht⟩ ⟨rfl, c, hc, rfl⟩
          have hc2 : nine[j]? = some c := by
            show ("abcdefghi" : Str).cps.toList[j]? = some c
            rw [Array.getElem?_toList]
            exact hc
          refine ⟨_, rfl, _, rfl, D, _, rfl, .inl (SqL.of d1), rfl, flat_words us, _, rfl, ?_⟩
          show if inV (.str y) (us.map V.str) = true then _ else _
          rw [in_words]
          by_cases hin : y ∈ us
          · refine iteDT hin ?_
            obtain ⟨q1, q2⟩ := tried_put hy (nine_az c (List.mem_of_getElem? hc2))
            have hl := word_len hy
            refine ⟨_, rfl, _, rfl, y, rfl, le_line (by omega), _, rfl, _, _, rfl, rfl, le_line ?_, ?_⟩
            · have := cutS_short y none (some (7 : Int))
              rw [one_len]
              omega
            · exact ⟨rfl, _, _, rfl, q1, tried_next ht hin hc2 q2⟩
          · exact iteDF hin ⟨rfl, y, _, rfl, hy, .inl hin⟩
        · rintro σ H5 ⟨rfl, y, f6, rfl, hy, ht⟩
          have hnew := tried_done ht (by omega)
          refine ⟨_, rfl, .inl ⟨rfl, _, SqL.of d1⟩, _, rfl, D, _, _, rfl, rfl, d1, small1000 (by rw [List.length_map]; omega), ?_⟩
          refine ⟨us ++ [y], _, _, _, rfl, ?_, ?_, ⟨?_, ?_⟩, ?_, ?_⟩
          · rw [upd_same, List.map_append] <;> rfl
          · rw [List.length_append, g2] <;> rfl
          · exact List.nodup_append.mpr ⟨g3.1, List.nodup_cons.mpr ⟨List.not_mem_nil, List.nodup_nil⟩, fun x hx y' hy' z => by rw [List.mem_singleton.mp hy'] at z; exact hnew (z ▸ hx)⟩
          · intro x hx
            rcases List.mem_append.mp hx with hx | hx
            · exact g3.2 x hx
            · rw [List.mem_singleton.mp hx]
              exact hy
          · exact d4.off aD bD'
          · exact d5.new hD
      · refine ⟨_, rfl, _, _, rfl, rfl, _, rfl, iteB (fun e => ?_) (fun _ => join _ _ ⟨y, rfl, hy, d1, d4, d5⟩)⟩
        have hi0 : 0 < i := by
          have := of_decide_eq_true e
          omega
        refine ⟨_, rfl, a, b, 3, rfl, d4, by decide, fun r H4 _ _ f4' k4 => ⟨rfl, _, rfl, iteB (fun _ => ?_) (fun _ => join _ _ ⟨y, rfl, hy, k4 D _ aD d1, f4', d5.trans k4⟩)⟩⟩
        refine ⟨_, rfl, _, rfl, _, rfl, _, rfl, a, b, _, rfl, f4', ?_, fun r2 H5 z0 z1 f5' k5 => ?_⟩
        · have : (8 : Nat) < 2 ^ 200 := by decide
          omega
        have hr2 : r2.toNat < us.length := by
          split at z1 <;> omega
        have d1' := k5 D _ aD (k4 D _ aD d1)
        have e5 : (us.map V.str)[r2.toNat]? = some (.str us[r2.toNat]) := by rw [List.getElem?_map, List.getElem?_eq_getElem hr2] <;> rfl
        refine ⟨D, _, _, _, rfl, rfl, SqL.of d1', at_of (by omega : r2 = ((r2.toNat : Nat) : Int)) e5, a, b, _, rfl, f5', g3.2 _ (List.getElem_mem hr2), fun z H6 hz f6' k6 => ?_⟩
        exact join _ _ ⟨z, rfl, hz, k6 D _ aD d1', f6', ((d5.trans k4).trans k5).trans k6⟩
    · have d1 := h5 D _ aD g1
      have d5 := g5.trans h5
      have hp2 := sqL_kept d5 hpa hp
      refine ⟨_, rfl, p, _, rfl, .inl hp2, _, _, rfl, rfl, _, rfl, iteB (fun e => ?_) (fun _ => join _ _ ⟨x, rfl, hx, d1, h4, d5⟩)⟩
      have hl0 : 0 < (ws.map V.str).length := by
        have := of_decide_eq_true e
        omega
      refine ⟨_, rfl, a, b, 2, rfl, h4, by decide, fun r H4 _ _ f4' k4 => ⟨rfl, _, rfl, iteB (fun _ => ?_) (fun _ => join _ _ ⟨x, rfl, hx, k4 D _ aD d1, f4', d5.trans k4⟩)⟩⟩
      refine ⟨_, rfl, _, rfl, a, b, p, _, rfl, f4', .inl ⟨sqL_kept k4 hpa hp2, hpa⟩, hl0, by rw [List.length_map]; exact hpl, fun j y H6 ey f6' k6 => ?_⟩
      obtain ⟨z, hz, rfl⟩ : ∃ z, ws[j]? = some z ∧ y = V.str z := by
        rw [List.getElem?_map] at ey
        obtain ⟨z, hz, e⟩ := Option.map_eq_some_iff.mp ey
        exact ⟨z, hz, e.symm⟩
      exact join _ _ ⟨z, rfl, hpw z (List.mem_of_getElem? hz), k6 D _ aD (k4 D _ aD d1), f6', (d5.trans k4).trans k6⟩
  · rintro σ H1 ⟨us, f4, f5, f6, rfl, g1, g2, g3, g4, g5⟩
    exact ⟨_, rfl, k D us H1 hD g1 g2 g3 g4 g5⟩
end
end Q
set_option Elab.async false
set_option linter.all false
set_option maxRecDepth 100000
set_option maxHeartbeats 4000000
/-! ### _law_table, _law_ban -/
namespace Q
open PySem L2 XD
theorem sqZ_flw {H H' : Hp} {a b q : Addr} {xs : List V} (F : Flw b H a) (k : Kept a H H') (h : SqZ H q xs) : SqZ H' q xs := by
  obtain ⟨ys, e⟩ := F.lst
  obtain ⟨o, h, d⟩ := h
  refine ⟨o, k _ _ (fun z => ?_) h, d⟩
  rw [z, e] at h
  cases h
theorem TabR.flw {K : PySem.W.Frag} {H H' : Hp} {a b : Addr} (F : Flw b H a) (s : Kept a H H') : ∀ {ps : List Addr} {kvs : List (Key × V)} {t : List (Str × List Str)}, TabR K H ps kvs t → TabR K H' ps kvs t
  | _, _, _, .nil => .nil
  | _, _, _, .cons a b o c => .cons (seqT_flw F s a) (seqT_flw F s b) o (TabR.flw F s c)
theorem prd_flw {K : PySem.W.Frag} {H H' : Hp} {a b : Addr} (F : Flw b H a) (s : Kept a H H') : ∀ {qs : List Addr} {r : List (Str × Str)}, Paired (fun q (e : Str × Str) => SqT K H q [.str e.1, .str e.2]) qs r → Paired (fun q (e : Str × Str) => SqT K H' q [.str e.1, .str e.2]) qs r
  | _, _, .nil => .nil
  | _, _, .cons a b => .cons (seqT_flw F s a) (prd_flw F s b)
theorem RuleAt.flw {K : PySem.W.Frag} {H H' : Hp} {a b p : Addr} {r : List (Str × Str)} (F : Flw b H a) (s : Kept a H H') (h : RuleAt K H p r) : RuleAt K H' p r := by
  obtain ⟨qs, h1, h2⟩ := h
  exact ⟨qs, sqZ_flw F s h1, prd_flw F s h2⟩
/-- a good table whose fields have so many values -/
structure Tb (t : List (Str × List Str)) (ms : List Nat) : Prop where
  sz : t.map (fun e => e.2.length) = ms
  nm : Wds (t.map (·.1))
  vs : ∀ e ∈ t, Wds e.2
def spTable (K : PySem.W.Frag) : Sp := fun vs H Q _ => ∃ (a b p : Addr) (ms : List Nat), vs = [.ref a, .ref p] ∧ Flw b H a ∧ H p = some (.lst (ms.map fun (m : Nat) => V.int m)) ∧ p ≠ a ∧ ms.length ≤ 7 ∧ (∀ m ∈ ms, m ≤ 7) ∧
  ∀ (D : Addr) (ps : List Addr) (kvs : List (Key × V)) (t : List (Str × List Str)) (H' : Hp), H D = none → H' D = some (.lst (ps.map V.ref)) → TabR K H' ps kvs t → Tb t ms → Flw b H' a → Kept a H H' → Q (.ref D) H'
section
variable {P : Program} {w : World} {K : PySem.W.Frag} {mg : Str → Option Value} {base : Heap}
theorem scTable : FnScope ["flow", "sizes", "names", "k"] ["flow", "sizes"] (defScope sTable) := ⟨rfl, rfl, rfl, by decide +kernel, rfl, by decide +kernel, by decide +kernel⟩
theorem ok_table {f : Addr} {fd : FuncData} (F : Fun K "_law_table" "_law_table" sTable f fd) (T : mg "len" = none) (T2 : mg "range" = none) (T3 : mg "tuple" = none) (KW : Kn P w K mg base 5 "_law_words" ["flow", "many", "pool"] (spWords K)) : FnOk P w K mg base CX0 6 f fd ["flow", "sizes"] (spTable K) := by
  obtain ⟨fW, fdW, GW, kW, bW, mW⟩ := KW.ex
  refine F.ok scTable (fun vs H Q E h => ?_) (fun cdv A outer s H vs Q E hr h => ?_)
  · obtain ⟨a, b, p, ms, rfl, _⟩ := h
    rfl
  obtain ⟨a, b, p, ms, rfl, ha, hp, hpa, hl, hm, k⟩ := h
  have vt_ : PySem.bootBuiltins "tuple" = some (.type "tuple") := by decide +kernel
  refine ⟨_, pss_cons (ps_set (i := 2) scTable.nd rfl (.inr rfl) (pe_call GW hr rfl mW kW bW .nil pass0 (pa_cons (pv 0) (pa_cons (pe_callB call_len_seq rfl T PySem.boot_len (pa_cons (pv 1) pa_nil)) (pa_cons (pe_lst pa_nil) pa_nil)))))
    (pss_one (ps_ret (pe_lc (own := [("k", 3)]) (g := gName 3) (tt := tYes) (by rfl) scTable.nd (pi_range1 rfl T2 (pa_cons (pe_callB call_len_seq rfl T PySem.boot_len (pa_cons (pv 1) pa_nil)) pa_nil)) (blkOk_by (N := ["flow", "sizes", "names", "k"]) (sc := defScope sTable) (by decide +kernel))
      (fun _ _ _ _ _ => pg_name (i := 3) scTable.nd rfl (.inl rfl)) (fun _ _ _ _ _ => pts_nil)
      (fun _ _ _ _ _ => pe_tupZ (pa_cons (pe_ix (ix_both K rfl) (pv 2) (pv 3) (fun _ _ => rfl)) (pa_cons (pe_callTy (call_tupK K rfl) rfl T3 vt_ (pa_cons (pe_call GW hr rfl mW kW bW .nil pass0 (pa_cons (pv 0) (pa_cons (pe_ix (ix_both K rfl) (pv 1) (pv 3) (fun _ _ => rfl)) (pa_cons (pv 2) pa_nil)))) pa_nil)) pa_nil)))))), ?_⟩
  refine ⟨_, rfl, _, rfl, p, _, rfl, .inl (SqL.of hp), by show 0 ≤ sizeLine; decide, fun e he => ?_⟩
  obtain ⟨ea, eb⟩ := ha.ne he
  have s0 := new_same he (.lst [])
  have ha0 : Flw b (upd H e (.lst [])) a := ha.same s0
  refine ⟨a, b, e, ms.length, [], by rw [List.length_map]; rfl, ha0, hl, SqL.of upd_same, ea, by decide, fun x h => absurd h List.not_mem_nil, fun N names H1 hN n1 n2 n3 n4 n5 => ?_⟩
  have hN0 : H N = none := by
    by_cases z : N = e
    · rw [z]
      exact he
    · rwa [upd_ne z] at hN
  have k1 : Kept a H H1 := (Kept.of_same s0).trans n5
  obtain ⟨Na, Nb⟩ := ha.ne hN0
  have hp1 := k1 _ _ hpa hp
  have i62 : -(2 ^ 62 : Int) ≤ ((ms.map fun (m : Nat) => V.int m).length : Int) := by
    have : -(2 ^ 62 : Int) ≤ 0 := by decide
    omega
  have j62 : ((ms.map fun (m : Nat) => V.int m).length : Int) < 2 ^ 62 := by
    have : (16 : Int) < 2 ^ 62 := by decide
    rw [List.length_map]
    omega
  refine ⟨_, rfl, p, _, rfl, .inl (SqL.of hp1), _, rfl, i62, j62, fun D hD => ?_⟩
  rw [List.length_map]
  have hD0 : H D = none := by
    by_cases z : D = a
    · obtain ⟨xs, hx⟩ := n4.lst
      rw [z, hx] at hD
      cases hD
    · cases q : H D with
      | none => rfl
      | some o =>
        rw [k1 D o z q] at hD
        cases hD
  obtain ⟨Da, Db⟩ := ha.ne hD0
  refine lc_range (lo := 0) (n := ms.length) (fun i H' => ∃ (ps : List Addr) (kvs : List (Key × V)) (t : List (Str × List Str)), H' D = some (.lst (ps.map V.ref)) ∧ TabR K H' ps kvs t ∧ t.map (·.1) = names.take i ∧ t.map (fun e => e.2.length) = ms.take i ∧ (∀ e ∈ t, Wds e.2) ∧ Flw b H' a ∧ Kept a H1 H')
    ⟨[], [], [], upd_same, .nil, rfl, rfl, (fun e h => absurd h List.not_mem_nil), n4.same (new_same hD _), Kept.of_same (new_same hD _)⟩ (fun i H2 hi hP => ?_) (fun H2 hP => ?_)
  · obtain ⟨ps, kvs, t, g1, g2, g3, g4, g5, g6, g7⟩ := hP
    have ei : (0 : Int) + (i : Int) = ((i : Nat) : Int) := by omega
    have e1 : names[i]? = some names[i] := List.getElem?_eq_getElem (by omega)
    have e2 : ms[i]? = some ms[i] := List.getElem?_eq_getElem hi
    generalize names[i] = nm at e1
    generalize ms[i] = m at e2
    refine ⟨rfl, ?_⟩
    unfold tYes
    refine iteT ⟨_, rfl, _, rfl, ix_row (.inl (SqL.of (g7 _ _ Na n1))) (at_of ei (by rw [List.getElem?_map, e1] <;> rfl)) ⟨_, rfl, _, rfl, _, rfl, ix_row (.inl (SqL.of (g7 _ _ hpa hp1))) (at_of ei (by rw [List.getElem?_map, e2] <;> rfl)) ⟨_, rfl, ?_⟩⟩⟩
    refine ⟨a, b, N, m, names, rfl, g6, hm m (List.mem_of_getElem? e2), SqL.of (g7 _ _ Na n1), Na, by omega, n3.2, fun W ws H3 hW w1 w2 w3 w4 w5 => ?_⟩
    refine ⟨W, _, rfl, .inl ⟨SqL.of w1, fun v o hv ho => ⟨by show 2 ≤ sizeLine; decide, fun q o2 hq ho2 => ?_⟩⟩⟩
    have hD3 : H3 D = some (.lst (ps.map V.ref)) := w5 _ _ Da g1
    have sv : Same H3 (upd H3 v (.frz o (.tup (ws.map V.str)))) := new_same hv _
    have sq : Same (upd H3 v (.frz o (.tup (ws.map V.str)))) (upd (upd H3 v (.frz o (.tup (ws.map V.str)))) q (.frz o2 (.tup [.str nm, .ref v]))) := new_same hq _
    have hD5 := sq _ _ (sv _ _ hD3)
    have hlen : ps.length ≤ 7 := by
      have h1 := congrArg List.length g4
      rw [List.length_map, List.length_take, ← g2.len.1] at h1
      omega
    refine ⟨_, hD5, small1000 (by rw [List.length_map]; omega), ps ++ [q], kvs ++ [((.inr nm : Key), V.ref v)], t ++ [(nm, ws)], ?_, ?_, ?_, ?_, ?_, ?_, ?_⟩
    · rw [upd_same, List.map_append] <;> rfl
    · refine TabR.off hD5 (TabR.snoc (.inl (.inr ⟨o2, upd_same⟩)) (seqT_same sq (.inl (.inr ⟨o, upd_same⟩))) (fun x hx => word_ok (w3.2 x hx)) (TabR.same (sv.trans sq) (TabR.flw g6 w5 g2)))
    · rw [List.map_append, g3, take_one e1] <;> rfl
    · rw [List.map_append, g4, take_one e2]
      show _ ++ [ws.length] = _
      rw [w2]
    · intro x hx
      rcases List.mem_append.mp hx with hx | hx
      · exact g5 x hx
      · rw [List.mem_singleton.mp hx]
        exact w3
    · exact (w4.same (sv.trans sq)).off Da Db
    · intro x o' nx e
      rw [upd_ne (ne_of_none e hD)]
      exact (sv.trans sq) _ _ (w5 _ _ nx (g7 _ _ nx e))
  · obtain ⟨ps, kvs, t, g1, g2, g3, g4, g5, g6, g7⟩ := hP
    rw [List.take_of_length_le (by omega)] at g3
    rw [List.take_of_length_le (Nat.le_refl _)] at g4
    exact k D ps kvs t H2 hD0 g1 g2 ⟨g4, by rw [g3]; exact n3, g5⟩ g6 (k1.trans g7)
end
end Q
set_option Elab.async false
set_option linter.all false
set_option maxRecDepth 100000
set_option maxHeartbeats 4000000
/-! ### _law_ban -/
namespace Q
open PySem L2 XD
/-- a rule over the table -/
structure Ban (t : List (Str × List Str)) (m : Nat) (r : List (Str × Str)) : Prop where
  lo : 1 ≤ r.length
  hi : r.length ≤ m
  nd : (r.map (·.1)).Nodup
  of : ∀ e ∈ r, ∃ ws, (e.1, ws) ∈ t ∧ e.2 ∈ ws
theorem TabR.flen {K : PySem.W.Frag} {H : Hp} {ps : List Addr} {kvs : List (Key × V)} {t : List (Str × List Str)} (h : TabR K H ps kvs t) : ps.length = t.length := h.len.1
theorem TabR.get {K : PySem.W.Frag} {H : Hp} {ps : List Addr} {kvs : List (Key × V)} {t : List (Str × List Str)} {i : Nat} {e : Str × List Str} (h : TabR K H ps kvs t) (he : t[i]? = some e) :
    ∃ q v, (ps.map V.ref)[i]? = some (.ref q) ∧ SqT K H q [.str e.1, .ref v] ∧ SqT K H v (e.2.map V.str) := by
  have hi : i < t.length := (List.getElem?_eq_some_iff.mp he).1
  have hi2 : i < (ps.map V.ref).length := by rw [List.length_map, h.flen]; exact hi
  obtain ⟨q, v, n, ws, h1, h2, h3, h4⟩ := h.at (List.getElem?_eq_getElem hi2)
  rw [he] at h2
  cases h2
  exact ⟨q, v, by rw [← h1]; exact List.getElem?_eq_getElem hi2, h3, h4⟩
theorem nodup_take {U L : List Nat} {k y : Nat} (h : (U ++ L).Nodup) (hy : L[k]? = some y) : ((U ++ [y]) ++ L.eraseIdx k).Nodup := by
  obtain ⟨hk, e⟩ := List.getElem?_eq_some_iff.mp hy
  have e1 : L = L.take k ++ y :: L.drop (k + 1) := by
    rw [← e, ← List.drop_eq_getElem_cons hk, List.take_append_drop]
  rw [List.eraseIdx_eq_take_drop_succ]
  have p : (U ++ L).Perm ((U ++ [y]) ++ (L.take k ++ L.drop (k + 1))) := by
    conv => lhs; rw [e1]
    rw [List.append_assoc]
    exact (List.Perm.append_left U List.perm_middle)
  exact p.nodup_iff.mp h
theorem map_erase {α β : Type} (f : α → β) : ∀ (l : List α) (k : Nat), (l.map f).eraseIdx k = (l.eraseIdx k).map f
  | [], _ => rfl
  | _ :: _, 0 => rfl
  | x :: l, k + 1 => by
    show f x :: (l.map f).eraseIdx k = f x :: (l.eraseIdx k).map f
    rw [map_erase f l k]
def spBan (K : PySem.W.Frag) : Sp := fun vs H Q _ => ∃ (a b p : Addr) (ps : List Addr) (kvs : List (Key × V)) (t : List (Str × List Str)) (m : Nat), vs = [.ref a, .ref p, .int m] ∧ Flw b H a ∧ (SqL K H p (ps.map V.ref) ∨ SqT K H p (ps.map V.ref)) ∧ p ≠ a ∧ TabR K H ps kvs t ∧
  1 ≤ t.length ∧ t.length ≤ 7 ∧ (t.map (·.1)).Nodup ∧ (∀ e ∈ t, 1 ≤ e.2.length ∧ e.2.length ≤ 7) ∧ 1 ≤ m ∧ m ≤ 7 ∧
  ∀ (z : Addr) (r : List (Str × Str)) (H' : Hp), RuleAt K H' z r → Ban t m r → Flw b H' a → Kept a H H' → Q (.ref z) H'
section
variable {P : Program} {w : World} {K : PySem.W.Frag} {mg : Str → Option Value} {base : Heap}
theorem scBan : FnScope ["flow", "table", "most", "left", "found", "k", "at"] ["flow", "table", "most"] (defScope sBan) := ⟨rfl, rfl, rfl, by decide +kernel, rfl, by decide +kernel, by decide +kernel⟩
theorem ok_ban {f : Addr} {fd : FuncData} (F : Fun K "_law_ban" "_law_ban" sBan f fd) (T : mg "len" = none) (T2 : mg "range" = none) (T3 : mg "tuple" = none) (T4 : mg "list" = none) (T5 : mg "min" = none)
    (KD : Kn P w K mg base 2 "_law_draw" ["flow", "many"] spDraw) (KP : Kn P w K mg base 3 "_law_pick" ["flow", "things"] (spPickB K)) : FnOk P w K mg base CX0 4 f fd ["flow", "table", "most"] (spBan K) := by
  obtain ⟨fD, fdD, GD, kD, bD, mD⟩ := KD.ex
  obtain ⟨fP, fdP, GP, kP, bP, mP⟩ := KP.ex
  refine F.ok scBan (fun vs H Q E h => ?_) (fun cdv A outer s H vs Q E hr h => ?_)
  · obtain ⟨a, b, p, ps, kvs, t, m, rfl, _⟩ := h
    rfl
  obtain ⟨a, b, p, ps, kvs, t, m, rfl, ha, hp, hpa, hT, ht1, ht7, hnd, hv, hm1, hm7, k⟩ := h
  have vt_ : PySem.bootBuiltins "tuple" = some (.type "tuple") := by decide +kernel
  refine ⟨_, pss_cons (ps_set (i := 3) scBan.nd rfl (.inl rfl) (pe_listRg rfl (by rfl) T4 (prg_1 (by rfl) T2 (pe_callB call_len_seq rfl T PySem.boot_len (pa_cons (pv 1) pa_nil)))))
    (pss_cons (ps_set (i := 4) scBan.nd rfl (.inl rfl) (pe_lst pa_nil))
    (pss_cons (ps_for PassesOwn.never rfl (pi_range1 rfl T2 (pa_cons (pe_op op_add pe_int (pe_call GD (hr.mono (by decide)) rfl mD kD bD .nil pass0 (pa_cons (pv 0) (pa_cons (pe_callB (call_min2 rfl) rfl T5 (by decide +kernel) (pa_cons (pv 2) (pa_cons (pe_callB call_len_seq rfl T PySem.boot_len (pa_cons (pv 1) pa_nil)) pa_nil))) pa_nil)))) pa_nil)) (pg_name (i := 5) scBan.nd rfl (.inl rfl))
      (pss_cons (ps_set (i := 6) scBan.nd rfl (.inl rfl) (pe_bm PySem.F.plainAttrs_list PySem.F.slot_list_pop PySem.F.type_list_pop mt_popAt (pv 3) (pa_cons (pe_call GD (hr.mono (by decide)) rfl mD kD bD .nil pass0 (pa_cons (pv 0) (pa_cons (pe_callB call_len_seq rfl T PySem.boot_len (pa_cons (pv 3) pa_nil)) pa_nil))) pa_nil)))
      (pss_one (ps_expr (pe_bm PySem.F.plainAttrs_list PySem.F.slot_list_append PySem.F.type_list_append mt_append (pv 4) (pa_cons (pe_tupZ (pa_cons (pe_ix (ix_both K rfl) (pe_ix (ix_both K rfl) (pv 1) (pv 6) (fun _ _ => rfl)) pe_int (fun _ _ => rfl))
        (pa_cons (pe_call GP hr rfl mP kP bP .nil pass0 (pa_cons (pv 0) (pa_cons (pe_ix (ix_both K rfl) (pe_ix (ix_both K rfl) (pv 1) (pv 6) (fun _ _ => rfl)) pe_int (fun _ _ => rfl)) pa_nil))) pa_nil))) pa_nil))))))
    (pss_one (ps_ret (pe_callTy (call_tupK K rfl) rfl T3 vt_ (pa_cons (pv 4) pa_nil)))))), ?_⟩
  have hlp : (ps.map V.ref).length = t.length := by rw [List.length_map, hT.flen]
  refine ⟨_, rfl, p, _, rfl, hp, _, rfl, RgOk.of_le (by decide) (by omega) (by decide) (by omega), fun L hL => ?_⟩
  refine ⟨by show 0 ≤ sizeLine; decide, fun D hD => ?_⟩
  obtain ⟨La, Lb⟩ := ha.ne hL
  have s1 := new_same hL (.lst (rgV 0 ((ps.map V.ref).length : Int)))
  have s2 := new_same hD (.lst [])
  have hD0 : H D = none := by
    cases q : H D with
    | none => rfl
    | some o =>
      rw [s1 _ _ q] at hD
      cases hD
  obtain ⟨Da, Db⟩ := ha.ne hD0
  have LD : L ≠ D := fun z => by
    rw [z, ← z, upd_same] at hD
    cases hD
  have ha2 := ha.same (s1.trans s2)
  have hrg : rgV 0 ((ps.map V.ref).length : Int) = (List.range t.length).map fun (n : Nat) => V.int n := by
    unfold rgV
    rw [hlp]
    have : ((t.length : Int) - 0).toNat = t.length := by omega
    rw [this]
    refine List.map_congr_left fun n _ => ?_
    show V.int (0 + (n : Int)) = V.int n
    rw [Int.zero_add]
  have hmin : ∀ z : Int, z = (if ((ps.map V.ref).length : Int) < (m : Int) then ((ps.map V.ref).length : Int) else (m : Int)) → 1 ≤ z ∧ z ≤ m ∧ z ≤ t.length := fun z e => by
    rw [e, hlp]
    split <;> omega
  refine ⟨_, rfl, _, rfl, _, rfl, p, _, rfl, sq_same (s1.trans s2) hp, _, _, rfl, a, b, _, rfl, ha2, ?_, fun r H1 r0 r1 f1 k1 => ?_⟩
  · have := hmin _ rfl
    have h8 : (8 : Nat) < 2 ^ 200 := by decide
    omega
  obtain ⟨m1, m2, m3⟩ := hmin _ rfl
  generalize (if ((ps.map V.ref).length : Int) < (m : Int) then ((ps.map V.ref).length : Int) else (m : Int)) = mn at r1 m1 m2 m3
  have hr1 : r < mn := by
    split at r1 <;> omega
  obtain ⟨n, rfl⟩ : ∃ n : Nat, r = (n : Int) := ⟨r.toNat, by omega⟩
  refine ⟨_, _, rfl, rfl, _, rfl, ?_, ?_, ?_⟩
  · have : -(2 ^ 62 : Int) ≤ 0 := by decide
    omega
  · have : (16 : Int) < 2 ^ 62 := by decide
    omega
  have en : ((1 : Int) + (n : Int)).toNat = n + 1 := by omega
  rw [en]
  have k0 : Kept a H H1 := (Kept.of_same (s1.trans s2)).trans k1
  have l1 : H1 L = some (.lst ((List.range t.length).map fun (n : Nat) => V.int n)) := k1 _ _ La (s2 _ _ (by rw [← hrg]; exact upd_same))
  have d1 : H1 D = some (.lst []) := k1 _ _ Da upd_same
  have hp1 := sq_kept k0 hpa hp
  have hT1 := hT.flw ha k0
  refine for_range (lo := 0) (n := n + 1) (fun i σ H' => ∃ (lf us : List Nat) (qs : List Addr) (r : List (Str × Str)) (f5 f6 : Option V), σ = [some (.ref a), some (.ref p), some (.int m), some (.ref L), some (.ref D), f5, f6] ∧ H' L = some (.lst (lf.map fun (n : Nat) => V.int n)) ∧ H' D = some (.lst (qs.map V.ref)) ∧
      (us ++ lf).Nodup ∧ us.length = i ∧ us.length + lf.length = t.length ∧ (∀ x ∈ us ++ lf, x < t.length) ∧ r.map (·.1) = us.map (fun x => (t.map (·.1)).getD x Str.empty) ∧ (∀ e ∈ r, ∃ ws, (e.1, ws) ∈ t ∧ e.2 ∈ ws) ∧ Paired (fun q (e : Str × Str) => SqT K H' q [.str e.1, .str e.2]) qs r ∧ Flw b H' a ∧ Kept a H H')
    ⟨List.range t.length, [], [], [], none, none, rfl, l1, d1, ?_, rfl, ?_, ?_, rfl, (fun e h => absurd h List.not_mem_nil), .nil, f1, k0⟩ ?_ ?_
  · rw [List.nil_append]
    exact List.nodup_range
  · rw [List.length_range] <;> exact Nat.zero_add _
  · intro x hx
    rw [List.nil_append] at hx
    exact List.mem_range.mp hx
  · rintro i σ H2 hi ⟨lf, us, qs, r, f5, f6, rfl, g1, g2, g3, g4, g5, g6, g7, g8, g9, g10, g11⟩
    have hlf : 1 ≤ lf.length := by omega
    refine ⟨_, rfl, .inl ⟨rfl, _, SqL.of g1⟩, _, rfl, _, rfl, L, _, rfl, .inl (SqL.of g1), a, b, _, rfl, g10, ?_, fun r2 H3 z0 z1 f3 k3 => ?_⟩
    · rw [List.length_map]
      have h8 : (8 : Nat) < 2 ^ 200 := by decide
      omega
    rw [List.length_map] at z1
    have hr2 : r2 < lf.length := by
      split at z1 <;> omega
    have hk : r2.toNat < lf.length := by omega
    have ey : lf[r2.toNat]? = some lf[r2.toNat] := List.getElem?_eq_getElem hk
    generalize lf[r2.toNat] = y at ey
    have hyt : y < t.length := g6 y (List.mem_append_right _ (List.mem_of_getElem? ey))
    refine ⟨L, _, r2, r2.toNat, _, rfl, rfl, k3 _ _ La g1, by omega, by omega, ?_, by rw [List.getElem?_map, ey] <;> rfl, ?_⟩
    · rw [List.length_map]
      exact PySem.seqIndex_of z0 hr2
    have hT3 := hT.flw ha (g11.trans k3)
    have hp3 := sq_kept (g11.trans k3) hpa hp
    have e0 : t[y]? = some t[y] := List.getElem?_eq_getElem hyt
    have emem := List.mem_of_getElem? e0
    generalize t[y] = e at e0 emem
    have sL : Kept a H (upd H3 L (.lst (((lf.map fun (n : Nat) => V.int n)).eraseIdx r2.toNat))) := (g11.trans k3).new hL
    have hT4 := hT.flw ha sL
    have hp4 := sq_kept sL hpa hp
    have f4 := f3.off (o := .lst (((lf.map fun (n : Nat) => V.int n)).eraseIdx r2.toNat)) La Lb
    have d4 : upd H3 L (.lst (((lf.map fun (n : Nat) => V.int n)).eraseIdx r2.toNat)) D = some (.lst (qs.map V.ref)) := by
      rw [upd_ne LD.symm]
      exact k3 _ _ Da g2
    have l4 : upd H3 L (.lst (((lf.map fun (n : Nat) => V.int n)).eraseIdx r2.toNat)) L = some (.lst (((lf.map fun (n : Nat) => V.int n)).eraseIdx r2.toNat)) := upd_same
    have p4 : Paired (fun q (e : Str × Str) => SqT K (upd H3 L (.lst (((lf.map fun (n : Nat) => V.int n)).eraseIdx r2.toNat))) q [.str e.1, .str e.2]) qs r := prd_off (k3 _ _ La g1) (prd_flw g10 k3 g9)
    generalize upd H3 L (.lst (((lf.map fun (n : Nat) => V.int n)).eraseIdx r2.toNat)) = H4 at sL hT4 hp4 f4 d4 l4 p4
    obtain ⟨q, v, c1, c2, c3⟩ := hT4.get e0
    have ex : (0 : Int) + (i : Int) = ((i : Nat) : Int) := by omega
    refine ⟨_, rfl, .inl ⟨rfl, _, SqL.of d4⟩, _, rfl, _, rfl, ix_row hp4 (at_of rfl c1) (ix_row (.inr c2) (by rfl) ⟨_, rfl, _, rfl, _, rfl, ix_row hp4 (at_of rfl c1) (ix_row (.inr c2) (by rfl) ?_)⟩)⟩
    have hve := hv e emem
    refine ⟨a, b, v, _, rfl, f4, .inr c3, by rw [List.length_map]; omega, by rw [List.length_map]; omega, fun j x H5 ej f5' k5 => ⟨by show 2 ≤ sizeLine; decide, fun w5 o5 hw5 ho5 => ?_⟩⟩
    obtain ⟨w0, hw0, rfl⟩ : ∃ z, e.2[j]? = some z ∧ x = V.str z := by
      rw [List.getElem?_map] at ej
      obtain ⟨z, hz, e⟩ := Option.map_eq_some_iff.mp ej
      exact ⟨z, hz, e.symm⟩
    have s5 : Same H5 (upd H5 w5 (.frz o5 (.tup [.str e.1, .str w0]))) := new_same hw5 _
    have d5 := s5 _ _ (k5 _ _ Da d4)
    have l5 := s5 _ _ (k5 _ _ La l4)
    have hql : qs.length = r.length := prd_len g9
    have hrl : r.length = us.length := by
      have := congrArg List.length g7
      rwa [List.length_map, List.length_map] at this
    refine ⟨D, _, _, rfl, rfl, d5, small1000 (by rw [List.length_map]; omega), ?_⟩
    have ed : (lf.map fun (n : Nat) => V.int n).eraseIdx r2.toNat = (lf.eraseIdx r2.toNat).map fun (n : Nat) => V.int n := map_erase _ _ _
    refine ⟨lf.eraseIdx r2.toNat, us ++ [y], qs ++ [w5], r ++ [(e.1, w0)], _, _, rfl, ?_, ?_, nodup_take g3 ey, ?_, ?_, ?_, ?_, ?_, ?_, ?_, ?_⟩
    · rw [upd_ne LD, l5, ed]
    · rw [upd_same, List.map_append] <;> rfl
    · rw [List.length_append, List.length_singleton, g4]
    · rw [List.length_append, List.length_singleton, List.length_eraseIdx, if_pos hk]
      omega
    · intro x hx
      rcases List.mem_append.mp hx with hx | hx
      · rcases List.mem_append.mp hx with hx | hx
        · exact g6 x (List.mem_append_left _ hx)
        · rw [List.mem_singleton.mp hx]
          exact hyt
      · exact g6 x (List.mem_append_right _ (List.mem_of_mem_eraseIdx hx))
    · rw [List.map_append, List.map_append, g7]
      show _ ++ [e.1] = _ ++ [(t.map (·.1)).getD y Str.empty]
      rw [List.getD_eq_getElem?_getD, List.getElem?_map, e0] <;> rfl
    · intro x hx
      rcases List.mem_append.mp hx with hx | hx
      · exact g8 x hx
      · rw [List.mem_singleton.mp hx]
        exact ⟨e.2, emem, List.mem_of_getElem? hw0⟩
    · exact prd_off d5 (prd_snoc (prd_same s5 (prd_flw f4 k5 p4)) (.inl (.inr ⟨o5, upd_same⟩)))
    · exact (f5'.same s5).off Da Db
    · exact ((sL.trans k5).trans (Kept.of_same s5)).new hD0
  · rintro σ H2 ⟨lf, us, qs, r, f5, f6, rfl, g1, g2, g3, g4, g5, g6, g7, g8, g9, g10, g11⟩
    refine ⟨_, rfl, D, _, rfl, .inl ⟨SqL.of g2, fun z o hz ho => ?_⟩⟩
    have sz : Same H2 (upd H2 z (.frz o (.tup (qs.map V.ref)))) := new_same hz _
    have hl : r.length = n + 1 := by
      have := congrArg List.length g7
      rw [List.length_map, List.length_map] at this
      omega
    refine k z r _ ⟨qs, ⟨o, upd_same, ho⟩, prd_same sz g9⟩ ⟨by omega, by omega, ?_, g8⟩ (g10.same sz) (g11.trans (Kept.of_same sz))
    rw [g7]
    refine List.pairwise_map.mpr (List.Pairwise.imp_of_mem (fun {x y} hx hy h z => ?_) (List.nodup_append.mp g3).1)
    have hx2 := g6 x (List.mem_append_left _ hx)
    have hy2 := g6 y (List.mem_append_left _ hy)
    have hlm : (t.map (·.1)).length = t.length := List.length_map ..
    have gx : (t.map (·.1)).getD x Str.empty = (t.map (·.1))[x]'(by omega) := by rw [List.getD_eq_getElem?_getD, List.getElem?_eq_getElem (by omega)] <;> rfl
    have gy : (t.map (·.1)).getD y Str.empty = (t.map (·.1))[y]'(by omega) := by rw [List.getD_eq_getElem?_getD, List.getElem?_eq_getElem (by omega)] <;> rfl
    rw [gx, gy] at z
    refine h ?_
    exact (List.getElem_inj hnd).mp z
end
end Q
set_option Elab.async false
set_option linter.all false
set_option maxRecDepth 100000
set_option maxHeartbeats 4000000
/-! A tuple turned by [::-1], kept as it is made. -/
namespace XR
open PySem PySem.Spec PyProof.Rows HT L2 XD
section
variable {prog : Program} {w : World} {A : Around} {E : Value → Shared → Prop} {s : Shared}
theorem back_places (n : Nat) : Builtin.Slice.slicePlaces ((n : Int) - 1) (-1) (-1) = n := by
  unfold Builtin.Slice.slicePlaces
  have h1 : ¬ ((-1 : Int) > 0) := by decide
  simp only [h1, if_false]
  by_cases h : (n : Int) - 1 > -1
  · have e : ((n : Int) - 1 - -1 - 1) / (- -1) = (n : Int) - 1 := by
      rw [show (- -1 : Int) = 1 by decide, Int.ediv_one]
      omega
    simp only [h, if_true, e]
    omega
  · have e : n = 0 := by omega
    subst e
    simp
theorem back_adjust (n : Nat) : Builtin.Slice.sliceAdjust none none (-1) (n : Int) = ((n : Int) - 1, -1) := by
  unfold Builtin.Slice.sliceAdjust
  have h1 : ((-1 : Int) < 0) := by decide
  simp only [h1, if_true]
theorem back_pick (xs : Array Value) : ((List.range xs.size).filterMap fun (k : Nat) => xs[((xs.size : Int) - 1 + (k : Int) * (-1)).toNat]?).toArray = xs.toList.reverse.toArray := by
  have e : (fun (k : Nat) => xs[((xs.size : Int) - 1 + (k : Int) * (-1)).toNat]?) = fun k => xs[xs.size - 1 - k]? := by
    funext k
    by_cases h : k < xs.size
    · have : ((xs.size : Int) - 1 + (k : Int) * (-1)).toNat = xs.size - 1 - k := by omega
      rw [this]
    · have : ((xs.size : Int) - 1 + (k : Int) * (-1)).toNat = xs.size - 1 - k := by omega
      rw [this]
  rw [e]
  have e2 : (fun (k : Nat) => xs[xs.size - 1 - k]?) = (fun x => xs[x]?) ∘ (fun k => xs.size - 1 - k) := rfl
  rw [e2, ← List.filterMap_map, PySem.W.krv_range, List.filterMap_reverse, PySem.W.krv_all]
theorem sliceApplied_back {sl : Addr} {vk : Value} {n : Nat} {Q : Int × Int × Nat → Shared → Prop} (hs : s.heap.IsSliceOf sl .none .none vk) (pk : IsPart vk (some (-1)))
    (h : Q ((n : Int) - 1, -1, n) s) : wpAny (model prog w) A (Builtin.Slice.sliceApplied (.ref sl) (pure (n : Int))) Q E s := by
  obtain ⟨os, hos, hcs, hds⟩ := id hs
  unfold Builtin.Slice.sliceApplied Builtin.Slice.sliceFields
  refine wpAny_bind (wpAny_bind (wpAny_field hos hds (x := .none) rfl (wpAny_bind (wpAny_field hos hds (x := .none) rfl (wpAny_bind (wpAny_field hos hds (x := vk) rfl (wpAny_pure ?_)))))))
  refine wpAny_bind (slicePart_ pk ?_)
  show wpAny _ _ (if ((-1 : Int) == 0) = true then _ else _) _ _ s
  rw [if_neg (by decide)]
  refine wpAny_bind (slicePart_ .none (wpAny_bind (slicePart_ .none (wpAny_bind (wpAny_pure ?_)))))
  show wpAny _ _ (match Builtin.Slice.sliceAdjust none none (-1) (n : Int) with | (lo, hi) => pure (lo, (-1 : Int), Builtin.Slice.slicePlaces lo hi (-1))) _ _ s
  rw [back_adjust n]
  show wpAny _ _ (pure ((n : Int) - 1, (-1 : Int), Builtin.Slice.slicePlaces ((n : Int) - 1) (-1) (-1))) _ _ s
  rw [back_places]
  exact wpAny_pure h
theorem getItem_tuple_back {t sl : Addr} {items : Array Value} {vk : Value} {Q : Value → Shared → Prop} (ht : IsTup s.heap t items) (hs : s.heap.IsSliceOf sl .none .none vk) (pk : IsPart vk (some (-1)))
    (h : Q (.ref s.heap.objs.size) { s with heap := s.heap.push { cls := .type "tuple", data := .seq items.toList.reverse.toArray } })
    (hsz : items.size ≤ sizeLine) : wpAny (model prog w) A (getItem (.ref t) (.ref sl)) Q E s := by
  have htake : sizeOk (.seq items.toList.reverse.toArray) := by
    show items.toList.reverse.toArray.size ≤ sizeLine
    rw [List.size_toArray, List.length_reverse, Array.length_toList]
    exact hsz
  obtain ⟨os, hos, hcs, hds⟩ := id hs
  have hTs : s.TypeIs (.ref sl) "slice" := ⟨os, hos, hcs⟩
  unfold getItem
  try with_reducible refine wpAny_holding ?_
  first | refine wpAny_bind (wpAny_pure ?_) | skip
  refine wpAny_bind (wpAny_sequenceKey ht.typeIs (by decide) ?_)
  refine wpAny_bind (wpAny_callSpecial?_slot (name := Str.ofString "__getitem__") ht.typeIs PyProof.Rows.slot_tuple_getitem
    (wpAny_call_entry PyProof.Rows.slot_tuple_getitem ht.typeIs entry_tuple_getitem ?_ (args_tuple_getitem _ _)))
  show wpAny _ _ (Builtin.Tuple.tupleItemsOf (.ref t) >>= _) _ _ s
  refine wpAny_bind (tupleItemsOf_ ht ?_)
  refine wpAny_bind (wpAny_typeOf hTs ?_)
  rw [if_pos (by decide)]
  refine wpAny_bind (sliceApplied_back hs pk ?_)
  have hno : ¬ ((((items.size : Int) - 1 : Int) == 0 && (-1 : Int) == 1 && items.size == items.size) = true) := by
    intro q
    rw [Bool.and_eq_true, Bool.and_eq_true] at q
    exact absurd q.1.2 (by decide)
  show wpAny _ _ (if (((items.size : Int) - 1 : Int) == 0 && (-1 : Int) == 1 && items.size == items.size) = true then _ else _) _ _ s
  rw [if_neg hno, back_pick]
  first
    | exact wpAny_bind (m := Builtin.Tuple.tupleExact _) (wpAny_newObj_type (wpAny_pure ⟨_, rfl, wpAny_pure h⟩) htake)
    | exact wpAny_bind (m := Builtin.Tuple.tupleExact _) (wpAny_newObj_type (wpAny_bind (wpAny_pure (wpAny_pure ⟨_, rfl, wpAny_pure h⟩))) htake)
    | exact wpAny_bind (wpAny_bind (m := Builtin.Tuple.tupleExact _) (wpAny_newObj_type (wpAny_pure (wpAny_pure ⟨_, rfl, wpAny_pure h⟩)) htake))
    | exact wpAny_bind (wpAny_bind (m := Builtin.Tuple.tupleExact _) (wpAny_newObj_type (wpAny_pure ⟨_, rfl, wpAny_pure h⟩) htake))
end
section
variable {X : Cx}
/-- t[::-1] -/
def tRevT (K : PySem.W.Frag) (te : TE) : TE := fun σ H Q => te σ H fun x H1 => ∃ a xs, x = .ref a ∧ SqT K H1 a xs ∧ ∀ p o, H1 p = none → o.dict = none → Q (.ref p) (upd H1 p (.frz o (.tup xs.reverse)))
theorem pe_revT {e : Expr} {te : TE} {k : Nat} {p1 p2 p3 pos : Pos} (he : PE X e te) : PE X (.Subscript e (.Slice none none (some (.UnaryOp .USub (.Constant (.int 1) k p1) p2)) p3) pos) (tRevT X.K te) := by
  refine ⟨fun pins s σ H Q I h => ?_⟩
  refine Subscript_ (thn (he.run pins s σ H _ I h) fun v s1 ⟨x, H1, I1, r1, q1⟩ => ?_)
  obtain ⟨a, xs, ex, hx, q⟩ := q1
  subst ex
  cases r1
  have hst : PO X (some (.UnaryOp .USub (.Constant (.int 1) k p1) p2)) (tPart (tUn (rU fun i => .int (-i)) (tC (.int 1)))) := po_some (pe_un un_neg pe_int)
  refine wpAny_Slice (thn (po_none.run pins s1 σ H1 (fun o H2 => o = none ∧ H2 = H1) I1 ⟨rfl, rfl⟩) fun vl s2 ⟨l, H2, I2, pl, el, e2⟩ => ?_)
  subst el e2
  refine thn (po_none.run pins s2 σ H2 (fun o H3 => o = none ∧ H3 = H2) I2 ⟨rfl, rfl⟩) fun vu s3 ⟨u, H3, I3, pu, eu, e3⟩ => ?_
  subst eu e3
  refine thn (hst.run pins s3 σ H3 (fun o H4 => o = some (-1) ∧ H4 = H3) I3 ⟨1, rfl, -1, rfl, rfl, rfl⟩) fun vs s4 ⟨o, H4, I4, ps, eo, e4⟩ => ?_
  subst eo e4
  cases pl
  cases pu
  have I5 : Inv X pins σ H4 { s4 with heap := s4.heap.push { cls := .type "slice", data := .fields #[.none, .none, vs] } } := I4.kept (t' := s4.toks) fun b ob q => Heap.get?_push_of_some _ q
  obtain ⟨its, r, ht, hz⟩ := I5.tuple hx
  have hlen := r.length
  show wpAny (model X.prog X.w) X.A (subscriptTail e (.Slice none none (some (.UnaryOp .USub (.Constant (.int 1) k p1) p2)) p3) (.ref a) (.ref s4.heap.objs.size)) (EP X pins σ Q) X.xe { s4 with heap := s4.heap.push { cls := .type "slice", data := .fields #[.none, .none, vs] } }
  refine tail_any (ops := [.ref a, .ref s4.heap.objs.size]) ht.typeIs (PyProof.Rows.slot_tuple_getitem.lookup) ?_ (by with_unfolding_all rfl)
  refine getItem_tuple_back ht (Heap.IsSliceOf.new _ .none .none vs) ps ?_ (by rw [List.size_toArray]; omega)
  refine ⟨.ref _, _, I5.laid (t' := s4.toks) (o := .frz { cls := .type "tuple", data := .seq its.reverse.toArray } (.tup xs.reverse)) (fun b ob q => Heap.get?_push_of_some _ q) (Nat.le_refl _) ?_, rfl, q _ _ (I5.hok.fresh (Nat.le_refl _)) rfl⟩
  exact ⟨Heap.get?_push_size _ rfl, by rw [List.length_reverse]; exact hz, _, r.reverse, IsTup.new _ _⟩
theorem pe_revTK {e : Expr} {te : TE} {k : Nat} {p1 p2 p3 pos : Pos} (K : PySem.W.Frag) (h : X.K = K) (he : PE X e te) : PE X (.Subscript e (.Slice none none (some (.UnaryOp .USub (.Constant (.int 1) k p1) p2)) p3) pos) (tRevT K te) := by
  subst h
  exact pe_revT he
end
end XR
set_option Elab.async false
set_option linter.all false
set_option maxRecDepth 100000
set_option maxHeartbeats 4000000
/-! ### _law_lists -/
namespace Q
open PySem L2 XD
mutual
/-- tuples turned to lists -/
def toL : PyData → PyData
  | .list xs => .list (toLs xs)
  | .tuple xs => .list (toLs xs)
  | d => d
def toLs : List PyData → List PyData
  | [] => []
  | x :: xs => toL x :: toLs xs
end
theorem toLs_map : ∀ xs : List PyData, toLs xs = xs.map toL
  | [] => by unfold toLs; rfl
  | x :: xs => by
    unfold toLs
    rw [toLs_map xs]
    rfl
/-- data in lists that are new since H0 -/
inductive LsF (H0 H : Hp) : V → PyData → Prop
  | non : LsF H0 H .non .none
  | bl (b : Bool) : LsF H0 H (.bl b) (.bool b)
  | int (i : Int) : LsF H0 H (.int i) (.int i)
  | str (x : Str) : LsF H0 H (.str x) (.str x)
  | nil {p : Addr} : H0 p = none → H p = some (.lst []) → LsF H0 H (.ref p) (.list [])
  | cons {p : Addr} {ys : List V} {xs : List PyData} : H0 p = none → H p = some (.lst ys) → ys.length = xs.length → (∀ (i : Nat) (y : V) (x : PyData), ys[i]? = some y → xs[i]? = some x → LsF H0 H y x) → LsF H0 H (.ref p) (.list xs)
theorem LsF.map {H0 H H0' H' : Hp} (h0 : ∀ p, H0 p = none → H0' p = none) (h1 : ∀ p ys, H0 p = none → H p = some (.lst ys) → H' p = some (.lst ys)) {v : V} {d : PyData} (h : LsF H0 H v d) : LsF H0' H' v d := by
  induction h with
  | non => exact .non
  | bl b => exact .bl b
  | int i => exact .int i
  | str x => exact .str x
  | nil a b => exact .nil (h0 _ a) (h1 _ _ a b)
  | cons a b c d ih => exact .cons (h0 _ a) (h1 _ _ a b) c ih
theorem LsF.same {H0 H H' : Hp} (s : Same H H') {v : V} {d : PyData} (h : LsF H0 H v d) : LsF H0 H' v d := h.map (fun _ z => z) (fun p ys _ z => s p _ z)
theorem LsF.base {H0 H0' H : Hp} (s : ∀ p, H0 p = none → H0' p = none) {v : V} {d : PyData} (h : LsF H0 H v d) : LsF H0' H v d := h.map s (fun p ys _ z => z)
theorem LsF.off {H0 H : Hp} {D : Addr} {o : HO} (hD : H0 D ≠ none) {v : V} {d : PyData} (h : LsF H0 H v d) : LsF H0 (upd H D o) v d := h.map (fun _ z => z) (fun p ys z q => by
  have n : p ≠ D := fun e => hD (e ▸ z)
  rw [upd_ne n]
  exact q)
theorem LsF.row {H0 H : Hp} {v : V} {xs : List PyData} (h : LsF H0 H v (.list xs)) : ∃ (p : Addr) (ys : List V), v = .ref p ∧ H0 p = none ∧ H p = some (.lst ys) ∧ ys.length = xs.length ∧ ∀ (i : Nat) (y : V) (x : PyData), ys[i]? = some y → xs[i]? = some x → LsF H0 H y x := by
  cases h with
  | nil a b => exact ⟨_, [], rfl, a, b, rfl, fun i y x h1 => by simp at h1⟩
  | cons a b c d => exact ⟨_, _, rfl, a, b, c, d⟩
theorem dps_of {K : PySem.W.Frag} {H : Hp} : ∀ {ys : List V} {xs : List PyData}, ys.length = xs.length → (∀ (i : Nat) (y : V) (x : PyData), ys[i]? = some y → xs[i]? = some x → Dp K H y x) → DpAll K H ys xs
  | [], [], _, _ => .nil
  | y :: ys, x :: xs, e, h => .cons (h 0 y x rfl rfl) (dps_of (by simpa using e) fun i y' x' h1 h2 => h (i + 1) y' x' (by simpa using h1) (by simpa using h2))
theorem LsF.dp {K : PySem.W.Frag} {H0 H : Hp} {v : V} {d : PyData} (h : LsF H0 H v d) : Dp K H v d := by
  induction h with
  | non => exact .non
  | bl b => exact .bl b
  | int i => exact .int i
  | str x => exact .str x
  | nil a b => exact .lst (SqL.of b) .nil
  | cons a b c d ih => exact .lst (SqL.of b) (dps_of c ih)
def spLists (K : PySem.W.Frag) (n : Nat) : Sp := fun vs H Q _ => ∃ (v : V) (d : PyData), vs = [v] ∧ Dp K H v d ∧ Ds n d ∧ ∀ v' H', Same H H' → LsF H H' v' (toL d) → Q v' H'
section
variable {P : Program} {w : World} {K : PySem.W.Frag} {mg : Str → Option Value} {base : Heap}
theorem scLists : FnScope ["thing", "part"] ["thing"] (defScope sLists) := ⟨rfl, rfl, rfl, by decide +kernel, rfl, by decide +kernel, by decide +kernel⟩
theorem lists_none {f : Addr} {fd : FuncData} : FnOk P w K mg base CX0 0 f fd ["thing"] (spLists K 0) := by
  have no : ∀ vs H Q E, ¬ spLists K 0 vs H Q E := fun vs H Q E h => by
    obtain ⟨v, d, _, _, z, _⟩ := h
    exact z
  exact ⟨fun vs H Q E h => absurd h (no vs H Q E), fun A outer s H args us vs Q E _ _ _ _ h => absurd h (no vs H Q E)⟩
theorem ok_lists {f : Addr} {fd : FuncData} {n : Nat} (F : Fun K "_law_lists" "_law_lists" sLists f fd) (T : Bs mg) (G : FnOk P w K mg base CX0 n f fd ["thing"] (spLists K n)) (bG : Binds K fd ["thing"] []) (mG : mg "_law_lists" = some (.ref f)) :
    FnOk P w K mg base CX0 (n + 1) f fd ["thing"] (spLists K (n + 1)) := by
  refine F.ok scLists (fun vs H Q E h => ?_) (fun cdv A outer s H vs Q E hr h => ?_)
  · obtain ⟨v, d, rfl, _⟩ := h
    rfl
  obtain ⟨v, d, rfl, h1, hd, k⟩ := h
  have vt : PySem.bootBuiltins "tuple" = some (.type "tuple") := by decide +kernel
  have vl : PySem.bootBuiltins "list" = some (.type "list") := by decide +kernel
  refine ⟨_, pss_cons (ps_if (PW.pt (pw_or (pt_val (pe_isi T.isi T.tup vt (pv 0))) (pw_or1 (pt_val (pe_isi T.isi T.list vl (pv 0))))))
      (pss_one (ps_ret (pe_lc (own := [("part", 1)]) (g := gName 1) (tt := tYes) (by rfl) scLists.nd (pi_row (pv 0)) (blkOk_by (N := ["thing", "part"]) (sc := defScope sLists) (by decide +kernel))
          (fun _ _ _ _ _ => pg_name (i := 1) scLists.nd rfl (.inl rfl)) (fun _ _ _ _ _ => pts_nil)
          (fun _ _ _ _ _ => pe_call G hr rfl mG F.kp bG .nil pass0 (pa_cons (pv 1) pa_nil))))) pss_nil)
    (pss_one (ps_ret (pv 0))), ?_⟩
  have row : ∀ (xs : List PyData) (p : Addr) (ys : List V), rowOf d = some xs → toL d = .list (toLs xs) → (SqL K H p ys ∨ SqT K H p ys) → DpAll K H ys xs →
      tLc (iRow K (tVar 0)) (gName 1) tYes (tCall (spLists K n) [] E0 (tCons (tVar 1) tNil)) [1] [some (.ref p), none] H Q := fun xs p ys er et hp ha => by
    obtain ⟨hl, hm⟩ := hd xs er
    have l1 := dps_len ha
    refine lc_row (ys := ys) (fun D i H' => ∃ us, H' D = some (.lst us) ∧ us.length = i ∧ (∀ (j : Nat) (y : V) (x : PyData), us[j]? = some y → xs[j]? = some x → LsF (upd H D (.lst [])) H' y (toL x)) ∧ Same H H') (fun Q' z => ⟨_, rfl, z⟩) hp (fun D hD => ⟨[], upd_same, rfl, fun j y x h => by simp at h, new_same hD _⟩) (fun D i H' hD hP => by obtain ⟨_, _, _, _, z⟩ := hP; exact z) (fun D i x H' hD hi hP hx => ?_) (fun D H' hD hP => ?_)
    · obtain ⟨us, g1, g2, g3, g4⟩ := hP
      obtain ⟨e, he, hde⟩ := dps_get ha hx
      refine ⟨rfl, ?_⟩
      unfold tYes
      refine iteT ⟨_, rfl, x, e, rfl, dp_same g4 hde, hm e (List.mem_of_getElem? he), fun v' H2 s2 hv => ?_⟩
      have fr : ∀ p, H' p = none → upd H D (.lst []) p = none := fun p hp => by
        have n : p ≠ D := fun z => by
          rw [z, g1] at hp
          cases hp
        rw [upd_ne n]
        exact g4.free hp
      refine ⟨us, s2 _ _ g1, small1000 (by omega), us ++ [v'], upd_same, by rw [List.length_append, g2] <;> rfl, fun j y z h1 h2 => ?_, fun b o z => ?_⟩
      · refine LsF.off (by rw [upd_same]; exact fun z => by cases z) ?_
        by_cases hj : j < us.length
        · rw [List.getElem?_append_left hj] at h1
          exact (g3 j y z h1 h2).same s2
        · rw [List.getElem?_append_right (by omega)] at h1
          have : j = i := by
            have := (List.getElem?_eq_some_iff.mp h1).1
            rw [List.length_singleton] at this
            omega
          subst this
          rw [g2, Nat.sub_self] at h1
          cases h1
          rw [he] at h2
          cases h2
          exact hv.base fr
      · rw [upd_ne (ne_of_none z hD)]
        exact s2 _ _ (g4 _ _ z)
    · obtain ⟨us, g1, g2, g3, g4⟩ := hP
      refine k _ H' g4 ?_
      rw [et]
      refine .cons hD g1 (by rw [toLs_map, List.length_map]; omega) fun j y z h1 h2 => ?_
      rw [toLs_map, List.getElem?_map] at h2
      obtain ⟨x, hx, rfl⟩ := Option.map_eq_some_iff.mp h2
      refine (g3 j y x h1 hx).base fun p hp => ?_
      by_cases z : p = D
      · rw [z]
        exact hD
      · rwa [upd_ne z] at hp
  cases d with
  | dict kvs => exact absurd rfl (dp_no_dict h1 kvs)
  | list xs =>
    have t1 : TyX K H v (.type "list") := tyD h1
    cases h1 with
    | lst hp ha =>
      refine ⟨_, rfl, _, _, _, _, _, rfl, .ty _, t1, kit_ty (r := false) (by decide +kernel), _, rfl, iteF ⟨_, rfl, _, _, _, _, _, rfl, .ty _, t1, kit_ty (r := true) (by decide +kernel), _, rfl, iteT ?_⟩⟩
      exact row xs _ _ rfl (by unfold toL; rfl) (.inl hp) ha
  | tuple xs =>
    have t1 : TyX K H v (.type "tuple") := tyD h1
    cases h1 with
    | tup hp ha =>
      refine ⟨_, rfl, _, _, _, _, _, rfl, .ty _, t1, kit_ty (r := true) (by decide +kernel), _, rfl, iteT (iteT ?_)⟩
      exact row xs _ _ rfl (by unfold toL; rfl) (.inr hp) ha
  | none =>
    cases h1
    exact ⟨_, rfl, _, _, _, _, _, rfl, .ty _, .base .non, kit_ty (r := false) (by decide +kernel), _, rfl, iteF ⟨_, rfl, _, _, _, _, _, rfl, .ty _, .base .non, kit_ty (r := false) (by decide +kernel), _, rfl, iteF ⟨_, rfl, k _ H (Same.refl H) (by unfold toL; exact .non)⟩⟩⟩
  | str x =>
    cases h1
    exact ⟨_, rfl, _, _, _, _, _, rfl, .ty _, .base (.str x), kit_ty (r := false) (by decide +kernel), _, rfl, iteF ⟨_, rfl, _, _, _, _, _, rfl, .ty _, .base (.str x), kit_ty (r := false) (by decide +kernel), _, rfl, iteF ⟨_, rfl, k _ H (Same.refl H) (by unfold toL; exact .str x)⟩⟩⟩
  | bool b =>
    cases h1
    exact ⟨_, rfl, _, _, _, _, _, rfl, .ty _, .base (.bl b), kit_ty (r := false) (by decide +kernel), _, rfl, iteF ⟨_, rfl, _, _, _, _, _, rfl, .ty _, .base (.bl b), kit_ty (r := false) (by decide +kernel), _, rfl, iteF ⟨_, rfl, k _ H (Same.refl H) (by unfold toL; exact .bl b)⟩⟩⟩
  | int i =>
    cases h1
    exact ⟨_, rfl, _, _, _, _, _, rfl, .ty _, .base (.int i), kit_ty (r := false) (by decide +kernel), _, rfl, iteF ⟨_, rfl, _, _, _, _, _, rfl, .ty _, .base (.int i), kit_ty (r := false) (by decide +kernel), _, rfl, iteF ⟨_, rfl, k _ H (Same.refl H) (by unfold toL; exact .int i)⟩⟩⟩
theorem lists_all {f : Addr} {fd : FuncData} (F : Fun K "_law_lists" "_law_lists" sLists f fd) (T : Bs mg) (bG : Binds K fd ["thing"] []) (mG : mg "_law_lists" = some (.ref f)) :
    ∀ n : Nat, FnOk P w K mg base CX0 n f fd ["thing"] (spLists K n)
  | 0 => lists_none
  | n + 1 => ok_lists F T (lists_all F T bG mG n) bG mG
end
end Q
set_option Elab.async false
set_option linter.all false
set_option maxRecDepth 100000
set_option maxHeartbeats 4000000
/-! ### what good data come to -/
namespace Q
open PySem L2 XD
theorem prd_mem {α β : Type} {R : α → β → Prop} : ∀ {xs : List α} {ys : List β}, Paired R xs ys → ∀ x ∈ xs, ∃ y ∈ ys, R x y
  | _, _, .nil, x, h => absurd h List.not_mem_nil
  | _, _, .cons a b, x, h => by
    rcases List.mem_cons.mp h with rfl | h
    · exact ⟨_, List.mem_cons_self, a⟩
    · obtain ⟨y, h1, h2⟩ := prd_mem b x h
      exact ⟨y, List.mem_cons_of_mem _ h1, h2⟩
theorem prd_map {α β γ : Type} {R : α → β → Prop} {f : α → γ} {g : β → γ} (h : ∀ x y, R x y → f x = g y) : ∀ {xs : List α} {ys : List β}, Paired R xs ys → xs.map f = ys.map g
  | _, _, .nil => rfl
  | _, _, .cons a b => by rw [List.map_cons, List.map_cons, h _ _ a, prd_map h b]
/-- data that tell the table -/
def FTab (t : List (Str × List Str)) (d : PyData) : Prop := ∃ fs, rowOf d = some fs ∧ Paired (fun f (e : Str × List Str) => ∃ b, pairOf f = some (.str e.1, b) ∧ rowOf b = some (e.2.map PyData.str)) fs t
def FRule (r : List (Str × Str)) (d : PyData) : Prop := ∃ gs, rowOf d = some gs ∧ Paired (fun g (e : Str × Str) => pairOf g = some (.str e.1, .str e.2)) gs r
def FRules (rs : List (List (Str × Str))) (d : PyData) : Prop := ∃ fs, rowOf d = some fs ∧ Paired (fun f r => FRule r f) fs rs
structure TabOk (t : List (Str × List Str)) : Prop where
  lo : 1 ≤ t.length
  hi : t.length ≤ 6
  nm : Wds (t.map (·.1))
  vs : ∀ e ∈ t, Wds e.2 ∧ 1 ≤ e.2.length ∧ e.2.length ≤ 5
theorem texts_str (ws : List Str) : textsOf (ws.map PyData.str) = ws := by
  unfold textsOf
  rw [List.map_map]
  exact List.map_id _
theorem all_strs {ws : List Str} (h : ∀ x ∈ ws, word x = true) : (ws.map PyData.str).all isWord = true :=
  List.all_eq_true.mpr fun d hd => by
    obtain ⟨x, hx, rfl⟩ := List.mem_map.mp hd
    exact h x hx
theorem unlike_strs {ws : List Str} (h : Wds ws) : unlike (ws.map PyData.str) = true := by
  unfold unlike
  rw [all_strs h.2, texts_str, decide_eq_true h.1]
  rfl
theorem values_strs {b : PyData} {ws : List Str} (e : rowOf b = some (ws.map PyData.str)) (h : Wds ws) (h1 : 1 ≤ ws.length) (h5 : ws.length ≤ 5) : areValues b = true := by
  unfold areValues
  rw [e]
  show (decide (1 ≤ (ws.map PyData.str).length) && (decide ((ws.map PyData.str).length ≤ 5) && unlike (ws.map PyData.str))) = true
  rw [List.length_map, decide_eq_true h1, decide_eq_true h5, unlike_strs h]
  rfl
theorem short_word {x : Str} (h : word x = true) : Short (.str x) := by
  show x.length ≤ 1000000
  have := word_len h
  omega
theorem tab_fields {t : List (Str × List Str)} {d : PyData} (h : FTab t d) (T : TabOk t) : areFields d = true ∧ tabOf d = t ∧ FShort d := by
  obtain ⟨fs, e, hp⟩ := h
  have hl : fs.length = t.length := prd_len hp
  have e1 : fs.map firstOf = (t.map (·.1)).map PyData.str := by
    rw [List.map_map]
    refine prd_map (fun f e h => ?_) hp
    obtain ⟨b, h1, _⟩ := h
    unfold firstOf
    rw [h1]
    rfl
  have e2 : fs.map entryOf = t := by
    conv => rhs; rw [← List.map_id t]
    refine prd_map (fun f e h => ?_) hp
    obtain ⟨b, h1, h2⟩ := h
    unfold entryOf
    rw [h1]
    show (strOf (.str e.1), match rowOf b with | some ws => textsOf ws | none => []) = e
    rw [h2]
    show (e.1, textsOf (e.2.map PyData.str)) = e
    rw [texts_str]
  have e3 : fs.all fieldOk = true := List.all_eq_true.mpr fun f hf => by
    obtain ⟨e, he, b, h1, h2⟩ := prd_mem hp f hf
    obtain ⟨h3, h4, h5⟩ := T.vs e he
    unfold fieldOk
    rw [h1]
    exact values_strs h2 h3 h4 h5
  refine ⟨?_, ?_, fun fs' ef f hf a b ep => ?_⟩
  · unfold areFields
    rw [e]
    show (decide (1 ≤ fs.length) && (decide (fs.length ≤ 6) && (fs.all fieldOk && unlike (fs.map firstOf)))) = true
    have l1 := T.lo
    have l6 := T.hi
    rw [e1, e3, unlike_strs T.nm, decide_eq_true (by omega : 1 ≤ fs.length), decide_eq_true (by omega : fs.length ≤ 6)]
    rfl
  · unfold tabOf
    rw [e]
    exact e2
  · rw [e] at ef
    cases ef
    obtain ⟨e, he, b', h1, h2⟩ := prd_mem hp f hf
    rw [ep] at h1
    cases h1
    refine ⟨short_word (T.nm.2 _ (List.mem_map.mpr ⟨e, he, rfl⟩)), fun ws ew w hw => ?_⟩
    rw [h2] at ew
    cases ew
    obtain ⟨x, hx, rfl⟩ := List.mem_map.mp hw
    exact short_word ((T.vs e he).1.2 x hx)
theorem look_of {n : Str} {ws : List Str} : ∀ {t : List (Str × List Str)}, (t.map (·.1)).Nodup → (n, ws) ∈ t → look n t = some ws
  | (m, us) :: t, hn, h => by
    rw [List.map_cons, List.nodup_cons] at hn
    unfold look
    by_cases e : m = n
    · rw [if_pos e]
      subst e
      rcases List.mem_cons.mp h with h | h
      · cases h
        rfl
      · exact absurd (List.mem_map.mpr ⟨_, h, rfl⟩) hn.1
    · rw [if_neg e]
      rcases List.mem_cons.mp h with h | h
      · cases h
        exact absurd rfl e
      · exact look_of hn.2 h
theorem stands_of {ws : List Str} {x : Str} (h : x ∈ ws) : stands ws (.str x) = true := by
  unfold stands
  refine List.any_eq_true.mpr ⟨.str x, List.mem_map.mpr ⟨x, h, rfl⟩, ?_⟩
  rw [PyData.eqv]
  simp
theorem go_of {t : List (Str × List Str)} (hn : (t.map (·.1)).Nodup) : ∀ {gs : List PyData} {r : List (Str × Str)} {seen : List Str}, Paired (fun g (e : Str × Str) => pairOf g = some (.str e.1, .str e.2)) gs r →
    (r.map (·.1)).Nodup → (∀ e ∈ r, e.1 ∉ seen) → (∀ e ∈ r, ∃ ws, (e.1, ws) ∈ t ∧ e.2 ∈ ws) → goFacts t seen gs = true
  | _, _, _, .nil, _, _, _ => rfl
  | _, e :: r, seen, .cons a b, h1, h2, h3 => by
    obtain ⟨ws, h4, h5⟩ := h3 e List.mem_cons_self
    rw [List.map_cons, List.nodup_cons] at h1
    have hc : seen.contains e.1 = false := by
      cases q : seen.contains e.1 with
      | false => rfl
      | true => exact absurd (by simpa using q) (h2 e List.mem_cons_self)
    rw [go_old a (look_of hn h4), hc, stands_of h5]
    refine go_of hn b h1.2 (fun f hf z => ?_) (fun f hf => h3 f (List.mem_cons_of_mem _ hf))
    rcases List.mem_cons.mp z with z | z
    · exact h1.1 (List.mem_map.mpr ⟨f, hf, z⟩)
    · exact h2 f (List.mem_cons_of_mem _ hf) z
theorem str_shaped {x : Str} (h : PyData.strOk x = true) : SeqAt.shaped (.str x) = true := by
  unfold SeqAt.shaped
  rw [Bool.and_eq_true]
  refine ⟨?_, ?_⟩
  · simpa [PyData.canLay0] using h
  · simp [PyData.depth]
theorem ban_facts {t : List (Str × List Str)} {r : List (Str × Str)} {m : Nat} {d : PyData} (hn : (t.map (·.1)).Nodup) (B : Ban t m r) (h : FRule r d) : areFacts t d = true ∧ ∃ gs, rowOf d = some gs ∧ gs.length = r.length ∧ factsOf d = r := by
  obtain ⟨gs, e, hp⟩ := h
  have hl : gs.length = r.length := prd_len hp
  have hle : r.length ≤ t.length := by
    have h1 : r.map (·.1) ⊆ t.map (·.1) := fun x hx => by
      obtain ⟨e, he, rfl⟩ := List.mem_map.mp hx
      obtain ⟨ws, h2, _⟩ := B.of e he
      exact List.mem_map.mpr ⟨_, h2, rfl⟩
    have := List.Nodup.length_le_of_subset B.nd h1
    rwa [List.length_map, List.length_map] at this
  refine ⟨?_, gs, e, hl, ?_⟩
  · unfold areFacts
    rw [e]
    show (decide (gs.length ≤ t.length) && goFacts t [] gs) = true
    rw [decide_eq_true (by omega : gs.length ≤ t.length), go_of hn hp B.nd (fun _ _ z => by cases z) B.of]
    rfl
  · unfold factsOf
    rw [e]
    show gs.map factOf = r
    conv => rhs; rw [← List.map_id r]
    refine prd_map (fun g e h => ?_) hp
    unfold factOf
    rw [h]
    rfl
theorem ban_ok {t : List (Str × List Str)} {r : List (Str × Str)} {d : PyData} (hn : (t.map (·.1)).Nodup) (B : Ban t 4 r) (h : FRule r d) : ruleOk t d = true := by
  obtain ⟨h1, gs, e, hl, _⟩ := ban_facts hn B h
  rw [ruleOk_yes e h1, decide_eq_true (by have := B.lo; omega : 1 ≤ gs.length), decide_eq_true (by have := B.hi; omega : gs.length ≤ 4)]
  rfl
theorem rule_fok {t : List (Str × List Str)} {m : Nat} {r : List (Str × Str)} {d : PyData} (T : TabOk t) (B : Ban t m r) (h : FRule r d) : FOk d := by
  obtain ⟨gs, e, hp⟩ := h
  intro fs ef f hf a b ep
  rw [e] at ef
  cases ef
  obtain ⟨e, he, h1⟩ := prd_mem hp f hf
  rw [ep] at h1
  cases h1
  obtain ⟨ws, h2, h3⟩ := B.of e he
  exact str_shaped (word_ok ((T.vs _ h2).1.2 _ h3))
theorem rules_rules {t : List (Str × List Str)} {rs : List (List (Str × Str))} {d : PyData} (h : FRules rs d) (T : TabOk t) (hb : ∀ r ∈ rs, Ban t 4 r) (hl : rs.length ≤ 20) : areRules t d = true ∧ rulesOf d = rs ∧ ROk d := by
  obtain ⟨fs, e, hp⟩ := h
  have hlen : fs.length = rs.length := prd_len hp
  refine ⟨?_, ?_, fun fs' ef f hf => ?_⟩
  · unfold areRules
    rw [e]
    show (decide (fs.length ≤ 20) && fs.all (ruleOk t)) = true
    rw [decide_eq_true (by omega : fs.length ≤ 20), Bool.true_and]
    refine List.all_eq_true.mpr fun f hf => ?_
    obtain ⟨r, hr, h1⟩ := prd_mem hp f hf
    exact ban_ok T.nm.1 (hb r hr) h1
  · unfold rulesOf
    rw [e]
    show fs.map factsOf = rs
    have : ∀ {fs : List PyData} {rs : List (List (Str × Str))}, Paired (fun f r => FRule r f) fs rs → (∀ r ∈ rs, Ban t 4 r) → fs.map factsOf = rs := by
      intro fs rs hp
      induction hp with
      | nil => intro _; rfl
      | cons a b ih =>
        intro hb
        rw [List.map_cons, ih (fun r hr => hb r (List.mem_cons_of_mem _ hr))]
        obtain ⟨_, _, _, _, h3⟩ := ban_facts T.nm.1 (hb _ List.mem_cons_self) a
        rw [h3]
    exact this hp hb
  · rw [e] at ef
    cases ef
    obtain ⟨r, hr, h1⟩ := prd_mem hp f hf
    exact rule_fok T (hb r hr) h1
theorem made_good {t : List (Str × List Str)} {rs : List (List (Str × Str))} {dF dR : PyData} (hF : FTab t dF) (hR : FRules rs dR) (T : TabOk t) (hb : ∀ r ∈ rs, Ban t 4 r) (hl : rs.length ≤ 20) :
    made dF dR = if 1000 < waysFrom 1 t then .many else .form t (once (rs.map (bySeq t))) := by
  obtain ⟨h1, h2, _⟩ := tab_fields hF T
  obtain ⟨h3, h4, _⟩ := rules_rules hR T hb hl
  unfold made
  rw [h2, if_pos h1, if_pos h3, h4]
  have : rs.map (sorted t) = rs.map (bySeq t) := List.map_congr_left fun r hr => sorted_bySeq (hb r hr).nd t
  rw [this]
/-- what a wrong table, a wrong rule comes to -/
theorem made_bad0 {dF dR : PyData} (h : areFields dF = false) : made dF dR = .bad 0 := by
  unfold made
  rw [if_neg (by rw [h]; exact fun z => by cases z)]
theorem made_bad1 {t : List (Str × List Str)} {dF dR : PyData} (hF : FTab t dF) (T : TabOk t) (h : areRules t dR = false) : made dF dR = .bad 1 := by
  obtain ⟨h1, h2, _⟩ := tab_fields hF T
  unfold made
  rw [if_pos h1, h2, if_neg (by rw [h]; exact fun z => by cases z)]
end Q
set_option Elab.async false
set_option linter.all false
set_option maxRecDepth 100000
set_option maxHeartbeats 4000000
/-! ### a form is made of good data -/
namespace Q
open PySem L2 XD
theorem passF {P : Program} {w : World} {X : Cx} : Passes (L2N.CX P w) X E0 := fun _ _ _ _ _ _ _ x => by
  obtain ⟨_, _, _, _, _, _, _, _, _, _, _, _, z⟩ := x
  exact z.elim
def kwG {α : Type} : List α → List α → List α
  | [x], [r, t] => [x, t, r]
  | _, _ => []
theorem kbn_init {K : PySem.W.Frag} {f : Addr} {fd : FuncData} (F : Fun K "__init__" "Form.__init__" sInit f fd) : KBn K fd ["self", "fields", "rules"] 1 ["rules", "fields"] kwG kwG := by
  obtain ⟨oc, od, kV, doc, pm, an, cdv, ct, osl, rfl, lk, hcd⟩ := F.ex
  refine ⟨fun s us ws X l1 l2 => ?_, fun {vs us zs ws} r1 r2 => ?_⟩
  · match us, ws, l1, l2 with
    | [x], [r, t], _, _ => exact BindsTo.of_eq rfl
  · cases r1 with
    | nil => exact .nil
    | cons a b =>
      cases b with
      | cons _ _ => exact .nil
      | nil =>
        cases r2 with
        | nil => exact .nil
        | cons c d =>
          cases d with
          | nil => exact .nil
          | cons e f =>
            cases f with
            | nil => exact .cons a (.cons e (.cons c .nil))
            | cons _ _ => exact .nil
/-- what a table and bans are handed in as -/
structure Hand (K : PySem.W.Frag) (H : Hp) (t : List (Str × List Str)) (rs : List (List (Str × Str))) (vF vR : V) (dF dR : PyData) : Prop where
  dpF : Dp K H vF dF
  dpR : Dp K H vR dR
  ft : FTab t dF
  fr : FRules rs dR
  rz : RZ K H vR dR
structure Good (t : List (Str × List Str)) (rs : List (List (Str × Str))) : Prop where
  tb : TabOk t
  bs : ∀ r ∈ rs, Ban t 4 r
  ln : rs.length ≤ 20
  ws : waysFrom 1 t ≤ 1000
theorem Hand.same {K : PySem.W.Frag} {H H' : Hp} {t : List (Str × List Str)} {rs : List (List (Str × Str))} {vF vR : V} {dF dR : PyData} (s : Same H H') (h : Hand K H t rs vF vR dF dR) : Hand K H' t rs vF vR dF dR :=
  ⟨dp_same s h.dpF, dp_same s h.dpR, h.ft, h.fr, h.rz.same s⟩
theorem init_good {K : PySem.W.Frag} {H : Hp} {C CV CM : Addr} {t : List (Str × List Str)} {rs : List (List (Str × Str))} {vF vR : V} {dF dR : PyData} {Q0 : VK} {E : XK} (G : Good t rs) (h : Hand K H t rs vF vR dF dR)
    {x dx : Addr} (hx : H x = none) (hdx : H dx = none) (hne : dx ≠ x) (k : ∀ pf pr H', Same H H' → FormAt C H' x pf pr → TabAt K H' pf t → RulesAt K H' pr (once (rs.map (bySeq t))) → Q0 .non H') :
    spInit K C CV CM [.ref x, vF, vR] (L2.upd (L2.upd H dx (.own x)) x (.ins C dx [])) Q0 E := by
  have s0 : Same H (L2.upd (L2.upd H dx (.own x)) x (.ins C dx [])) := fun b o e => by
    rw [upd_ne (ne_of_none e hx), upd_ne (ne_of_none e hdx)]
    exact e
  obtain ⟨h1, h2, h3⟩ := tab_fields h.ft G.tb
  obtain ⟨h4, h5, h6⟩ := rules_rules h.fr G.tb G.bs G.ln
  have em : made dF dR = .form t (once (rs.map (bySeq t))) := by
    rw [made_good h.ft h.fr G.tb G.bs G.ln, if_neg (by have := G.ws; omega)]
  refine ⟨x, dx, vF, vR, dF, dR, rfl, upd_same, dp_same s0 h.dpF, dp_same s0 h.dpR, h3, h6, fun _ _ _ => h.rz.same s0, ?_⟩
  rw [em]
  intro pf pr H' hk f1 f2 f3
  exact k pf pr H' (fun b o e => hk b o (ne_of_none e hx) (s0 _ _ e)) f1 f2 f3
/-- as tuples in a list or a tuple -/
structure TabIn (K : PySem.W.Frag) (H : Hp) (p : Addr) (ps : List Addr) (kvs : List (Key × V)) (t : List (Str × List Str)) : Prop where
  at_ : SqL K H p (ps.map V.ref) ∨ SqT K H p (ps.map V.ref)
  rw_ : TabR K H ps kvs t
structure BansIn (K : PySem.W.Frag) (H : Hp) (q : Addr) (qs : List Addr) (rs : List (List (Str × Str))) : Prop where
  at_ : SqL K H q (qs.map V.ref) ∨ SqT K H q (qs.map V.ref)
  rw_ : Paired (RuleAt K H) qs rs
theorem TabIn.same {K : PySem.W.Frag} {H H' : Hp} {p : Addr} {ps : List Addr} {kvs : List (Key × V)} {t : List (Str × List Str)} (s : Same H H') (h : TabIn K H p ps kvs t) : TabIn K H' p ps kvs t := ⟨sq_same s h.at_, h.rw_.same s⟩
theorem BansIn.same {K : PySem.W.Frag} {H H' : Hp} {q : Addr} {qs : List Addr} {rs : List (List (Str × Str))} (s : Same H H') (h : BansIn K H q qs rs) : BansIn K H' q qs rs := ⟨sq_same s h.at_, rules_same s h.rw_⟩
theorem tab_pair : ∀ t : List (Str × List Str), Paired (fun f (e : Str × List Str) => ∃ b, pairOf f = some (.str e.1, b) ∧ rowOf b = some (e.2.map PyData.str)) (t.map entryD) t
  | [] => .nil
  | e :: t => .cons ⟨_, rfl, rfl⟩ (tab_pair t)
theorem rule_pair : ∀ r : List (Str × Str), Paired (fun g (e : Str × Str) => pairOf g = some (.str e.1, .str e.2)) (r.map fun e => .tuple [.str e.1, .str e.2]) r
  | [] => .nil
  | e :: r => .cons rfl (rule_pair r)
theorem rules_pair : ∀ rs : List (List (Str × Str)), Paired (fun f r => FRule r f) (rs.map ruleD) rs
  | [] => .nil
  | r :: rs => .cons ⟨_, rfl, rule_pair r⟩ (rules_pair rs)
/-- what the table, the bans are as data -/
def isTab (t : List (Str × List Str)) (d : PyData) : Prop := d = .list (t.map entryD) ∨ d = .tuple (t.map entryD)
def isBans (rs : List (List (Str × Str))) (d : PyData) : Prop := d = .list (rs.map ruleD) ∨ d = .tuple (rs.map ruleD)
theorem TabIn.dp {K : PySem.W.Frag} {H : Hp} {p : Addr} {ps : List Addr} {kvs : List (Key × V)} {t : List (Str × List Str)} (h : TabIn K H p ps kvs t) : ∃ d, isTab t d ∧ Dp K H (.ref p) d := by
  rcases h.at_ with z | z
  · exact ⟨_, .inl rfl, .lst z (tabR_dps h.rw_)⟩
  · exact ⟨_, .inr rfl, .tup z (tabR_dps h.rw_)⟩
theorem BansIn.dp {K : PySem.W.Frag} {H : Hp} {q : Addr} {qs : List Addr} {rs : List (List (Str × Str))} (h : BansIn K H q qs rs) : ∃ d, isBans rs d ∧ Dp K H (.ref q) d := by
  rcases h.at_ with z | z
  · exact ⟨_, .inl rfl, .lst z (rules_dps h.rw_)⟩
  · exact ⟨_, .inr rfl, .tup z (rules_dps h.rw_)⟩
theorem isTab.ft {t : List (Str × List Str)} {d : PyData} (h : isTab t d) : FTab t d := by
  rcases h with rfl | rfl
  · exact ⟨_, rfl, tab_pair t⟩
  · exact ⟨_, rfl, tab_pair t⟩
theorem isBans.fr {rs : List (List (Str × Str))} {d : PyData} (h : isBans rs d) : FRules rs d := by
  rcases h with rfl | rfl
  · exact ⟨_, rfl, rules_pair rs⟩
  · exact ⟨_, rfl, rules_pair rs⟩
theorem isBans.row {rs : List (List (Str × Str))} {d : PyData} (h : isBans rs d) : rowOf d = some (rs.map ruleD) := by
  rcases h with rfl | rfl <;> rfl
theorem isTab.row {t : List (Str × List Str)} {d : PyData} (h : isTab t d) : rowOf d = some (t.map entryD) := by
  rcases h with rfl | rfl <;> rfl
theorem BansIn.rz {K : PySem.W.Frag} {H : Hp} {q : Addr} {qs : List Addr} {rs : List (List (Str × Str))} {d : PyData} (h : BansIn K H q qs rs) (hd : isBans rs d) : RZ K H (.ref q) d := by
  refine ⟨q, _, _, rfl, hd.row, h.at_, by rw [List.length_map, List.length_map, prd_len h.rw_], fun i y rd h1 h2 => ?_⟩
  rw [List.getElem?_map] at h1 h2
  obtain ⟨z, hz, rfl⟩ := Option.map_eq_some_iff.mp h1
  obtain ⟨r, hr, rfl⟩ := Option.map_eq_some_iff.mp h2
  obtain ⟨r', hr', ms, m1, m2⟩ := prd_at h.rw_ hz
  rw [hr] at hr'
  cases hr'
  exact ⟨z, _, _, rfl, .inr m1, rfl, prd_dps m2⟩
theorem hand_of {K : PySem.W.Frag} {H : Hp} {p q : Addr} {ps qs : List Addr} {kvs : List (Key × V)} {t : List (Str × List Str)} {rs : List (List (Str × Str))} (hp : TabIn K H p ps kvs t) (hq : BansIn K H q qs rs) : ∃ dF dR, isTab t dF ∧ isBans rs dR ∧ Hand K H t rs (.ref p) (.ref q) dF dR := by
  obtain ⟨dF, h1, h2⟩ := hp.dp
  obtain ⟨dR, h3, h4⟩ := hq.dp
  exact ⟨dF, dR, h1, h3, h2, h4, h1.ft, h3.fr, hq.rz h3⟩
/-! in lists -/
def entryL (e : Str × List Str) : PyData := .list [.str e.1, .list (e.2.map PyData.str)]
def ruleL (r : List (Str × Str)) : PyData := .list (r.map fun e => .list [.str e.1, .str e.2])
theorem toLs_strs : ∀ ws : List Str, toLs (ws.map PyData.str) = ws.map PyData.str
  | [] => by rw [List.map_nil]; unfold toLs; rfl
  | x :: ws => by
    rw [List.map_cons]
    unfold toLs
    rw [toLs_strs ws]
    unfold toL
    rfl
theorem toL_entry (e : Str × List Str) : toL (entryD e) = entryL e := by
  unfold entryD entryL
  simp only [toL, toLs, toLs_strs]
theorem toL_pair (e : Str × Str) : toL (.tuple [.str e.1, .str e.2]) = .list [.str e.1, .str e.2] := by
  simp only [toL, toLs]
theorem toL_rule (r : List (Str × Str)) : toL (ruleD r) = ruleL r := by
  unfold ruleD ruleL
  simp only [toL, toLs_map, List.map_map]
  congr 1
theorem toL_tab {t : List (Str × List Str)} {d : PyData} (h : isTab t d) : toL d = .list (t.map entryL) := by
  rcases h with rfl | rfl <;> simp only [toL, toLs_map, List.map_map] <;> congr 1 <;> exact List.map_congr_left fun e _ => toL_entry e
theorem toL_bans {rs : List (List (Str × Str))} {d : PyData} (h : isBans rs d) : toL d = .list (rs.map ruleL) := by
  rcases h with rfl | rfl <;> simp only [toL, toLs_map, List.map_map] <;> congr 1 <;> exact List.map_congr_left fun e _ => toL_rule e
theorem tab_pairL : ∀ t : List (Str × List Str), Paired (fun f (e : Str × List Str) => ∃ b, pairOf f = some (.str e.1, b) ∧ rowOf b = some (e.2.map PyData.str)) (t.map entryL) t
  | [] => .nil
  | e :: t => .cons ⟨_, rfl, rfl⟩ (tab_pairL t)
theorem rule_pairL : ∀ r : List (Str × Str), Paired (fun g (e : Str × Str) => pairOf g = some (.str e.1, .str e.2)) (r.map fun e => .list [.str e.1, .str e.2]) r
  | [] => .nil
  | e :: r => .cons rfl (rule_pairL r)
theorem rules_pairL : ∀ rs : List (List (Str × Str)), Paired (fun f r => FRule r f) (rs.map ruleL) rs
  | [] => .nil
  | r :: rs => .cons ⟨_, rfl, rule_pairL r⟩ (rules_pairL rs)
theorem handL_of {K : PySem.W.Frag} {H H1 H2 : Hp} {v u : V} {t : List (Str × List Str)} {rs : List (List (Str × Str))} (h1 : LsF H1 H v (.list (t.map entryL))) (h2 : LsF H2 H u (.list (rs.map ruleL))) : Hand K H t rs v u (.list (t.map entryL)) (.list (rs.map ruleL)) := by
  refine ⟨h1.dp, h2.dp, ⟨_, rfl, tab_pairL t⟩, ⟨_, rfl, rules_pairL rs⟩, ?_⟩
  obtain ⟨q, ys, rfl, _, hq, hl, hi⟩ := h2.row
  refine ⟨q, ys, _, rfl, rfl, .inl (SqL.of hq), hl, fun i y rd e1 e2 => ?_⟩
  have h3 := hi i y rd e1 e2
  rw [List.getElem?_map] at e2
  obtain ⟨r, hr, rfl⟩ := Option.map_eq_some_iff.mp e2
  obtain ⟨q2, zs, rfl, _, hq2, hl2, hi2⟩ := LsF.row h3
  exact ⟨q2, zs, _, rfl, .inl (SqL.of hq2), rfl, dps_of hl2 fun j y x f1 f2 => (hi2 j y x f1 f2).dp⟩
end Q
set_option Elab.async false
set_option linter.all false
set_option maxRecDepth 100000
set_option maxHeartbeats 4000000
/-! ### _law_changed_right -/
namespace Q
open PySem L2 XD
/-- all but lists stays -/
def NL (H H' : Hp) : Prop := ∀ b o, (∀ l, o ≠ .lst l) → H b = some o → H' b = some o
theorem NL.refl {H : Hp} : NL H H := fun _ _ _ e => e
theorem nl_same {H H' H'' : Hp} (h : NL H H') (s : Same H' H'') : NL H H'' := fun b o n e => s b o (h b o n e)
theorem nl_put {H H' : Hp} {p : Addr} {l : List V} {o : HO} (h : NL H H') (hp : H' p = some (.lst l)) : NL H (upd H' p o) := fun b u n e => by
  have e2 := h b u n e
  have nb : b ≠ p := fun z => by
    rw [z, hp] at e2
    exact n _ (Option.some.inj e2).symm
  rw [upd_ne nb]
  exact e2
theorem same_put {H H' : Hp} {p : Addr} {o : HO} (h : Same H H') (hp : H p = none) : Same H (upd H' p o) := fun b u e => by
  rw [upd_ne (ne_of_none e hp)]
  exact h b u e
theorem seqT_nl {K : PySem.W.Frag} {H H' : Hp} {a : Addr} {xs : List V} (s : NL H H') (h : SqT K H a xs) : SqT K H' a xs := by
  rcases h with (h | ⟨o, h⟩) | h
  · exact .inl (.inl (s _ _ (by intro l z; cases z) h))
  · exact .inl (.inr ⟨o, s _ _ (by intro l z; cases z) h⟩)
  · exact .inr h
theorem sqZ_nl {H H' : Hp} {a : Addr} {xs : List V} (s : NL H H') (h : SqZ H a xs) : SqZ H' a xs := by
  obtain ⟨o, h, d⟩ := h
  exact ⟨o, s _ _ (by intro l z; cases z) h, d⟩
theorem tabR_nl {K : PySem.W.Frag} {H H' : Hp} (s : NL H H') : ∀ {ps : List Addr} {kvs : List (Key × V)} {t : List (Str × List Str)}, TabR K H ps kvs t → TabR K H' ps kvs t
  | _, _, _, .nil => .nil
  | _, _, _, .cons a b o c => .cons (seqT_nl s a) (seqT_nl s b) o (tabR_nl s c)
theorem tab_nl {K : PySem.W.Frag} {H H' : Hp} {p : Addr} {t : List (Str × List Str)} (s : NL H H') (h : TabAt K H p t) : TabAt K H' p t := by
  obtain ⟨ps, kvs, a, b, c⟩ := h
  exact ⟨ps, kvs, sqZ_nl s a, tabR_nl s b, c⟩
theorem prd_nl {K : PySem.W.Frag} {H H' : Hp} (s : NL H H') : ∀ {qs : List Addr} {r : List (Str × Str)}, Paired (fun q (e : Str × Str) => SqT K H q [.str e.1, .str e.2]) qs r → Paired (fun q (e : Str × Str) => SqT K H' q [.str e.1, .str e.2]) qs r
  | _, _, .nil => .nil
  | _, _, .cons a b => .cons (seqT_nl s a) (prd_nl s b)
theorem rules_nl {K : PySem.W.Frag} {H H' : Hp} (s : NL H H') : ∀ {ps : List Addr} {rs : List (List (Str × Str))}, Paired (RuleAt K H) ps rs → Paired (RuleAt K H') ps rs
  | _, _, .nil => .nil
  | _, _, .cons a b => by
    obtain ⟨qs, h1, h2⟩ := a
    exact .cons ⟨qs, sqZ_nl s h1, prd_nl s h2⟩ (rules_nl s b)
theorem rulesAt_nl {K : PySem.W.Frag} {H H' : Hp} {p : Addr} {rs : List (List (Str × Str))} (s : NL H H') (h : RulesAt K H p rs) : RulesAt K H' p rs := by
  obtain ⟨ps, a, b⟩ := h
  exact ⟨ps, sqZ_nl s a, rules_nl s b⟩
theorem form_nl {C x pf pr : Addr} {H H' : Hp} (s : NL H H') (h : FormAt C H x pf pr) : FormAt C H' x pf pr := by
  obtain ⟨dx, h⟩ := h
  exact ⟨dx, s _ _ (by intro l z; cases z) h⟩
theorem LsF.fun {H0 H : Hp} {v : V} {d : PyData} (h : LsF H0 H v d) : ∀ {d' : PyData}, LsF H0 H v d' → d = d' := by
  induction h with
  | non => intro d' h; cases h; rfl
  | bl b => intro d' h; cases h; rfl
  | int i => intro d' h; cases h; rfl
  | str x => intro d' h; cases h; rfl
  | nil a b =>
    intro d' h
    cases h with
    | nil a' b' => rfl
    | cons a' b' c' e' =>
      rw [b] at b'
      cases b'
      rw [List.eq_nil_of_length_eq_zero c'.symm]
  | cons a b c e ih =>
    intro d' h
    cases h with
    | nil a' b' =>
      rw [b] at b'
      cases b'
      rw [List.eq_nil_of_length_eq_zero c.symm]
    | cons a' b' c' e' =>
      rw [b] at b'
      cases b'
      rename_i ys xs xs'
      congr 1
      refine List.ext_getElem? fun i => ?_
      by_cases hi : i < ys.length
      · have e1 : ys[i]? = some ys[i] := List.getElem?_eq_getElem hi
        have e2 : xs[i]? = some xs[i] := List.getElem?_eq_getElem (by omega)
        have e3 : xs'[i]? = some xs'[i] := List.getElem?_eq_getElem (by omega)
        rw [e2, e3, ih i _ _ e1 e2 (e' i _ _ e1 e3)]
      · rw [List.getElem?_eq_none (by omega), List.getElem?_eq_none (by omega)]
def spChanged (K : PySem.W.Frag) : Sp := fun vs H Q _ => ∃ (p q : Addr) (ps : List Addr) (kvs : List (Key × V)) (t : List (Str × List Str)) (qs : List Addr) (rs : List (List (Str × Str))), vs = [.ref p, .ref q] ∧ TabIn K H p ps kvs t ∧ BansIn K H q qs rs ∧ Good t rs ∧ ∀ H', Same H H' → Q (.bl true) H'
theorem ds_tab' {t : List (Str × List Str)} {d : PyData} (hd : isTab t d) (T : TabOk t) : Ds 5 d := fun xs e => by
  rw [hd.row] at e
  exact ds_tab (by have := T.hi; omega) (fun e he => by have := (T.vs e he).2.2; omega) xs e
theorem ds_bans' {rs : List (List (Str × Str))} {d : PyData} (hd : isBans rs d) (h : rs.length ≤ 1000) (h2 : ∀ r ∈ rs, r.length ≤ 1000) : Ds 5 d := fun xs e => by
  rw [hd.row] at e
  exact ds_rules h h2 xs e
theorem good_right {t : List (Str × List Str)} {rs : List (List (Str × Str))} (G : Good t rs) : t.length ≤ 6 ∧ (∀ e ∈ t, e.2.length ≤ 5) ∧ TStr t ∧ rs.length ≤ 100 ∧ ∀ r ∈ rs, r.length ≤ 10 ∧ RStr r := by
  refine ⟨G.tb.hi, fun e he => (G.tb.vs e he).2.2, fun e he => ⟨word_ok (G.tb.nm.2 _ (List.mem_map.mpr ⟨e, he, rfl⟩)), fun x hx => word_ok ((G.tb.vs e he).1.2 x hx)⟩, by have := G.ln; omega, fun r hr => ⟨by have := (G.bs r hr).hi; omega, fun e he => ?_⟩⟩
  obtain ⟨ws, h1, h2⟩ := (G.bs r hr).of e he
  exact ⟨word_ok (G.tb.nm.2 _ (List.mem_map.mpr ⟨_, h1, rfl⟩)), word_ok ((G.tb.vs _ h1).1.2 _ h2)⟩
theorem bansAt {K : PySem.W.Frag} {H : Hp} : ∀ {qs : List Addr} {rs : List (List (Str × Str))}, Paired (RuleAt K H) qs rs → Paired (BanAt K H) qs rs
  | _, _, .nil => .nil
  | _, _, .cons a b => by
    obtain ⟨ms, h1, h2⟩ := a
    exact .cons ⟨ms, .inr h1.sqT, h2⟩ (bansAt b)
/-- all that _law_right asks -/
theorem right_of {K : PySem.W.Frag} {C x pf pr p q : Addr} {H : Hp} {ps qs : List Addr} {kvs : List (Key × V)} {t : List (Str × List Str)} {rs : List (List (Str × Str))} {Q : VK} {E : XK} (G : Good t rs) (hp : TabIn K H p ps kvs t) (hq : BansIn K H q qs rs)
    (h1 : FormAt C H x pf pr) (h2 : TabAt K H pf t) (h3 : RulesAt K H pr (once (rs.map (bySeq t)))) (k : ∀ H', Same H H' → Q (.bl true) H') : spRight K C [.ref x, .ref p, .ref q] H Q E := by
  obtain ⟨g1, g2, g3, g4, g5⟩ := good_right G
  exact ⟨x, pf, pr, p, q, ps, kvs, t, qs, rs, rfl, h1, h2, h3, hp.at_, hp.rw_, hq.at_, bansAt hq.rw_, g1, g2, g3, g4, g5, k⟩
section
variable {P : Program} {w : World} {K : PySem.W.Frag} {mg : Str → Option Value} {base : Heap}
theorem scChanged : FnScope ["table", "bans", "first", "second", "made", "row"] ["table", "bans"] (defScope sChanged) := ⟨rfl, rfl, rfl, by decide +kernel, rfl, by decide +kernel, by decide +kernel⟩
theorem ok_changed {f fI C CV CM : Addr} {fd fdI : FuncData} (F : Fun K "_law_changed_right" "_law_changed_right" sChanged f fd) (T : Fc K mg C) (M : Mk K C fI) (FI : Fun K "__init__" "Form.__init__" sInit fI fdI) (GI : FnOk P w K mg base (L2N.CX P w) 6 fI fdI ["self", "fields", "rules"] (spInit K C CV CM))
    (KL : Kn P w K mg base 5 "_law_lists" ["thing"] (spLists K 5)) (KR : Kn P w K mg base 6 "_law_right" ["made", "table", "bans"] (spRight K C)) : FnOk P w K mg base CX0 8 f fd ["table", "bans"] (spChanged K) := by
  obtain ⟨fL, fdL, GL, kL, bL, mL⟩ := KL.ex
  obtain ⟨fR, fdR, GR, kR, bR, mR⟩ := KR.ex
  refine F.ok scChanged (fun vs H Q E h => ?_) (fun cdv A outer s H vs Q E hr h => ?_)
  · obtain ⟨p, q, ps, kvs, t, qs, rs, rfl, _⟩ := h
    rfl
  obtain ⟨p, q, ps, kvs, t, qs, rs, rfl, hp, hq, G, k⟩ := h
  refine ⟨_, pss_cons (ps_set (i := 2) scChanged.nd rfl (.inl rfl) (pe_call GL (hr.mono (by decide)) rfl mL kL bL .nil pass0 (pa_cons (pv 0) pa_nil)))
    (pss_cons (ps_set (i := 3) scChanged.nd rfl (.inl rfl) (pe_call GL (hr.mono (by decide)) rfl mL kL bL .nil pass0 (pa_cons (pv 1) pa_nil)))
    (pss_cons (ps_set (i := 4) scChanged.nd rfl (.inl rfl) (pe_makeK0 M GI (hr.mono (by decide)) rfl T.gF (kbn_init FI) passF (pk_cons (pv 3) (pk_cons (pv 2) pk_nil))))
    (pss_cons (ps_asg pe_str (pg_sub (pe_ix ix_list (pe_ix ix_list (pv 2) pe_int (fun _ _ => rfl)) pe_int (fun _ _ => rfl)) pe_int set_list))
    (pss_cons (ps_asg pe_str (pg_sub (pe_ix ix_list (pv 2) pe_int (fun _ _ => rfl)) pe_int set_list))
    (pss_cons (ps_expr (pe_bm PySem.F.plainAttrs_list PySem.F.slot_list_append PySem.F.type_list_append mt_append (pv 2) (pa_cons (pe_lst (pa_cons pe_str (pa_cons (pe_lst (pa_cons pe_str pa_nil)) pa_nil))) pa_nil)))
    (pss_cons (ps_for PassesOwn.never rfl (pi_list (pv 3)) (pg_name (i := 5) scChanged.nd rfl (.inl rfl)) (pss_one (ps_expr (pe_bm PySem.F.plainAttrs_list PySem.F.slot_list_append PySem.F.type_list_append mt_append (pv 5) (pa_cons (pe_lst (pa_cons pe_str (pa_cons pe_str pa_nil))) pa_nil)))))
    (pss_cons (ps_expr (pe_bm PySem.F.plainAttrs_list PySem.F.slot_list_append PySem.F.type_list_append mt_append (pv 3) (pa_cons (pe_lst pa_nil) pa_nil)))
    (pss_one (ps_ret (pe_call GR (hr.mono (by decide)) rfl mR kR bR .nil pass0 (pa_cons (pv 4) (pa_cons (pv 0) (pa_cons (pv 1) pa_nil))))))))))))), ?_⟩
  obtain ⟨dF, iF, hF⟩ := hp.dp
  obtain ⟨dR, iR, hR⟩ := hq.dp
  refine ⟨_, rfl, .ref p, dF, rfl, hF, ds_tab' iF G.tb, fun v1 H1 s1 l1 => ?_⟩
  rw [toL_tab iF] at l1
  refine ⟨_, rfl, .ref q, dR, rfl, dp_same s1 hR, ds_bans' iR (by have := G.ln; omega) (fun r hr => by have := (G.bs r hr).hi; omega), fun v2 H2 s2 l2 => ?_⟩
  rw [toL_bans iR] at l2
  refine ⟨_, rfl, _, rfl, rfl, rfl, fun x dx hx hdx hne => init_good G (handL_of (l1.same s2) l2) hx hdx hne fun pf pr H3 s3 f1 f2 f3 => ⟨rfl, ?_⟩⟩
  have s03 : Same H H3 := (s1.trans s2).trans s3
  -- the first list, its first entry, that one's values
  obtain ⟨PA, yp, rfl, nP, aP, lP, iP⟩ := l1.row
  have ht1 := G.tb.lo
  obtain ⟨e0, t', et⟩ : ∃ e0 t', t = e0 :: t' := by
    cases t with
    | nil => exact absurd ht1 (by decide)
    | cons a b => exact ⟨a, b, rfl⟩
  have hlp : 0 < yp.length := by rw [lP, List.length_map]; omega
  have ey0 : yp[0]? = some yp[0] := List.getElem?_eq_getElem hlp
  have l0 := iP 0 _ _ ey0 (by rw [et] <;> rfl)
  obtain ⟨EA, ye, eE, nE, aE, lE, iE⟩ := LsF.row l0
  rw [eE] at ey0
  obtain ⟨y1, y2, rfl⟩ : ∃ y1 y2, ye = [y1, y2] := by
    match ye, lE with
    | [a, b], _ => exact ⟨a, b, rfl⟩
  have q1 := iE 0 _ _ rfl rfl
  have q2 := iE 1 _ _ rfl rfl
  cases q1
  obtain ⟨VA, yv, rfl, nV, aV, lV, iV⟩ := LsF.row q2
  have hv0 : 0 < yv.length := by
    rw [lV, List.length_map]
    have := (G.tb.vs e0 (by rw [et]; exact List.mem_cons_self)).2.1
    omega
  have ev0 : yv[0]? = some yv[0] := List.getElem?_eq_getElem hv0
  obtain ⟨w0, ws', ew⟩ : ∃ w0 ws', e0.2 = w0 :: ws' := by
    cases h : e0.2 with
    | nil =>
      rw [h] at lV
      rw [lV] at hv0
      cases hv0
    | cons a b => exact ⟨a, b, rfl⟩
  have q3 := iV 0 _ _ ev0 (by rw [ew] <;> rfl)
  generalize yv[0] = yv0 at ev0 q3
  cases q3
  have hVE : VA ≠ EA := fun z => by
    rw [z, aE] at aV
    have z2 : [V.str e0.1, V.ref VA] = yv := HO.lst.inj (Option.some.inj aV)
    rw [← z2] at lV
    cases ws' with
    | nil =>
      rw [ew] at lV
      cases lV
    | cons w1 ws'' =>
      have q5 := iV 1 (V.ref VA) (.str w1) (by rw [← z2] <;> rfl) (by rw [ew] <;> rfl)
      cases q5
  have hPE : PA ≠ EA := fun z => by
    rw [z, aE] at aP
    have z2 : [V.str e0.1, V.ref VA] = yp := HO.lst.inj (Option.some.inj aP)
    rw [← z2] at ey0
    cases ey0
  have hPV : PA ≠ VA := fun z => by
    rw [z, aV] at aP
    have z2 : yv = yp := HO.lst.inj (Option.some.inj aP)
    rw [← z2, ev0] at ey0
    cases ey0
  have s13 : Same H1 H3 := s2.trans s3
  have vP := s13 _ _ aP
  have vE := s13 _ _ aE
  have vV := s13 _ _ aV
  have n0 : NL H3 H3 := NL.refl
  -- "zz"
  have n1 := nl_put (o := .lst (yv.set 0 (.str "zz"))) n0 vV
  have k1 := same_put (o := .lst (yv.set 0 (.str "zz"))) s03 nV
  have vE1 : upd H3 VA (.lst (yv.set 0 (.str "zz"))) EA = some (.lst [.str e0.1, .ref VA]) := by
    rw [upd_ne hVE.symm]
    exact vE
  have vP1 : upd H3 VA (.lst (yv.set 0 (.str "zz"))) PA = some (.lst yp) := by
    rw [upd_ne hPV]
    exact vP
  have r1 : ∀ {z : Addr} {o : HO}, H1 z = none → H3 z = some o → upd H3 VA (.lst (yv.set 0 (.str "zz"))) z = some o := fun {z o} hz e => by
    rw [upd_ne (fun y => by rw [y, aV] at hz; cases hz)]
    exact e
  refine ⟨_, rfl, PA, _, _, _, rfl, rfl, SqL.of vP, at_of rfl ey0, EA, _, _, _, rfl, rfl, SqL.of vE, rfl, VA, yv, 0, 0, rfl, rfl, vV, ?_, ?_⟩
  · unfold ixN
    rw [if_pos (Int.le_refl 0), if_pos (by omega)]
    rfl
  generalize upd H3 VA (.lst (yv.set 0 (.str "zz"))) = H4 at n1 k1 vE1 vP1 r1
  -- ""
  have n2 := nl_put (o := .lst (([V.str e0.1, V.ref VA] : List V).set 0 (V.str ""))) n1 vE1
  have k2 := same_put (o := .lst (([V.str e0.1, V.ref VA] : List V).set 0 (V.str ""))) k1 nE
  have vP2 : upd H4 EA (.lst (([V.str e0.1, V.ref VA] : List V).set 0 (V.str ""))) PA = some (.lst yp) := by
    rw [upd_ne hPE]
    exact vP1
  have r2 : ∀ {z : Addr} {o : HO}, H1 z = none → H3 z = some o → upd H4 EA (.lst (([V.str e0.1, V.ref VA] : List V).set 0 (V.str ""))) z = some o := fun {z o} hz e => by
    rw [upd_ne (fun y => by rw [y, aE] at hz; cases hz)]
    exact r1 hz e
  refine ⟨_, rfl, PA, _, _, _, rfl, rfl, SqL.of vP1, at_of rfl ey0, EA, _, 0, 0, rfl, rfl, vE1, rfl, ?_⟩
  dsimp only
  generalize upd H4 EA (.lst (([V.str e0.1, V.ref VA] : List V).set 0 (V.str ""))) = H5 at n2 k2 vP2 r2
  refine ⟨_, rfl, .inl ⟨rfl, _, SqL.of vP2⟩, by show 1 ≤ sizeLine; decide, fun a1 b1 => ⟨by show 2 ≤ sizeLine; decide, fun a2 b2 => ?_⟩⟩
  have s6 := (new_same b1 (.lst [.str "r"])).trans (new_same b2 (.lst [.str "q", .ref a1]))
  have n3 := nl_same n2 s6
  have k3 := k2.trans s6
  have vP3 := s6 _ _ vP2
  have r3 : ∀ {z : Addr} {o : HO}, H1 z = none → H3 z = some o → upd (upd H5 a1 (.lst [.str "r"])) a2 (.lst [.str "q", .ref a1]) z = some o := fun {z o} hz e => s6 _ _ (r2 hz e)
  have hyl : yp.length ≤ 6 := by
    rw [lP, List.length_map]
    exact G.tb.hi
  refine ⟨PA, yp, _, rfl, rfl, vP3, small1000 (by omega), ?_⟩
  generalize upd (upd H5 a1 (.lst [.str "r"])) a2 (.lst [.str "q", .ref a1]) = H6 at n3 k3 vP3 r3
  have n4 := nl_put (o := .lst (yp ++ [.ref a2])) n3 vP3
  have k4 := same_put (o := .lst (yp ++ [.ref a2])) k3 nP
  have r4 : ∀ {z : Addr} {o : HO}, H1 z = none → H3 z = some o → upd H6 PA (.lst (yp ++ [.ref a2])) z = some o := fun {z o} hz e => by
    rw [upd_ne (fun y => by rw [y, aP] at hz; cases hz)]
    exact r3 hz e
  dsimp only
  generalize upd H6 PA (.lst (yp ++ [.ref a2])) = H7 at n4 k4 r4
  clear r1 r2 r3 n1 n2 n3 k1 k2 k3 vP1 vP2 vP3 vE1
  -- the second list: its rows
  obtain ⟨RA, yr, rfl, nR, aR, lR, iR'⟩ := l2.row
  have nRH : H RA = none := s1.free nR
  have hRr : ∀ (i : Nat) (z : Addr), yr[i]? = some (.ref z) → ∃ ys, H1 z = none ∧ H2 z = some (.lst ys) ∧ ys.length ≤ 10 ∧ z ≠ RA := fun i z e => by
    have hi := (List.getElem?_eq_some_iff.mp e).1
    have hir : i < rs.length := by rw [lR, List.length_map] at hi; exact hi
    have er : rs[i]? = some rs[i] := List.getElem?_eq_getElem hir
    have lz := iR' i _ _ e (by rw [List.getElem?_map, er] <;> rfl)
    obtain ⟨z', ys, ez, nz, az', lz', iz⟩ := LsF.row lz
    cases ez
    refine ⟨ys, nz, az', by rw [lz', List.length_map]; have := (G.bs _ (List.getElem_mem hir)).hi; omega, fun y => ?_⟩
    have l2' : LsF H1 H2 (.ref z) (.list (rs.map ruleL)) := y ▸ l2
    have hf := LsF.fun lz l2'
    have hb := G.bs _ (List.getElem_mem hir)
    obtain ⟨f0, fr, ef⟩ : ∃ f0 fr, rs[i] = f0 :: fr := by
      cases h : rs[i] with
      | nil =>
        have := hb.lo
        rw [h] at this
        cases this
      | cons a b => exact ⟨a, b, rfl⟩
    have hf2 : (rs[i]).map (fun e : Str × Str => PyData.list [.str e.1, .str e.2]) = rs.map ruleL := by
      have : ruleL rs[i] = .list (rs.map ruleL) := hf
      unfold ruleL at this
      injection this
    rw [ef] at hf2
    cases hrs : rs with
    | nil =>
      rw [hrs] at hir
      cases hir
    | cons g0 gr =>
      rw [hrs, List.map_cons, List.map_cons] at hf2
      have hf3 : PyData.list [.str f0.1, .str f0.2] = ruleL g0 := (List.cons.inj hf2).1
      unfold ruleL at hf3
      injection hf3 with hf4
      cases g0 with
      | nil => cases hf4
      | cons h0 hr =>
        rw [List.map_cons] at hf4
        have := (List.cons.inj hf4).1
        cases this
  have vR7 := r4 nR (s3 _ _ aR)
  show tFor _ _ _ _ _ _
  refine ⟨_, rfl, RA, rfl, ⟨_, SqL.of vR7⟩, for_list (K := K) (a := RA) (xs := yr) (fun i σ H' => ∃ f5 : Option V, σ = [some (.ref p), some (.ref q), some (.ref PA), some (.ref RA), some (.ref x), f5] ∧ H' RA = some (.lst yr) ∧ (∀ (j : Nat) (z : Addr), yr[j]? = some (.ref z) → ∃ ys, H' z = some (.lst ys) ∧ ys.length ≤ 10 + i) ∧ Same H H' ∧ NL H3 H')
    ⟨none, rfl, vR7, fun i z e => ?_, k4, n4⟩ (fun i σ H' _ ⟨_, _, z, _⟩ => SqL.of z) ?_ ?_⟩
  · obtain ⟨ys, h1, h2, h3, _⟩ := hRr i z e
    exact ⟨ys, r4 h1 (s3 _ _ h2), by omega⟩
  · rintro i y σ H' hy ⟨f5, rfl, g1, g2, g3, g4⟩
    have hi := (List.getElem?_eq_some_iff.mp hy).1
    have hir : i < rs.length := by rw [lR, List.length_map] at hi; exact hi
    obtain ⟨z, rfl⟩ : ∃ z, y = V.ref z := by
      have lz := iR' i _ _ hy (by rw [List.getElem?_map, List.getElem?_eq_getElem hir] <;> rfl)
      obtain ⟨z', ys, ez, _⟩ := LsF.row lz
      exact ⟨z', ez⟩
    obtain ⟨ys0, h1, h2, _, hne⟩ := hRr i z hy
    obtain ⟨ys, e1, e2⟩ := g2 i z hy
    have hl20 := G.ln
    refine ⟨_, rfl, .inl ⟨rfl, _, SqL.of e1⟩, by show 2 ≤ sizeLine; decide, fun b1 c1 => ?_⟩
    have sb := new_same c1 (.lst [.str "q", .str "r"])
    have e1' := sb _ _ e1
    refine ⟨z, ys, _, rfl, rfl, e1', small1000 (by omega), ?_⟩
    refine ⟨_, rfl, ?_, fun j u hu => ?_, same_put (g3.trans sb) (s1.free h1), nl_put (nl_same g4 sb) e1'⟩
    · rw [upd_ne hne.symm]
      exact sb _ _ g1
    · by_cases huz : u = z
      · rw [huz]
        exact ⟨_, upd_same, by rw [List.length_append, List.length_singleton]; omega⟩
      · obtain ⟨us, u1, u2⟩ := g2 j u hu
        exact ⟨us, by rw [upd_ne huz]; exact sb _ _ u1, by omega⟩
  · rintro σ H' ⟨f5, rfl, g1, g2, g3, g4⟩
    refine ⟨_, rfl, .inl ⟨rfl, _, SqL.of g1⟩, by show 0 ≤ sizeLine; decide, fun b1 c1 => ?_⟩
    have sb := new_same c1 (.lst [])
    have g1' := sb _ _ g1
    have hl : yr.length ≤ 20 := by
      rw [lR, List.length_map]
      exact G.ln
    refine ⟨RA, yr, _, rfl, rfl, g1', small1000 (by omega), ?_⟩
    have sE := same_put (o := .lst (yr ++ [.ref b1])) (g3.trans sb) nRH
    have nE := nl_put (o := .lst (yr ++ [.ref b1])) (nl_same g4 sb) g1'
    exact ⟨_, rfl, _, rfl, _, rfl, right_of (E := E0) G (hp.same sE) (hq.same sE) (form_nl nE f1) (tab_nl nE f2) (rulesAt_nl nE f3) fun H9 s9 => k H9 (sE.trans s9)⟩
end
end Q
set_option Elab.async false
set_option linter.all false
set_option maxRecDepth 100000
set_option maxHeartbeats 4000000
/-! x == y where x is of an own class with an own __eq__: what that def tells. -/
namespace XQ
open PySem PySem.Spec PyProof.Rows L2
def rOwnEq (K : PySem.W.Frag) (C : Addr) (sp : Sp) : R2 := fun x y H Q => ∃ a dx fs t, x = .ref a ∧ H a = some (.ins C dx fs) ∧ TyX K H y t ∧ PySem.W.notFirst K C t = true ∧ sp [x, y] H (fun z H' => ∃ b, z = .bl b ∧ Q (.bl b) H') E0
theorem op_ownEq {X : Cx} {n : Nat} {CX : CXT} {C f : Addr} {fd : FuncData} {ps : List Str} {sp : Sp} (F : FnOk X.prog X.w X.K X.mg X.base CX n f fd ps sp)
    (hs : PySem.W.findIn X.K (.ref C) "__eq__" = some (some (.ref f))) (hf : PySem.W.isFn X.K (.ref f) = true) (hb : Binds X.K fd ps []) (hx : Passes CX X E0) (hr : Room n X.A) : OpR X (compareOp .Eq) (rOwnEq X.K C sp) := by
  intro pins s σ H x y v u Q I rx ry h
  obtain ⟨a, dx, fs, t, rfl, ha, ty, nf, hsp⟩ := h
  cases rx
  obtain ⟨mA, J, _⟩ := ins_get I.hok ha
  obtain ⟨od, J, _⟩ := J.look
  obtain ⟨Pt, kx, hP, _⟩ := kit_of I ry ty
  obtain ⟨m, hF⟩ := I.fr
  show wpAny (model X.prog X.w) X.A (richCompare .Eq (.ref a) u) (EP X pins σ Q) X.xe s
  refine PySem.W.cmp_K (op := .Eq) (tb := t) hr.units0 hF I.ok.mod.kin J (kx.ty _ _ I.kIn hP) nf hs hf ?_
  have hl := F.len _ _ _ _ hsp
  have r2 : Vals [V.ref a, y] [Value.ref a, u] := .cons rfl (.cons ry .nil)
  refine wpAny_call (codeAny_mono (F.run X.A X.stack s H ⟨[.ref a, u], []⟩ [.ref a, u] [.ref a, y] _ E0 hr I.env0 (by
    have := hb s [.ref a, u] I.kIn (by simpa using hl)
    simpa using this) r2 hsp) fun r s' hq => ?_)
  cases r with
  | error e => exact hx pins σ H s e s' I hq
  | ok fl =>
    cases fl with
    | ret w =>
      obtain ⟨z, H', I', rz, b, ez, q⟩ := I.after hq
      subst ez
      cases rz
      exact ⟨.bl b, H', I', rfl, q⟩
    | next => exact False.elim hq
    | brk => exact False.elim hq
    | cont => exact False.elim hq
end XQ
set_option Elab.async false
set_option linter.all false
set_option maxRecDepth 100000
set_option maxHeartbeats 4000000
/-! ### turned rules, cut lists -/
namespace Q
open PySem L2 XD
theorem cutV_to (xs : List V) (k : Nat) : cutV xs none (some (k : Int)) = xs.take k := by
  unfold cutV
  show ((xs.drop 0).take (HT.sIx xs.length xs.length (some (k : Int)) - 0)) = xs.take k
  rw [HT.sIx_nat, List.drop_zero, Nat.sub_zero, ← List.take_eq_take_min]
theorem cutV_from (xs : List V) (k : Nat) : cutV xs (some (k : Int)) none = xs.drop k := by
  unfold cutV
  show (xs.drop (HT.sIx xs.length 0 (some (k : Int)))).take (xs.length - HT.sIx xs.length 0 (some (k : Int))) = xs.drop k
  rw [HT.sIx_nat]
  by_cases h : k ≤ xs.length
  · rw [Nat.min_eq_left h, List.take_of_length_le (by rw [List.length_drop]; exact Nat.le_refl _)]
  · rw [Nat.min_eq_right (by omega), List.drop_length, List.drop_eq_nil_of_le (by omega), List.take_nil]
theorem cutV_last (xs : List V) : cutV xs none (some (-1)) = xs.dropLast := by
  unfold cutV
  show (xs.drop 0).take ((if (-1 : Int) < 0 then (-1 + (xs.length : Int)).toNat else min (-1 : Int).toNat xs.length) - 0) = xs.dropLast
  rw [if_pos (by decide), List.drop_zero, Nat.sub_zero, List.dropLast_eq_take]
  congr 1
  omega
theorem once_snoc (l : List (List (Str × Str))) (x : List (Str × Str)) : once (l ++ [x]) = if x ∈ once l then once l else once l ++ [x] := by
  unfold once
  rw [List.foldl_append]
  rfl
theorem once_mem {l : List (List (Str × Str))} {x : List (Str × Str)} (h : x ∈ l) : x ∈ once l := by
  have : ∀ i, ∀ y ∈ l.take i, y ∈ once (l.take i) := by
    intro i
    induction i with
    | zero => exact fun y hy => absurd hy List.not_mem_nil
    | succ i ih =>
      intro y hy
      by_cases hi : i < l.length
      · have e : l[i]? = some l[i] := List.getElem?_eq_getElem hi
        rw [once_next e]
        rw [take_one e] at hy
        rcases List.mem_append.mp hy with hy | hy
        · have := ih y hy
          split
          · exact this
          · exact List.mem_append_left _ this
        · rw [List.mem_singleton.mp hy]
          split
          · assumption
          · exact List.mem_append_right _ (List.mem_singleton.mpr rfl)
      · rw [List.take_of_length_le (by omega)] at hy ⊢
        have := ih y
        rw [List.take_of_length_le (by omega)] at this
        exact this hy
  have h2 := this l.length x
  rw [List.take_length] at h2
  exact h2 h
theorem once_again (l : List (List (Str × Str))) : once (l ++ l.take 1) = once l := by
  cases l with
  | nil => rfl
  | cons x l =>
    show once ((x :: l) ++ [x]) = once (x :: l)
    rw [once_snoc, if_pos (once_mem List.mem_cons_self)]
theorem one_rev {α : Type} {l : List α} (h : l.length ≤ 1) : l.reverse = l := by
  match l, h with
  | [], _ => rfl
  | [x], _ => rfl
theorem bySeq_rev {t : List (Str × List Str)} {r : List (Str × Str)} (h : (r.map (·.1)).Nodup) : bySeq t r.reverse = bySeq t r := by
  unfold bySeq
  induction t with
  | nil => rfl
  | cons e t ih =>
    rw [List.flatMap_cons, List.flatMap_cons, ih, List.filter_reverse, one_rev]
    rw [← pick_filter h]
    cases pick e.1 r <;> simp
theorem prd_rev {α β : Type} {R : α → β → Prop} : ∀ {xs : List α} {ys : List β}, Paired R xs ys → Paired R xs.reverse ys.reverse
  | _, _, .nil => .nil
  | _, _, .cons a b => by
    rw [List.reverse_cons, List.reverse_cons]
    exact prd_snoc (prd_rev b) a
theorem prd_take {α β : Type} {R : α → β → Prop} : ∀ {xs : List α} {ys : List β} (k : Nat), Paired R xs ys → Paired R (xs.take k) (ys.take k)
  | _, _, 0, _ => .nil
  | _, _, k + 1, .nil => .nil
  | _, _, k + 1, .cons a b => .cons a (prd_take k b)
theorem nodup_rev {α : Type} {l : List α} (h : l.Nodup) : l.reverse.Nodup := (List.reverse_perm l).nodup_iff.mpr h
theorem ban_rev {t : List (Str × List Str)} {m : Nat} {r : List (Str × Str)} (B : Ban t m r) : Ban t m r.reverse :=
  ⟨by rw [List.length_reverse]; exact B.lo, by rw [List.length_reverse]; exact B.hi, by rw [List.map_reverse]; exact nodup_rev B.nd, fun e he => B.of e (List.mem_reverse.mp he)⟩
theorem good_sub {t : List (Str × List Str)} {rs rs' : List (List (Str × Str))} (G : Good t rs) (h : ∀ r ∈ rs', r ∈ rs) (hl : rs'.length ≤ 20) : Good t rs' := ⟨G.tb, fun r hr => G.bs r (h r hr), hl, G.ws⟩
theorem good_turned {t : List (Str × List Str)} {rs : List (List (Str × Str))} (G : Good t rs) (hl : rs.length ≤ 19) : Good t (rs.map List.reverse ++ (rs.map List.reverse).take 1) := by
  refine ⟨G.tb, fun r hr => ?_, ?_, G.ws⟩
  · have : r ∈ rs.map List.reverse := by
      rcases List.mem_append.mp hr with hr | hr
      · exact hr
      · exact List.mem_of_mem_take hr
    obtain ⟨r0, h0, rfl⟩ := List.mem_map.mp this
    exact ban_rev (G.bs r0 h0)
  · rw [List.length_append, List.length_take, List.length_map]
    omega
theorem once_turned {t : List (Str × List Str)} {rs : List (List (Str × Str))} (G : Good t rs) : once ((rs.map List.reverse ++ (rs.map List.reverse).take 1).map (bySeq t)) = once (rs.map (bySeq t)) := by
  have e : (rs.map List.reverse).map (bySeq t) = rs.map (bySeq t) := by
    rw [List.map_map]
    exact List.map_congr_left fun r hr => bySeq_rev (G.bs r hr).nd
  rw [List.map_append, List.map_take, e, once_again]
/-- the last field's values turned -/
def lastRev (t : List (Str × List Str)) (e : Str × List Str) : List (Str × List Str) := t ++ [(e.1, e.2.reverse)]
theorem ways_app (a : Nat) (t : List (Str × List Str)) (e : Str × List Str) : waysFrom a (t ++ [e]) = waysFrom a t * e.2.length := by
  unfold waysFrom
  rw [List.foldl_append]
  rfl
theorem good_last {t : List (Str × List Str)} {e : Str × List Str} {rs : List (List (Str × Str))} (G : Good (t ++ [e]) rs) : Good (lastRev t e) rs := by
  have hm : (lastRev t e).map (·.1) = (t ++ [e]).map (·.1) := by
    unfold lastRev
    rw [List.map_append, List.map_append]
    rfl
  refine ⟨⟨?_, ?_, by rw [hm]; exact G.tb.nm, fun x hx => ?_⟩, fun r hr => ?_, G.ln, ?_⟩
  · unfold lastRev
    rw [List.length_append] <;> exact Nat.le_add_left _ _
  · have := G.tb.hi
    unfold lastRev
    rw [List.length_append] at this ⊢
    exact this
  · unfold lastRev at hx
    rcases List.mem_append.mp hx with hx | hx
    · exact G.tb.vs x (List.mem_append_left _ hx)
    · rw [List.mem_singleton.mp hx]
      obtain ⟨⟨h1, h2⟩, h3, h4⟩ := G.tb.vs e (List.mem_append_right _ (List.mem_singleton.mpr rfl))
      exact ⟨⟨nodup_rev h1, fun y hy => h2 y (List.mem_reverse.mp hy)⟩, by show 1 ≤ e.2.reverse.length; rw [List.length_reverse]; exact h3, by show e.2.reverse.length ≤ 5; rw [List.length_reverse]; exact h4⟩
  · obtain ⟨b1, b2, b3, b4⟩ := G.bs r hr
    refine ⟨b1, b2, b3, fun f hf => ?_⟩
    obtain ⟨ws, h1, h2⟩ := b4 f hf
    unfold lastRev
    rcases List.mem_append.mp h1 with h1 | h1
    · exact ⟨ws, List.mem_append_left _ h1, h2⟩
    · have e1 : (f.1, ws) = e := List.mem_singleton.mp h1
      refine ⟨e.2.reverse, List.mem_append_right _ ?_, List.mem_reverse.mpr (by rw [← e1]; exact h2)⟩
      rw [← e1]
      exact List.mem_singleton.mpr rfl
  · have := G.ws
    unfold lastRev
    rw [ways_app] at this ⊢
    show waysFrom 1 t * e.2.reverse.length ≤ 1000
    rw [List.length_reverse]
    exact this
theorem tabL_shaped {t : List (Str × List Str)} (h : TStr t) : SeqAt.shaped (.list (t.map entryD)) = true := by
  unfold SeqAt.shaped
  rw [Bool.and_eq_true]
  refine ⟨?_, decide_eq_true ?_⟩
  · rw [PyData.canLay0]
    exact tab_lay t h
  · have := tab_depth t
    rw [PyData.depth]
    omega
theorem eqv_tabL (a b : List (Str × List Str)) : PyData.eqv (.list (a.map entryD)) (.list (b.map entryD)) = decide (a = b) := by
  rw [PyData.eqv]
  exact eqvAll_tab a b
theorem eqv_rulesD (a b : List (List (Str × Str))) : PyData.eqv (rulesD a) (rulesD b) = decide (a = b) := by
  unfold rulesD
  rw [PyData.eqv]
  exact eqvAll_rules a b
theorem good_rstr {t : List (Str × List Str)} {rs : List (List (Str × Str))} (G : Good t rs) : ∀ r ∈ once (rs.map (bySeq t)), RStr r := fun r hr => by
  obtain ⟨r0, h0, rfl⟩ := List.mem_map.mp (once_sub r hr)
  exact fun e he => ((good_right G).2.2.2.2 r0 h0).2 e (bySeq_mem he)
theorem good_stands {K : PySem.W.Frag} {C x pf pr : Addr} {H : Hp} {t : List (Str × List Str)} {rs : List (List (Str × Str))} (G : Good t rs) (h1 : FormAt C H x pf pr) (h2 : TabAt K H pf t) (h3 : RulesAt K H pr (once (rs.map (bySeq t)))) : Stands K C H x t (once (rs.map (bySeq t))) :=
  ⟨⟨pf, pr, h1, h2, h3⟩, (good_right G).2.2.1, good_rstr G⟩
theorem form_same {C x pf pr : Addr} {H H' : Hp} (s : Same H H') (h : FormAt C H x pf pr) : FormAt C H' x pf pr := by
  obtain ⟨dx, h⟩ := h
  exact ⟨dx, s _ _ h⟩
theorem rulesAt_same {K : PySem.W.Frag} {H H' : Hp} {p : Addr} {rs : List (List (Str × Str))} (s : Same H H') (h : RulesAt K H p rs) : RulesAt K H' p rs := by
  obtain ⟨ps, a, b⟩ := h
  exact ⟨ps, a.same s, rules_same s b⟩
theorem Stands.same {K : PySem.W.Frag} {C x : Addr} {H H' : Hp} {t : List (Str × List Str)} {rs : List (List (Str × Str))} (s : Same H H') (h : Stands K C H x t rs) : Stands K C H' x t rs := by
  obtain ⟨⟨pf, pr, a, b, c⟩, d, e⟩ := h
  exact ⟨⟨pf, pr, form_same s a, TabAt.same s b, rulesAt_same s c⟩, d, e⟩
theorem told_of {K : PySem.W.Frag} {p q : Addr} {H : Hp} {ps qs : List Addr} {kvs : List (Key × V)} {t : List (Str × List Str)} {rs : List (List (Str × Str))} {Q : VK} {E : XK} (G : Good t rs) (hp : TabIn K H p ps kvs t) (hq : BansIn K H q qs rs)
    (k : ∀ z H', Same H H' → RulesAt K H' z (once (rs.map (bySeq t))) → Q (.ref z) H') : spTold K [.ref p, .ref q] H Q E := by
  obtain ⟨g1, g2, g3, g4, g5⟩ := good_right G
  exact ⟨p, q, ps, kvs, t, qs, rs, rfl, hp.at_, hp.rw_, hq.at_, bansAt hq.rw_, g1, g4, g5, k⟩
theorem TabR.split {K : PySem.W.Frag} {H : Hp} {e : Str × List Str} (t0 : List (Str × List Str)) : ∀ (ps : List Addr) (kvs : List (Key × V)), TabR K H ps kvs (t0 ++ [e]) →
    ∃ (ps0 : List Addr) (kvs0 : List (Key × V)) (pl v : Addr), ps = ps0 ++ [pl] ∧ TabR K H ps0 kvs0 t0 ∧ SqT K H pl [.str e.1, .ref v] ∧ SqT K H v (e.2.map V.str) ∧ ∀ w ∈ e.2, PyData.strOk w = true := by
  induction t0 with
  | nil =>
    intro ps kvs h
    rw [List.nil_append] at h
    cases h with
    | cons a b c d =>
      cases d
      exact ⟨[], [], _, _, rfl, .nil, a, b, c⟩
  | cons x t0 ih =>
    intro ps kvs h
    rw [List.cons_append] at h
    cases h with
    | cons a b c d =>
      obtain ⟨ps0, kvs0, pl, v, h0, h1, h2, h3, h4⟩ := ih _ _ d
      subst h0
      exact ⟨_ :: ps0, _, pl, v, rfl, .cons a b c h1, h2, h3, h4⟩
end Q
set_option Elab.async false
set_option linter.all false
set_option maxRecDepth 100000
set_option maxHeartbeats 4000000
/-! ### _law_equal_right -/
namespace Q
open PySem L2 XD
def spEqual (K : PySem.W.Frag) : Sp := fun vs H Q _ => ∃ (v0 : V) (p q : Addr) (ps : List Addr) (kvs : List (Key × V)) (t : List (Str × List Str)) (qs : List Addr) (rs : List (List (Str × Str))), vs = [v0, .ref p, .ref q] ∧ H p = some (.lst (ps.map V.ref)) ∧ TabR K H ps kvs t ∧
  H q = some (.lst (qs.map V.ref)) ∧ Paired (RuleAt K H) qs rs ∧ Good t rs ∧ rs.length ≤ 19 ∧ ∀ H', Same H H' → Q (.bl true) H'
/-- nothing of a built-in class goes first -/
structure Nf (K : PySem.W.Frag) (C f : Addr) : Prop where
  nf : ∀ d : PyData, (∀ kvs, d ≠ .dict kvs) → PySem.W.notFirst K C (.type (tyName d)) = true
  fi : PySem.W.findIn K (.ref C) "__eq__" = some (some (.ref f))
  fn : PySem.W.isFn K (.ref f) = true
theorem iteT' {c : Bool} {A B : Prop} (h : c = true) (a : A) : if c = true then A else B := by
  rw [h]
  exact iteT a
theorem asg_lc {w : TI} {g : TG} {tt : TT} {te : TE} {vs : List Nat} {u : TS} {D : Ends} {σ : L2.St} {H : Hp} {i : Nat} (h : tLc w g tt te vs σ H fun v H1 => u D (σ.set i (some v)) H1) : tSeq (tAsg (tLc w g tt te vs) (gName i)) u D σ H := h
theorem eq_self {K : PySem.W.Frag} {C : Addr} : PySem.W.notFirst K C (.ref C) = true := by simp [PySem.W.notFirst]
section
variable {P : Program} {w : World} {K : PySem.W.Frag} {mg : Str → Option Value} {base : Heap}
/-- two forms compared -/
theorem eq_forms {C x y : Addr} {H : Hp} {t t' : List (Str × List Str)} {rs rs' : List (List (Str × Str))} {Q : VK} (T : Fc K mg C) (h1 : Stands K C H x t rs) (h2 : Stands K C H y t' rs') (k : Q (.bl (decide (t = t') && decide (rs = rs'))) H) :
    XQ.rOwnEq K C (spEq K C) (.ref x) (.ref y) H Q := by
  obtain ⟨pf, pr, ⟨dx, hx⟩, _⟩ := h1.at_
  obtain ⟨pf', pr', ⟨dy, hy⟩, _⟩ := h2.at_
  exact ⟨x, dx, _, _, rfl, hx, .base (T.ty hy), eq_self, x, t, rs, .ref y, rfl, h1, .inr ⟨y, t', rs', rfl, h2, _, rfl, k⟩⟩
theorem eq_data {C x f : Addr} {H : Hp} {t : List (Str × List Str)} {rs : List (List (Str × Str))} {v : V} {d : PyData} {Q : VK} (N : Nf K C f) (h1 : Stands K C H x t rs) (h2 : Dp K H v d) (k : Q (.bl false) H) :
    XQ.rOwnEq K C (spEq K C) (.ref x) v H Q := by
  obtain ⟨pf, pr, ⟨dx, hx⟩, _⟩ := h1.at_
  exact ⟨x, dx, _, _, rfl, hx, tyD h2, N.nf d (dp_no_dict h2), x, t, rs, v, rfl, h1, .inl ⟨d, h2, _, rfl, k⟩⟩
theorem scEqual : FnScope ["flow", "table", "bans", "made", "turned", "ban", "other", "same", "fewer", "more", "row", "right", "due", "thing"] ["flow", "table", "bans"] (defScope sEqual) := ⟨rfl, rfl, rfl, by decide +kernel, rfl, by decide +kernel, by decide +kernel⟩
theorem ok_equal {f fI fE fF C CV CM : Addr} {fd fdI fdE fdF : FuncData} (F : Fun K "_law_equal_right" "_law_equal_right" sEqual f fd) (T : Fc K mg C) (M : Mk K C fI) (GI : FnOk P w K mg base (L2N.CX P w) 6 fI fdI ["self", "fields", "rules"] (spInit K C CV CM)) (bI : Binds K fdI ["self", "fields", "rules"] [])
    (GE : FnOk P w K mg base CX0 1 fE fdE ["self", "other"] (spEq K C)) (bE : Binds K fdE ["self", "other"] []) (N : Nf K C fE) (GF : FnOk P w K mg base CX0 1 fF fdF ["self"] (spGet K C false)) (bF : Binds K fdF ["self"] []) (mF : Meth K C "fields" fF)
    (T1 : mg "tuple" = none) (T2 : mg "list" = none) (KL : Kn P w K mg base 5 "_law_lists" ["thing"] (spLists K 5)) (KT : Kn P w K mg base 2 "_law_told" ["table", "bans"] (spTold K)) : FnOk P w K mg base CX0 8 f fd ["flow", "table", "bans"] (spEqual K) := by
  obtain ⟨fL, fdL, GL, kL, bL, mL⟩ := KL.ex
  obtain ⟨fT, fdT, GT, kT, bT, mT⟩ := KT.ex
  refine F.ok scEqual (fun vs H Q E h => ?_) (fun cdv A outer s H vs Q E hr h => ?_)
  · obtain ⟨v0, p, q, ps, kvs, t, qs, rs, rfl, _⟩ := h
    rfl
  obtain ⟨v0, p, q, ps, kvs, t, qs, rs, rfl, hp, hT, hq, hR, G, hl, k⟩ := h
  have vt_ : PySem.bootBuiltins "tuple" = some (.type "tuple") := by decide +kernel
  have vl_ : PySem.bootBuiltins "list" = some (.type "list") := by decide +kernel
  have hu := hr.units
  have hr1 : Room 1 _ := hr.mono (by decide)
  refine ⟨_, pss_cons (ps_set (i := 3) scEqual.nd rfl (.inl rfl) (pe_make M GI hr rfl T.gF bI .nil passF (pa_cons (pv 1) (pa_cons (pv 2) pa_nil))))
    (pss_cons (ps_setLc (i := 4) (own := [("ban", 5)]) (g := gName 5) (tt := tYes) (by rfl) scEqual.nd rfl rfl (sw_true rfl rfl rfl (by decide +kernel)) (pi_row (pv 2)) (blkOk_by (N := ["flow", "table", "bans", "made", "turned", "ban", "other", "same", "fewer", "more", "row", "right", "due", "thing"]) (sc := defScope sEqual) (by decide +kernel))
      (fun _ _ _ _ _ => pg_name (i := 5) scEqual.nd rfl (.inl rfl)) (fun _ _ _ _ _ => pts_nil) (fun _ _ _ _ _ => XR.pe_revTK K rfl (pv 5)))
    (pss_cons (ps_for PassesOwn.never rfl (pi_list (pe_lst (pa_cons (pe_make M GI hr rfl T.gF bI .nil passF (pa_cons (pe_call GL (hr.mono (by decide)) rfl mL kL bL .nil pass0 (pa_cons (pv 1) pa_nil)) (pa_cons (pe_op op_cat (pv 4) (pe_slice sl_list (pv 4) po_none (po_some pe_int))) pa_nil))) (pa_cons (pv 3) pa_nil)))) (pg_name (i := 6) scEqual.nd rfl (.inl rfl))
      (pss_cons (ps_set (i := 7) scEqual.nd rfl (.inl rfl) (pe_cmpR (XQ.op_ownEq GE N.fi N.fn bE pass0 hr1) (pv 3) (pv 6) (nomark _)))
      (pss_one (ps_if (pt_cmpR op_isnot_bl (pv 7) pe_bl (nomark _)) (pss_one (ps_ret pe_bl)) pss_nil))))
    (pss_cons (ps_set (i := 8) scEqual.nd rfl (.inl rfl) (pe_slice sl_list (pv 2) po_none (po_some (pe_un un_neg pe_int))))
    (pss_cons (ps_set (i := 9) scEqual.nd rfl (.inl rfl) (pe_op op_cat (pe_slice sl_list (pv 1) po_none (po_some (pe_un un_neg pe_int)))
      (pe_lst (pa_cons (pe_tupZ (pa_cons (pe_ix (ix_both K rfl) (pe_ix (ix_both K rfl) (pv 1) (pe_un un_neg pe_int) (fun _ _ => rfl)) pe_int (fun _ _ => rfl)) (pa_cons (XR.pe_revTK K rfl (pe_ix (ix_both K rfl) (pe_ix (ix_both K rfl) (pv 1) (pe_un un_neg pe_int) (fun _ _ => rfl)) pe_int (fun _ _ => rfl))) pa_nil))) pa_nil))))
    (pss_cons (ps_for PassesOwn.never rfl (pi_list (pe_lst (pa_cons (pe_tupZ (pa_cons (pv 1) (pa_cons (pv 8) pa_nil))) (pa_cons (pe_tupZ (pa_cons (pv 9) (pa_cons (pv 2) pa_nil))) (pa_cons (pe_tupZ (pa_cons (pv 1) (pa_cons (pe_revL (pv 2)) pa_nil))) pa_nil))))) (pg_row rfl (pgs_cons (pg_name (i := 10) scEqual.nd rfl (.inl rfl)) (pgs_cons (pg_name (i := 11) scEqual.nd rfl (.inl rfl)) pgs_nil)))
      (pss_cons (ps_set (i := 12) scEqual.nd rfl (.inl rfl) (pe_and (pe_cmpR (op_eqD hu) (pe_call GT (hr.mono (by decide)) rfl mT kT bT .nil pass0 (pa_cons (pv 1) (pa_cons (pv 2) pa_nil))) (pe_call GT (hr.mono (by decide)) rfl mT kT bT .nil pass0 (pa_cons (pv 10) (pa_cons (pv 11) pa_nil))) (nomark _))
          (pe_one (pe_cmpR (op_eqD hu) (pe_callTy call_list_of rfl T2 vl_ (pa_cons (pv 10) pa_nil)) (pe_callTy call_list_of rfl T2 vl_ (pa_cons (pv 1) pa_nil)) (nomark _)))))
      (pss_cons (ps_set (i := 7) scEqual.nd rfl (.inl rfl) (pe_cmpR (XQ.op_ownEq GE N.fi N.fn bE pass0 hr1) (pe_make M GI hr rfl T.gF bI .nil passF (pa_cons (pv 10) (pa_cons (pv 11) pa_nil))) (pv 3) (nomark _)))
      (pss_one (ps_if (PW.pt (pw_or (PW.pt (pw_and (pt_cmpR op_isnot_bl (pv 7) pe_bl (nomark _)) (pw_and1 (pt_cmpR op_isnot_bl (pv 7) pe_bl (nomark _))))) (pw_or1 (pt_cmpR op_ne (pv 7) (pv 12) (nomark _))))) (pss_one (ps_ret pe_bl)) pss_nil)))))
    (pss_cons (ps_for PassesOwn.never rfl (pi_list (pe_lst (pa_cons (pe_tupZ (pa_cons (pe_callTy (call_tupK K rfl) rfl T1 vt_ (pa_cons (pv 1) pa_nil)) (pa_cons (pe_callTy (call_tupK K rfl) rfl T1 vt_ (pa_cons (pv 2) pa_nil)) pa_nil))) (pa_cons pe_non (pa_cons pe_int (pa_cons pe_str (pa_cons (pe_meth0 (pv 3) T.cl mF GF hr1 bF .nil pass0) (pa_cons pe_bl pa_nil)))))))) (pg_name (i := 13) scEqual.nd rfl (.inl rfl))
      (pss_cons (ps_set (i := 7) scEqual.nd rfl (.inl rfl) (pe_cmpR (XQ.op_ownEq GE N.fi N.fn bE pass0 hr1) (pv 3) (pv 13) (nomark _)))
      (pss_one (ps_if (pt_cmpR op_isnot_bl (pv 7) pe_bl (nomark _)) (pss_one (ps_ret pe_bl)) pss_nil))))
    (pss_one (ps_ret pe_bl)))))))), ?_⟩
  have hp' : TabIn K H p ps kvs t := ⟨.inl (SqL.of hp), hT⟩
  have hq' : BansIn K H q qs rs := ⟨.inl (SqL.of hq), hR⟩
  obtain ⟨dF, dR, iF, iR, hand⟩ := hand_of hp' hq'
  refine ⟨_, rfl, _, rfl, fun x dx hx hdx hne => init_good G hand hx hdx hne fun pf pr H1 s1 f1 f2 f3 => ⟨rfl, ?_⟩⟩
  have st1 := good_stands G f1 f2 f3
  dsimp only
  refine asg_lc ?_
  refine lc_row (ys := qs.map V.ref) (fun D i H' => ∃ zs : List Addr, H' D = some (.lst (zs.map V.ref)) ∧ Paired (RuleAt K H') zs ((rs.take i).map List.reverse) ∧ Same H1 H') (fun Q' z => ⟨_, rfl, z⟩) (.inl (s1.seq (SqL.of hq))) (fun D hD => ⟨[], upd_same, .nil, new_same hD _⟩) (fun D i H' hD hP => by obtain ⟨_, _, _, z⟩ := hP; exact z) (fun D i y H' hD hi hP hy => ?_) (fun D H2 hD hP => ?_)
  · obtain ⟨zs, g1, g2, g3⟩ := hP
    rw [List.getElem?_map] at hy
    obtain ⟨z, hz, rfl⟩ := Option.map_eq_some_iff.mp hy
    obtain ⟨r, hr', ms, m1, m2⟩ := prd_at (rules_same (s1.trans g3) hR) hz
    refine ⟨rfl, ?_⟩
    unfold tYes
    refine iteT ⟨_, rfl, z, _, rfl, m1.sqT, fun u o hu0 ho => ?_⟩
    have su : Same H' (upd H' u (.frz o (.tup (ms.map V.ref).reverse))) := new_same hu0 _
    have hlz : zs.length ≤ 20 := by
      rw [prd_len g2, List.length_map, List.length_take]
      omega
    have hD2 := su _ _ g1
    refine ⟨zs.map V.ref, hD2, small1000 (by rw [List.length_map]; omega), zs ++ [u], ?_, ?_, fun b o' y' => ?_⟩
    · rw [upd_same, List.map_append] <;> rfl
    · rw [take_one hr', List.map_append]
      refine rules_off hD2 (prd_snoc (rules_same su g2) ⟨ms.reverse, ⟨o, by rw [upd_same, List.map_reverse], ho⟩, prd_rev (prd_same su m2)⟩)
    · rw [upd_ne (ne_of_none y' hD)]
      exact su _ _ (g3 _ _ y')
  obtain ⟨zs, g1, g2, g3⟩ := hP
  have hql : (qs.map V.ref).length = rs.length := by rw [List.length_map, prd_len hR]
  rw [List.take_of_length_le (by omega)] at g2
  have hzl : zs.length = rs.length := by rw [prd_len g2, List.length_map]
  have s12 : Same H H2 := s1.trans g3
  have hp2 := hp'.same s12
  obtain ⟨dF2, iF2, hF2⟩ := hp2.dp
  refine ⟨_, rfl, .ref p, dF2, rfl, hF2, ds_tab' iF2 G.tb, fun v1 H3 s3 l1 => ?_⟩
  rw [toL_tab iF2] at l1
  have g13 := s3 _ _ g1
  refine ⟨_, rfl, _, rfl, _, rfl, D, _, rfl, SqL.of g13, fun P2 hP2 => ⟨D, P2, _, _, rfl, rfl, new_same hP2 _ _ _ g13, upd_same, ?_, fun P3 hP3 => fun y dy hy hdy hney => ?_⟩⟩
  · show (zs.map V.ref).length + (cutV (zs.map V.ref) none (some ((1 : Nat) : Int))).length ≤ sizeLine
    rw [cutV_to]
    refine le_line ?_
    rw [List.length_take, List.length_map]
    omega
  have s3P : Same H3 (upd (upd H3 P2 (.lst (cutV (zs.map V.ref) none (some 1)))) P3 (.lst (zs.map V.ref ++ cutV (zs.map V.ref) none (some 1)))) := (new_same hP2 _).trans (new_same hP3 _)
  have s2P := s3.trans s3P
  have e1 : cutV (zs.map V.ref) none (some 1) = (zs.take 1).map V.ref := by
    show cutV (zs.map V.ref) none (some ((1 : Nat) : Int)) = _
    rw [cutV_to, List.map_take]
  have bT2 : BansIn K (upd (upd H3 P2 (.lst (cutV (zs.map V.ref) none (some 1)))) P3 (.lst (zs.map V.ref ++ cutV (zs.map V.ref) none (some 1)))) P3 (zs ++ zs.take 1) (rs.map List.reverse ++ (rs.map List.reverse).take 1) := by
    refine ⟨.inl (SqL.of ?_), rules_same s2P (prd_app g2 (prd_take 1 g2))⟩
    rw [upd_same, e1, List.map_append]
  have gT := good_turned G hl
  generalize upd (upd H3 P2 (.lst (cutV (zs.map V.ref) none (some 1)))) P3 (.lst (zs.map V.ref ++ cutV (zs.map V.ref) none (some 1))) = H4 at s3P s2P bT2 hy hdy
  obtain ⟨dR4, iR4, hR4⟩ := bT2.dp
  refine init_good gT ⟨dp_same s3P l1.dp, hR4, ⟨_, rfl, tab_pairL t⟩, iR4.fr, bT2.rz iR4⟩ hy hdy hney fun pf2 pr2 H5 s5 f4 f5 f6 => ⟨rfl, ?_⟩
  have st2 := good_stands gT f4 f5 f6
  rw [once_turned G] at st2
  refine ⟨_, rfl, by show 2 ≤ sizeLine; decide, fun L1 hL1 => ⟨L1, rfl, ⟨_, SqL.of upd_same⟩, ?_⟩⟩
  have s25 := s2P.trans s5
  have s56 := new_same hL1 (.lst [V.ref y, V.ref x])
  have st1' := st1.same ((g3.trans s25).trans s56)
  have st2' := st2.same s56
  have hL6 : upd H5 L1 (.lst [V.ref y, V.ref x]) L1 = some (.lst [V.ref y, V.ref x]) := upd_same
  have s06 : Same H (upd H5 L1 (.lst [V.ref y, V.ref x])) := (s12.trans s25).trans s56
  generalize upd H5 L1 (.lst [V.ref y, V.ref x]) = H6 at s56 st1' st2' hL6 s06
  refine for_list (K := K) (a := L1) (xs := [V.ref y, V.ref x]) (fun i σ H' => ∃ f6 f7 : Option V, σ = [some v0, some (.ref p), some (.ref q), some (.ref x), some (.ref D), none, f6, f7, none, none, none, none, none, none] ∧ Same H6 H') ⟨none, none, rfl, Same.refl H6⟩ (fun i σ H' _ ⟨_, _, _, z⟩ => SqL.of (z _ _ hL6)) ?_ ?_
  · rintro i u σ H' hu0 ⟨f6', f7', rfl, s67⟩
    have hst : ∃ z, u = .ref z ∧ Stands K C H' z t (once (rs.map (bySeq t))) := by
      match i, hu0 with
      | 0, e => cases e; exact ⟨y, rfl, st2'.same s67⟩
      | 1, e => cases e; exact ⟨x, rfl, st1'.same s67⟩
    obtain ⟨z, rfl, hst⟩ := hst
    refine ⟨_, rfl, _, rfl, eq_forms T (st1'.same s67) hst ?_⟩
    refine ⟨_, rfl, _, _, rfl, rfl, _, rfl, iteNS ?_ ⟨_, _, rfl, s67⟩⟩
    simp
  rintro σ H7 ⟨f6', f7', rfl, s67⟩
  have s07 : Same H H7 := s06.trans s67
  have st7 := st1'.same s67
  clear st1' st2' hL6 s56 s25 st1 st2 bT2 s2P s3P l1 hF2
  -- the last field
  obtain ⟨t0, e, et⟩ : ∃ t0 e, t = t0 ++ [e] := by
    have hne : t ≠ [] := fun z => by
      have := G.tb.lo
      rw [z] at this
      cases this
    exact ⟨t.dropLast, t.getLast hne, (List.dropLast_concat_getLast hne).symm⟩
  have hT7 := hT.same s07
  obtain ⟨ps0, kvs0, pl, v, eps, b1, b2, b3, b4⟩ : ∃ (ps0 : List Addr) (kvs0 : List (Key × V)) (pl v : Addr), ps = ps0 ++ [pl] ∧ TabR K H7 ps0 kvs0 t0 ∧ SqT K H7 pl [.str e.1, .ref v] ∧ SqT K H7 v (e.2.map V.str) ∧ ∀ w ∈ e.2, PyData.strOk w = true := by
    rw [et] at hT7
    exact TabR.split t0 _ _ hT7
  have hlast : atI (ps.map V.ref) (-1) = some (.ref pl) := by
    rw [eps, List.map_append]
    exact atI_last _ _
  refine ⟨_, rfl, _, rfl, _, rfl, q, _, rfl, SqL.of (s07 _ _ hq), fun FA hFA => ?_⟩
  have s8 := new_same hFA (.lst (cutV (qs.map V.ref) none (some (-1))))
  have fF : upd H7 FA (.lst (cutV (qs.map V.ref) none (some (-1)))) FA = some (.lst (qs.dropLast.map V.ref)) := by
    rw [upd_same, cutV_last, List.map_dropLast]
  dsimp only
  generalize upd H7 FA (.lst (cutV (qs.map V.ref) none (some (-1)))) = H8 at s8 fF
  refine ⟨_, rfl, _, rfl, _, rfl, p, _, rfl, SqL.of (s8 _ _ (s07 _ _ hp)), fun GA hGA => ?_⟩
  have s9 := new_same hGA (.lst (cutV (ps.map V.ref) none (some (-1))))
  have fG : upd H8 GA (.lst (cutV (ps.map V.ref) none (some (-1)))) GA = some (.lst (ps0.map V.ref)) := by
    rw [upd_same, cutV_last, eps, List.map_append]
    exact congrArg (fun z => some (HO.lst z)) List.dropLast_concat
  generalize upd H8 GA (.lst (cutV (ps.map V.ref) none (some (-1)))) = H9 at s9 fG
  have s79 := s8.trans s9
  have s09 := s07.trans s79
  have p9 : SqL K H9 p (ps.map V.ref) ∨ SqT K H9 p (ps.map V.ref) := .inl (SqL.of (s09 _ _ hp))
  refine ⟨_, rfl, _, rfl, ix_row p9 hlast (ix_row (.inr (seqT_same s79 b2)) (by rfl) ⟨_, rfl, _, rfl, ix_row p9 hlast (ix_row (.inr (seqT_same s79 b2)) (by rfl) ⟨v, _, rfl, seqT_same s79 b3, fun VR oV hVR hoV => ?_⟩)⟩)⟩
  have s10 := new_same hVR (.frz oV (.tup (e.2.map V.str).reverse))
  refine ⟨by show 2 ≤ sizeLine; decide, fun PN oP hPN hoP => ⟨by show 1 ≤ sizeLine; decide, fun LN hLN => ?_⟩⟩
  have s11 := new_same hPN (.frz oP (.tup [.str e.1, .ref VR]))
  have s12' := new_same hLN (.lst [.ref PN])
  have vV : SqT K (upd (upd (upd H9 VR (.frz oV (.tup (e.2.map V.str).reverse))) PN (.frz oP (.tup [.str e.1, .ref VR]))) LN (.lst [.ref PN])) VR (e.2.reverse.map V.str) := by
    rw [List.map_reverse]
    exact .inl (.inr ⟨oV, s12' _ _ (s11 _ _ upd_same)⟩)
  have vP : SqT K (upd (upd (upd H9 VR (.frz oV (.tup (e.2.map V.str).reverse))) PN (.frz oP (.tup [.str e.1, .ref VR]))) LN (.lst [.ref PN])) PN [.str e.1, .ref VR] := .inl (.inr ⟨oP, s12' _ _ upd_same⟩)
  have vL : upd (upd (upd H9 VR (.frz oV (.tup (e.2.map V.str).reverse))) PN (.frz oP (.tup [.str e.1, .ref VR]))) LN (.lst [.ref PN]) LN = some (.lst [.ref PN]) := upd_same
  have s9b := (s10.trans s11).trans s12'
  generalize upd (upd (upd H9 VR (.frz oV (.tup (e.2.map V.str).reverse))) PN (.frz oP (.tup [.str e.1, .ref VR]))) LN (.lst [.ref PN]) = H10 at s9b vV vP vL
  have hpsl : ps0.length ≤ 6 := by
    have h1 := hT.flen
    have h2 := G.tb.hi
    rw [eps, List.length_append] at h1
    omega
  refine ⟨GA, LN, _, _, rfl, rfl, s9b _ _ fG, vL, le_line (by rw [List.length_map]; show ps0.length + 1 ≤ 1000; omega), fun MA hMA => ?_⟩
  have sM := new_same hMA (.lst (ps0.map V.ref ++ [V.ref PN]))
  have s8M := (s9.trans s9b).trans sM
  have s0M := (s07.trans s8).trans s8M
  have tM : TabIn K (upd H10 MA (.lst (ps0.map V.ref ++ [V.ref PN]))) MA (ps0 ++ [PN]) (kvs0 ++ [((.inr e.1 : Key), V.ref VR)]) (lastRev t0 e) :=
    ⟨.inl (SqL.of (by rw [upd_same, List.map_append] <;> rfl)), TabR.snoc (seqT_same sM vP) (seqT_same sM vV) (fun w hw => b4 w (List.mem_reverse.mp hw)) (b1.same (s8.trans s8M))⟩
  have mM : upd H10 MA (.lst (ps0.map V.ref ++ [V.ref PN])) MA = some (.lst ((ps0 ++ [PN]).map V.ref)) := by rw [upd_same, List.map_append] <;> rfl
  have fF' := s8M _ _ fF
  have st8 := st7.same (s8.trans s8M)
  dsimp only
  generalize upd H10 MA (.lst (ps0.map V.ref ++ [V.ref PN])) = H11 at sM s8M s0M tM mM fF' st8
  refine ⟨_, rfl, _, rfl, by show 2 ≤ sizeLine; decide, fun T1' o1 hT1 _ => ⟨_, rfl, _, rfl, by show 2 ≤ sizeLine; decide, fun T2' o2 hT2 _ => ?_⟩⟩
  have a1 := new_same hT1 (.frz o1 (.tup [.ref p, .ref FA]))
  have a2 := new_same hT2 (.frz o2 (.tup [.ref MA, .ref q]))
  have w1 : (upd (upd H11 T1' (.frz o1 (.tup [.ref p, .ref FA]))) T2' (.frz o2 (.tup [.ref MA, .ref q]))) T1' = some (.frz o1 (.tup [.ref p, .ref FA])) := a2 _ _ upd_same
  have w2 : (upd (upd H11 T1' (.frz o1 (.tup [.ref p, .ref FA]))) T2' (.frz o2 (.tup [.ref MA, .ref q]))) T2' = some (.frz o2 (.tup [.ref MA, .ref q])) := upd_same
  have a12 := a1.trans a2
  generalize upd (upd H11 T1' (.frz o1 (.tup [.ref p, .ref FA]))) T2' (.frz o2 (.tup [.ref MA, .ref q])) = H12 at a12 w1 w2
  have q12 := a12 _ _ (s0M _ _ hq)
  refine ⟨_, rfl, _, rfl, q, _, rfl, SqL.of q12, fun RV hRV => ⟨by show 2 ≤ sizeLine; decide, fun T3' o3 hT3 _ => ⟨by show 3 ≤ sizeLine; decide, fun L2' hL2 => ⟨L2', rfl, ⟨_, SqL.of upd_same⟩, ?_⟩⟩⟩⟩
  have a3 := new_same hRV (.lst (qs.map V.ref).reverse)
  have a4 := new_same hT3 (.frz o3 (.tup [.ref p, .ref RV]))
  have a5 := new_same hL2 (.lst [V.ref T1', V.ref T2', V.ref T3'])
  have a35 := (a3.trans a4).trans a5
  have u3 : (upd (upd (upd H12 RV (.lst (qs.map V.ref).reverse)) T3' (.frz o3 (.tup [.ref p, .ref RV]))) L2' (.lst [V.ref T1', V.ref T2', V.ref T3'])) RV = some (.lst (qs.reverse.map V.ref)) := by
    rw [List.map_reverse]
    exact a5 _ _ (a4 _ _ upd_same)
  have w3 : (upd (upd (upd H12 RV (.lst (qs.map V.ref).reverse)) T3' (.frz o3 (.tup [.ref p, .ref RV]))) L2' (.lst [V.ref T1', V.ref T2', V.ref T3'])) T3' = some (.frz o3 (.tup [.ref p, .ref RV])) := a5 _ _ upd_same
  have w4 : (upd (upd (upd H12 RV (.lst (qs.map V.ref).reverse)) T3' (.frz o3 (.tup [.ref p, .ref RV]))) L2' (.lst [V.ref T1', V.ref T2', V.ref T3'])) L2' = some (.lst [V.ref T1', V.ref T2', V.ref T3']) := upd_same
  have w1' := a35 _ _ w1
  have w2' := a35 _ _ w2
  have aAll := a12.trans a35
  have s0A := s0M.trans aAll
  have fFA := aAll _ _ fF'
  have mMA := aAll _ _ mM
  have tMA := tM.same aAll
  have st9 := st8.same aAll
  generalize upd (upd (upd H12 RV (.lst (qs.map V.ref).reverse)) T3' (.frz o3 (.tup [.ref p, .ref RV]))) L2' (.lst [V.ref T1', V.ref T2', V.ref T3']) = HA at u3 w3 w4 w1' w2' s0A fFA mMA tMA st9
  clear w1 w2 a1 a2 a3 a4 a5 a35 a12 aAll
  have hpA := hp'.same s0A
  have hqA := hq'.same s0A
  have G1 : Good t rs.dropLast := good_sub G (fun r hr => List.dropLast_subset _ hr) (by rw [List.length_dropLast]; omega)
  have G3 : Good t rs.reverse := good_sub G (fun r hr => List.mem_reverse.mp hr) (by rw [List.length_reverse]; exact G.ln)
  have G2 : Good (lastRev t0 e) rs := good_last (by rw [← et]; exact G)
  have rows : ∀ (i : Nat) (u : V), [V.ref T1', V.ref T2', V.ref T3'][i]? = some u → ∃ (T a b : Addr) (psi : List Addr) (kvi : List (Key × V)) (ti : List (Str × List Str)) (qsi : List Addr) (rsi : List (List (Str × Str))), u = .ref T ∧ SqT K HA T [.ref a, .ref b] ∧ TabIn K HA a psi kvi ti ∧ BansIn K HA b qsi rsi ∧ Good ti rsi ∧ HA a = some (.lst (psi.map V.ref)) := fun i u h => by
    match i, h with
    | 0, e' =>
      cases e'
      refine ⟨T1', p, FA, ps, kvs, t, qs.dropLast, rs.dropLast, rfl, .inl (.inr ⟨o1, w1'⟩), hpA, ⟨.inl (SqL.of fFA), ?_⟩, G1, s0A _ _ hp⟩
      have := prd_take (qs.length - 1) hqA.rw_
      rw [List.dropLast_eq_take, List.dropLast_eq_take, ← prd_len hR]
      exact this
    | 1, e' =>
      cases e'
      exact ⟨T2', MA, q, _, _, _, qs, rs, rfl, .inl (.inr ⟨o2, w2'⟩), tMA, hqA, G2, mMA⟩
    | 2, e' =>
      cases e'
      exact ⟨T3', p, RV, ps, kvs, t, qs.reverse, rs.reverse, rfl, .inl (.inr ⟨o3, w3⟩), hpA, ⟨.inl (SqL.of u3), prd_rev hqA.rw_⟩, G3, s0A _ _ hp⟩
  refine for_list (K := K) (a := L2') (xs := [V.ref T1', V.ref T2', V.ref T3']) (fun i σ H' => ∃ f7 f10 f11 f12 : Option V, σ = [some v0, some (.ref p), some (.ref q), some (.ref x), some (.ref D), none, f6', f7, some (.ref FA), some (.ref MA), f10, f11, f12, none] ∧ Same HA H') ⟨_, none, none, none, rfl, Same.refl HA⟩ (fun i σ H' _ ⟨_, _, _, _, _, z⟩ => SqL.of (z _ _ w4)) ?_ ?_
  · rintro i u σ HB hu0 ⟨f7, f10, f11, f12, rfl, sB⟩
    obtain ⟨TT, a, b, psi, kvi, ti, qsi, rsi, rfl, i1, i2, i3, Gi, i4⟩ := rows i u hu0
    refine .inl ⟨TT, _, rfl, seqT_same sB i1, rfl, .ref a, _, rfl, .ref b, [], rfl, rfl, ?_⟩
    dsimp only
    refine seq_cut (fun σ HC => σ = [some v0, some (.ref p), some (.ref q), some (.ref x), some (.ref D), none, f6', f7, some (.ref FA), some (.ref MA), some (.ref a), some (.ref b), some (.bl (decide (ti = t) && decide (once (rsi.map (bySeq ti)) = once (rs.map (bySeq t))))), none] ∧ Same HA HC) ?_ (fun join => ?_)
    · rintro σ HC ⟨rfl, sC⟩
      have tC := i2.same sC
      have bC := i3.same sC
      obtain ⟨dFi, dRi, iFi, iRi, handi⟩ := hand_of tC bC
      refine ⟨_, rfl, _, rfl, fun x3 dx3 hx3 hdx3 hne3 => init_good Gi handi hx3 hdx3 hne3 fun pf3 pr3 HD sD f4 f5 f6 => ⟨rfl, ?_⟩⟩
      have st3 := good_stands Gi f4 f5 f6
      refine ⟨_, rfl, eq_forms T st3 (st9.same (sC.trans sD)) ?_⟩
      dsimp only
      generalize (decide (ti = t) && decide (once (rsi.map (bySeq ti)) = once (rs.map (bySeq t)))) = bb
      have fin : ∀ Dn : Ends, Dn.nx = (fun σ H' => ∃ f7 f10 f11 f12 : Option V, σ = [some v0, some (.ref p), some (.ref q), some (.ref x), some (.ref D), none, f6', f7, some (.ref FA), some (.ref MA), f10, f11, f12, none] ∧ Same HA H') → Dn.nx [some v0, some (.ref p), some (.ref q), some (.ref x), some (.ref D), none, f6', some (.bl bb), some (.ref FA), some (.ref MA), some (.ref a), some (.ref b), some (.bl bb), none] HD := fun Dn eDn => by
        rw [eDn]
        exact ⟨_, _, _, _, rfl, sC.trans sD⟩
      refine ⟨_, rfl, _, _, rfl, rfl, _, rfl, ?_⟩
      cases bb with
      | true =>
        refine iteNS (by decide) (iteF ⟨_, rfl, _, rfl, rfl, _, rfl, iteNS (by decide) ⟨_, _, _, _, rfl, sC.trans sD⟩⟩)
      | false =>
        refine iteT' (by decide) ⟨_, rfl, _, _, rfl, rfl, _, rfl, iteNS (by decide) ⟨_, rfl, _, rfl, rfl, _, rfl, iteNS (by decide) ⟨_, _, _, _, rfl, sC.trans sD⟩⟩⟩
    · have hpB := hpA.same sB
      have hqB := hqA.same sB
      obtain ⟨k1, k2, k3, k4, k5⟩ := good_right G
      obtain ⟨j1, j2, j3, j4, j5⟩ := good_right Gi
      refine ⟨_, rfl, _, rfl, p, q, ps, kvs, t, qs, rs, rfl, hpB.at_, hpB.rw_, hqB.at_, bansAt hqB.rw_, k1, k4, k5, fun z1 HC s1C r1 => ?_⟩
      have i2' := i2.same (sB.trans s1C)
      have i3' := i3.same (sB.trans s1C)
      refine ⟨_, rfl, _, rfl, a, b, psi, kvi, ti, qsi, rsi, rfl, i2'.at_, i2'.rw_, i3'.at_, bansAt i3'.rw_, j1, j4, j5, fun z2 HD s2D r2 => ?_⟩
      have sBD := (sB.trans s1C).trans s2D
      refine ⟨rulesD _, rulesD _, rules_dp (rulesAt_same s2D r1), rules_dp r2, rulesD_shaped (good_rstr G), rulesD_shaped (good_rstr Gi), _, rfl, ?_⟩
      rw [eqv_rulesD]
      by_cases ho : once (rs.map (bySeq t)) = once (rsi.map (bySeq ti))
      · refine iteDT ho ⟨_, rfl, a, _, rfl, (i2.same sBD).at_, fun l1 h1 => ⟨_, rfl, p, _, rfl, ((hpA.same sBD).at_).elim (fun z => .inl ((new_same h1 _).seq z)) (fun z => .inr (seqT_same (new_same h1 _) z)), fun l2 h2 => ?_⟩⟩
        have n1 := new_same h1 (.lst (psi.map V.ref))
        have n2 := new_same h2 (.lst (ps.map V.ref))
        have n12 := (sBD.trans n1).trans n2
        refine ⟨.list (ti.map entryD), .list (t.map entryD), .lst (SqL.of (n2 _ _ upd_same)) (tabR_dps (i2.rw_.same n12)), .lst (SqL.of upd_same) (tabR_dps (hpA.rw_.same n12)), tabL_shaped (good_right Gi).2.2.1, tabL_shaped (good_right G).2.2.1, ?_⟩
        rw [eqv_tabL]
        refine join _ _ ⟨?_, n12⟩
        rw [decide_eq_true ho.symm, Bool.and_true]
        rfl
      · refine iteDF ho (join _ _ ⟨?_, sBD⟩)
        have e0 : decide (once (rsi.map (bySeq ti)) = once (rs.map (bySeq t))) = false := decide_eq_false (fun z => ho z.symm)
        rw [e0, Bool.and_false]
        rfl
  rintro σ HB ⟨f7, f10, f11, f12, rfl, sB⟩
  have s0B := s0A.trans sB
  have stB := st9.same sB
  obtain ⟨⟨pfB, prB, ⟨dB, fB⟩, tB, rB⟩, _, _⟩ := id stB
  dsimp only
  refine ⟨_, rfl, p, _, rfl, .inl ⟨SqL.of (s0B _ _ hp), fun TA oA hTA hoA => ?_⟩⟩
  have c1 := new_same hTA (.frz oA (.tup (ps.map V.ref)))
  refine ⟨_, rfl, q, _, rfl, .inl ⟨SqL.of (c1 _ _ (s0B _ _ hq)), fun TB oB hTB hoB => ⟨by show 2 ≤ sizeLine; decide, fun TC oC hTC hoC => ?_⟩⟩⟩
  have c2 := new_same hTB (.frz oB (.tup (qs.map V.ref)))
  have c3 := new_same hTC (.frz oC (.tup [.ref TA, .ref TB]))
  have c13 := (c1.trans c2).trans c3
  have dA : Dp K (upd (upd (upd HB TA (.frz oA (.tup (ps.map V.ref)))) TB (.frz oB (.tup (qs.map V.ref)))) TC (.frz oC (.tup [.ref TA, .ref TB]))) (.ref TC) (.tuple [.tuple (t.map entryD), .tuple (rs.map ruleD)]) := by
    refine .tup (.inl (.inr ⟨oC, upd_same⟩)) (.cons (.tup (.inl (.inr ⟨oA, c3 _ _ (c2 _ _ upd_same)⟩)) (tabR_dps (hT.same (s0B.trans c13)))) (.cons (.tup (.inl (.inr ⟨oB, c3 _ _ upd_same⟩)) (rules_dps (rules_same (s0B.trans c13) hR))) .nil))
  generalize upd (upd (upd HB TA (.frz oA (.tup (ps.map V.ref)))) TB (.frz oB (.tup (qs.map V.ref)))) TC (.frz oC (.tup [.ref TA, .ref TB])) = HC at c13 dA
  have fC := c13 _ _ fB
  refine ⟨_, rfl, x, dB, _, rfl, fC, nf_, x, pfB, prB, rfl, ⟨dB, fC⟩, by show 6 ≤ sizeLine; decide, fun L3 hL3 => ⟨L3, rfl, ⟨_, SqL.of upd_same⟩, ?_⟩⟩
  have c4 := new_same hL3 (.lst [V.ref TC, V.non, V.int 5, V.str "", V.ref (if false = true then prB else pfB), V.bl true])
  have hL4 : upd HC L3 (.lst [V.ref TC, V.non, V.int 5, V.str "", V.ref (if false = true then prB else pfB), V.bl true]) L3 = some (.lst [V.ref TC, V.non, V.int 5, V.str "", V.ref (if false = true then prB else pfB), V.bl true]) := upd_same
  have things : ∀ (i : Nat) (u : V), [V.ref TC, V.non, V.int 5, V.str "", V.ref (if false = true then prB else pfB), V.bl true][i]? = some u → ∃ d, Dp K (upd HC L3 (.lst [V.ref TC, V.non, V.int 5, V.str "", V.ref (if false = true then prB else pfB), V.bl true])) u d := fun i u h => by
    match i, h with
    | 0, e' => cases e'; exact ⟨_, dp_same c4 dA⟩
    | 1, e' => cases e'; exact ⟨_, .non⟩
    | 2, e' => cases e'; exact ⟨_, .int 5⟩
    | 3, e' => cases e'; exact ⟨_, .str ""⟩
    | 4, e' => cases e'; exact ⟨_, dp_same (c13.trans c4) (tab_dp tB)⟩
    | 5, e' => cases e'; exact ⟨_, .bl true⟩
  have stD := stB.same (c13.trans c4)
  have s0D := s0B.trans (c13.trans c4)
  show ∃ W : Nat → Nat → L2.St → Hp → Prop, _
  generalize upd HC L3 (.lst [V.ref TC, V.non, V.int 5, V.str "", V.ref (if false = true then prB else pfB), V.bl true]) = HD at c4 hL4 things stD s0D
  refine for_list (K := K) (a := L3) (xs := [V.ref TC, V.non, V.int 5, V.str "", V.ref (if false = true then prB else pfB), V.bl true]) (fun i σ H' => ∃ f7 f13 : Option V, σ = [some v0, some (.ref p), some (.ref q), some (.ref x), some (.ref D), none, f6', f7, some (.ref FA), some (.ref MA), f10, f11, f12, f13] ∧ Same HD H') ⟨_, none, rfl, Same.refl HD⟩ (fun i σ H' _ ⟨_, _, _, z⟩ => SqL.of (z _ _ hL4)) ?_ ?_
  · rintro i u σ HE hu0 ⟨f7, f13, rfl, sE⟩
    obtain ⟨d, hd⟩ := things i u hu0
    refine ⟨_, rfl, _, rfl, eq_data N (stD.same sE) (dp_same sE hd) ?_⟩
    exact ⟨_, rfl, _, _, rfl, rfl, _, rfl, iteNS (by decide) ⟨_, _, rfl, sE⟩⟩
  · rintro σ HE ⟨f7, f13, rfl, sE⟩
    exact k _ (s0D.trans sE)
end
end Q
set_option Elab.async false
set_option linter.all false
set_option maxRecDepth 100000
set_option maxHeartbeats 4000000
/-! ### data beside what changes -/
namespace Q
open PySem L2 XD
/-- the heap without some addresses -/
def rmL (S : List Addr) (H : Hp) : Hp := fun b => if b ∈ S then none else H b
def Alive (S : List Addr) (H : Hp) : Prop := ∀ b ∈ S, H b ≠ none
theorem rm_at {S : List Addr} {H : Hp} {b : Addr} (h : b ∉ S) : rmL S H b = H b := if_neg h
theorem rm_of {S : List Addr} {H : Hp} {b : Addr} {o : HO} (h : rmL S H b = some o) : b ∉ S ∧ H b = some o := by
  unfold rmL at h
  by_cases e : b ∈ S
  · rw [if_pos e] at h
    cases h
  · rw [if_neg e] at h
    exact ⟨e, h⟩
theorem rm_le {S : List Addr} {H : Hp} : Same (rmL S H) H := fun b o e => (rm_of e).2
theorem rm_same {S : List Addr} {H H' : Hp} (s : Same H H') : Same (rmL S H) (rmL S H') := fun b o e => by
  rw [rm_at (rm_of e).1]
  exact s b o (rm_of e).2
theorem rm_kept {S : List Addr} {a : Addr} {H H' : Hp} (ha : a ∈ S) (s : Kept a H H') : Same (rmL S H) (rmL S H') := fun b o e => by
  rw [rm_at (rm_of e).1]
  exact s b o (fun z => (rm_of e).1 (z ▸ ha)) (rm_of e).2
theorem rm_sub {S S' : List Addr} {H : Hp} (h : ∀ b ∈ S, b ∈ S') : Same (rmL S' H) (rmL S H) := fun b o e => by
  rw [rm_at (fun z => (rm_of e).1 (h b z))]
  exact (rm_of e).2
theorem rm_put {S : List Addr} {D : Addr} {H : Hp} {o : HO} (hD : D ∈ S) : rmL S (upd H D o) = rmL S H := by
  funext b
  unfold rmL
  by_cases e : b ∈ S
  · rw [if_pos e, if_pos e]
  · have nb : b ≠ D := fun z => e (by rw [z]; exact hD)
    rw [if_neg e, if_neg e, upd_ne nb]
theorem rm_new {S : List Addr} {p : Addr} {H : Hp} {o : HO} (h : Alive S H) (hp : H p = none) : rmL S (upd H p o) p = some o := by
  rw [rm_at (fun z => h p z hp), upd_same]
theorem Alive.same {S : List Addr} {H H' : Hp} (h : Alive S H) (s : Same H H') : Alive S H' := fun b hb z => by
  cases e : H b with
  | none => exact h b hb e
  | some o =>
    rw [s b o e] at z
    cases z
theorem Alive.put {S : List Addr} {D : Addr} {H : Hp} {o : HO} (h : Alive S H) : Alive S (upd H D o) := fun b hb z => by
  by_cases e : b = D
  · rw [e, upd_same] at z
    cases z
  · rw [upd_ne e] at z
    exact h b hb z
/-- from a heap in which S stood not yet -/
theorem same_rm {S : List Addr} {H H' : Hp} (s : Same H H') (h : ∀ b ∈ S, H b = none) : Same H (rmL S H') := fun b o e => by
  rw [rm_at (fun z => by rw [h b z] at e; cases e)]
  exact s b o e
/-- v is a tuple of such data -/
def TD (K : PySem.W.Frag) (R : Hp) (v : V) (ds : List PyData) : Prop := ∃ (p : Addr) (xs : List V), v = .ref p ∧ SqT K R p xs ∧ DpAll K R xs ds
theorem TD.dp {K : PySem.W.Frag} {R : Hp} {v : V} {ds : List PyData} (h : TD K R v ds) : Dp K R v (.tuple ds) := by
  obtain ⟨p, xs, rfl, h1, h2⟩ := h
  exact .tup h1 h2
theorem TD.same {K : PySem.W.Frag} {R R' : Hp} {v : V} {ds : List PyData} (s : Same R R') (h : TD K R v ds) : TD K R' v ds := by
  obtain ⟨p, xs, e, h1, h2⟩ := h
  exact ⟨p, xs, e, seqT_same s h1, dps_same s h2⟩
theorem TD.of {K : PySem.W.Frag} {R : Hp} {v : V} {ds : List PyData} (h : Dp K R v (.tuple ds)) : TD K R v ds := by
  cases h with
  | tup a b => exact ⟨_, _, rfl, a, b⟩
theorem dps_app {K : PySem.W.Frag} {H : Hp} : ∀ {xs ys : List V} {ds es : List PyData}, DpAll K H xs ds → DpAll K H ys es → DpAll K H (xs ++ ys) (ds ++ es)
  | _, _, _, _, .nil, h => h
  | _, _, _, _, .cons a b, h => .cons a (dps_app b h)
theorem dps_take {K : PySem.W.Frag} {H : Hp} : ∀ {xs : List V} {ds : List PyData} (k : Nat), DpAll K H xs ds → DpAll K H (xs.take k) (ds.take k)
  | _, _, 0, _ => .nil
  | _, _, k + 1, .nil => .nil
  | _, _, k + 1, .cons a b => .cons a (dps_take k b)
theorem dps_drop {K : PySem.W.Frag} {H : Hp} : ∀ {xs : List V} {ds : List PyData} (k : Nat), DpAll K H xs ds → DpAll K H (xs.drop k) (ds.drop k)
  | _, _, 0, h => h
  | _, _, k + 1, .nil => .nil
  | _, _, k + 1, .cons a b => dps_drop k b
/-- t[:k], t[k:] -/
theorem to_td {K : PySem.W.Frag} {S : List Addr} {H : Hp} {v : V} {ds : List PyData} {k : Nat} {Q : VK} (A : Alive S H) (h : TD K (rmL S H) v ds) (kk : ∀ u H', Same H H' → TD K (rmL S H') u (ds.take k) → Q u H') : rSlA K v none (some (k : Int)) H Q := by
  obtain ⟨p, xs, rfl, h1, h2⟩ := h
  have hl := dps_len h2
  refine ⟨p, xs, rfl, seqT_same rm_le h1, fun hw => ?_, fun _ q hq => ?_⟩
  · refine kk _ H (Same.refl H) ⟨p, xs, rfl, h1, ?_⟩
    have : ds.take k = ds := List.take_of_length_le (by
      have h3 := hw.2
      rw [HT.sIx_nat] at h3
      omega)
    rw [this]
    exact h2
  · have s := new_same hq (.tup (cutV xs none (some (k : Int))))
    refine kk _ _ s ⟨q, xs.take k, rfl, .inl (.inl ?_), dps_same (rm_same s) (dps_take k h2)⟩
    rw [rm_new A hq, cutV_to]
theorem from_td {K : PySem.W.Frag} {S : List Addr} {H : Hp} {v : V} {ds : List PyData} {k : Nat} {Q : VK} (A : Alive S H) (h : TD K (rmL S H) v ds) (kk : ∀ u H', Same H H' → TD K (rmL S H') u (ds.drop k) → Q u H') : rSlA K v (some (k : Int)) none H Q := by
  obtain ⟨p, xs, rfl, h1, h2⟩ := h
  have hl := dps_len h2
  refine ⟨p, xs, rfl, seqT_same rm_le h1, fun hw => ?_, fun _ q hq => ?_⟩
  · refine kk _ H (Same.refl H) ⟨p, xs, rfl, h1, ?_⟩
    have h3 := hw.1
    rw [HT.sIx_nat] at h3
    by_cases z : k = 0
    · rw [z]
      exact h2
    · have : xs.length = 0 := by omega
      have e1 : xs = [] := List.eq_nil_of_length_eq_zero this
      have e2 : ds = [] := List.eq_nil_of_length_eq_zero (by omega)
      rw [e1, e2, List.drop_nil]
      exact .nil
  · have s := new_same hq (.tup (cutV xs (some (k : Int)) none))
    refine kk _ _ s ⟨q, xs.drop k, rfl, .inl (.inl ?_), dps_same (rm_same s) (dps_drop k h2)⟩
    rw [rm_new A hq, cutV_from]
/-- t + u -/
theorem cat_td {K : PySem.W.Frag} {S : List Addr} {H : Hp} {v u : V} {ds es : List PyData} {Q : VK} (A : Alive S H) (h : TD K (rmL S H) v ds) (h' : TD K (rmL S H) u es) (hl : ds.length + es.length ≤ 1000) (kk : ∀ u H', Same H H' → TD K (rmL S H') u (ds ++ es) → Q u H') : rCatA K v u H Q := by
  obtain ⟨p, xs, rfl, h1, h2⟩ := h
  obtain ⟨q, ys, rfl, h3, h4⟩ := h'
  have l1 := dps_len h2
  have l2 := dps_len h4
  refine ⟨p, q, xs, ys, rfl, rfl, seqT_same rm_le h1, seqT_same rm_le h3, le_line (by omega), fun e => ?_, fun e1 e2 => ?_, fun e1 e2 z hz => ?_⟩
  · refine kk _ H (Same.refl H) ⟨q, ys, rfl, h3, ?_⟩
    have : ds = [] := List.eq_nil_of_length_eq_zero (by rw [← l1, e] <;> rfl)
    rw [this]
    exact h4
  · refine kk _ H (Same.refl H) ⟨p, xs, rfl, h1, ?_⟩
    have : es = [] := List.eq_nil_of_length_eq_zero (by rw [← l2, e2] <;> rfl)
    rw [this, List.append_nil]
    exact h2
  · have s := new_same hz (.tup (xs ++ ys))
    exact kk _ _ s ⟨z, _, rfl, .inl (.inl (rm_new A hz)), dps_same (rm_same s) (dps_app h2 h4)⟩
/-- a written tuple -/
theorem tup_td {K : PySem.W.Frag} {S : List Addr} {H : Hp} {p : Addr} {o : Obj} {xs : List V} {ds : List PyData} (A : Alive S H) (hp : H p = none) (h : DpAll K (rmL S H) xs ds) : TD K (rmL S (upd H p (.frz o (.tup xs)))) (.ref p) ds :=
  ⟨p, xs, rfl, .inl (.inr ⟨o, rm_new A hp⟩), dps_same (rm_same (new_same hp _)) h⟩
theorem lst_dp {K : PySem.W.Frag} {S : List Addr} {H : Hp} {p : Addr} {xs : List V} {ds : List PyData} (A : Alive S H) (hp : H p = none) (h : DpAll K (rmL S H) xs ds) : Dp K (rmL S (upd H p (.lst xs))) (.ref p) (.list ds) :=
  .lst (SqL.of (rm_new A hp)) (dps_same (rm_same (new_same hp _)) h)
/-- a list of data with a property, beside S -/
structure PL (K : PySem.W.Frag) (S : List Addr) (P : PyData → Prop) (n : Nat) (D : Addr) (H : Hp) : Prop where
  ex : ∃ vs, H D = some (.lst vs) ∧ vs.length ≤ n ∧ ∀ v ∈ vs, ∃ d, Dp K (rmL S H) v d ∧ P d
theorem PL.same {K : PySem.W.Frag} {S : List Addr} {P : PyData → Prop} {n : Nat} {D : Addr} {H H' : Hp} (s : Same H H') (h : PL K S P n D H) : PL K S P n D H' := by
  obtain ⟨vs, h1, h2, h3⟩ := h.ex
  exact ⟨vs, s _ _ h1, h2, fun v hv => by obtain ⟨d, a, b⟩ := h3 v hv; exact ⟨d, dp_same (rm_same s) a, b⟩⟩
theorem PL.kept {K : PySem.W.Frag} {S : List Addr} {P : PyData → Prop} {n : Nat} {D a : Addr} {H H' : Hp} (ha : a ∈ S) (hD : D ≠ a) (s : Kept a H H') (h : PL K S P n D H) : PL K S P n D H' := by
  obtain ⟨vs, h1, h2, h3⟩ := h.ex
  exact ⟨vs, s _ _ hD h1, h2, fun v hv => by obtain ⟨d, x, b⟩ := h3 v hv; exact ⟨d, dp_same (rm_kept ha s) x, b⟩⟩
theorem PL.sub {K : PySem.W.Frag} {S S' : List Addr} {P : PyData → Prop} {n : Nat} {D : Addr} {H : Hp} (hs : ∀ b ∈ S, b ∈ S') (h : PL K S' P n D H) : PL K S P n D H := by
  obtain ⟨vs, h1, h2, h3⟩ := h.ex
  exact ⟨vs, h1, h2, fun v hv => by obtain ⟨d, a, b⟩ := h3 v hv; exact ⟨d, dp_same (rm_sub hs) a, b⟩⟩
theorem PL.imp {K : PySem.W.Frag} {S : List Addr} {P P' : PyData → Prop} {n m : Nat} {D : Addr} {H : Hp} (h : PL K S P n D H) (hp : ∀ d, P d → P' d) (hn : n ≤ m) : PL K S P' m D H := by
  obtain ⟨vs, h1, h2, h3⟩ := h.ex
  exact ⟨vs, h1, Nat.le_trans h2 hn, fun v hv => by obtain ⟨d, a, b⟩ := h3 v hv; exact ⟨d, a, hp d b⟩⟩
/-- a written list -/
theorem PL.new {K : PySem.W.Frag} {S : List Addr} {P : PyData → Prop} {D : Addr} {H : Hp} {vs : List V} {ds : List PyData} (hD : H D = none) (h : DpAll K (rmL S H) vs ds) (hp : ∀ d ∈ ds, P d) : PL K S P vs.length D (upd H D (.lst vs)) := by
  refine ⟨vs, upd_same, Nat.le_refl _, fun v hv => ?_⟩
  obtain ⟨i, hi, rfl⟩ := List.mem_iff_getElem.mp hv
  obtain ⟨d, h1, h2⟩ := dps_get h (List.getElem?_eq_getElem hi)
  exact ⟨d, dp_same (rm_same (new_same hD _)) h2, hp d (List.mem_of_getElem? h1)⟩
/-- the sum of two lists -/
theorem PL.cat {K : PySem.W.Frag} {S : List Addr} {P : PyData → Prop} {n m : Nat} {D E : Addr} {H : Hp} {Q : VK} (h : PL K S P n D H) (g : PL K S P m E H) (hl : n + m ≤ 1000) (k : ∀ z H', Same H H' → H z = none → PL K S P (n + m) z H' → Q (.ref z) H') : rCat (.ref D) (.ref E) H Q := by
  obtain ⟨vs, h1, h2, h3⟩ := h.ex
  obtain ⟨us, g1, g2, g3⟩ := g.ex
  refine ⟨D, E, vs, us, rfl, rfl, h1, g1, le_line (by omega), fun z hz => k z _ (new_same hz _) hz ⟨vs ++ us, upd_same, by rw [List.length_append]; omega, fun v hv => ?_⟩⟩
  have s := new_same hz (.lst (vs ++ us))
  rcases List.mem_append.mp hv with hv | hv
  · obtain ⟨d, a, b⟩ := h3 v hv
    exact ⟨d, dp_same (rm_same s) a, b⟩
  · obtain ⟨d, a, b⟩ := g3 v hv
    exact ⟨d, dp_same (rm_same s) a, b⟩
/-- .. which holds something -/
def NE (D : Addr) (H : Hp) : Prop := ∃ us : List V, H D = some (.lst us) ∧ 0 < us.length
theorem PL.catN {K : PySem.W.Frag} {S : List Addr} {P : PyData → Prop} {n m : Nat} {D E : Addr} {H : Hp} {us : List V} {Q : VK} (h : PL K S P n D H) (g : PL K S P m E H) (ge : H E = some (.lst us)) (gn : 0 < us.length) (hl : n + m ≤ 1000)
    (k : ∀ z H', Same H H' → H z = none → PL K S P (n + m) z H' → NE z H' → Q (.ref z) H') : rCat (.ref D) (.ref E) H Q := by
  obtain ⟨vs, h1, h2, h3⟩ := h.ex
  obtain ⟨us', g1, g2, g3⟩ := g.ex
  rw [ge] at g1
  cases g1
  refine ⟨D, E, vs, us, rfl, rfl, h1, ge, le_line (by omega), fun z hz => k z _ (new_same hz _) hz ⟨vs ++ us, upd_same, by rw [List.length_append]; omega, fun v hv => ?_⟩ ⟨_, upd_same, by rw [List.length_append]; omega⟩⟩
  have s := new_same hz (.lst (vs ++ us))
  rcases List.mem_append.mp hv with hv | hv
  · obtain ⟨d, a, b⟩ := h3 v hv
    exact ⟨d, dp_same (rm_same s) a, b⟩
  · obtain ⟨d, a, b⟩ := g3 v hv
    exact ⟨d, dp_same (rm_same s) a, b⟩
/-- one more, at the end of a list that is itself in S -/
theorem PL.put {K : PySem.W.Frag} {S : List Addr} {P : PyData → Prop} {n : Nat} {D : Addr} {H : Hp} {vs : List V} {v : V} {d : PyData} (hD : D ∈ S) (h : PL K S P n D H) (e : H D = some (.lst vs)) (hv : Dp K (rmL S H) v d) (hp : P d) : PL K S P (n + 1) D (upd H D (.lst (vs ++ [v]))) := by
  obtain ⟨us, h1, h2, h3⟩ := h.ex
  rw [e] at h1
  cases h1
  refine ⟨vs ++ [v], upd_same, by rw [List.length_append, List.length_singleton]; omega, fun u hu => ?_⟩
  rw [rm_put hD]
  rcases List.mem_append.mp hu with hu | hu
  · exact h3 u hu
  · rw [List.mem_singleton.mp hu]
    exact ⟨d, hv, hp⟩
/-! words turned to what is none -/
theorem az_iff {c : Nat} (h : az c = true) : 97 ≤ c ∧ c ≤ 122 := by
  unfold az at h
  rw [Bool.and_eq_true] at h
  have h1 : ¬ ([c] : List Nat) < ("a" : Str).cps.toList := by simpa using h.1
  have h2 : ¬ (("z" : Str).cps.toList < [c]) := by simpa using h.2
  refine ⟨Nat.le_of_not_lt fun z => h1 ?_, Nat.le_of_not_lt fun z => h2 ?_⟩
  · show ([c] : List Nat) < [97]
    exact List.cons_lt_cons_iff.mpr (.inl z)
  · show ([122] : List Nat) < [c]
    exact List.cons_lt_cons_iff.mpr (.inl z)
theorem not_word_of {s : Str} {c : Nat} (h : c ∈ tlx s) (hc : az c = false) : word s = false := by
  cases e : word s with
  | false => rfl
  | true =>
    have := List.all_eq_true.mp (word_iff.mp e).2.2 c h
    rw [hc] at this
    cases this
theorem not_word_long {s : Str} (h : 8 < s.length) : word s = false := by
  cases e : word s with
  | false => rfl
  | true =>
    have := word_len e
    omega
theorem upper_not {s : Str} (h : word s = true) : word (Txt.upper s) = false ∧ (Txt.upper s).length ≤ 24 := by
  obtain ⟨h1, h8, ha⟩ := word_iff.mp h
  refine ⟨?_, ?_⟩
  · obtain ⟨c, r, er⟩ : ∃ c r, tlx s = c :: r := by
      cases e : tlx s with
      | nil =>
        rw [e] at h1
        cases h1
      | cons c r => exact ⟨c, r, rfl⟩
    have hc : az c = true := List.all_eq_true.mp ha c (by rw [er]; exact List.mem_cons_self)
    obtain ⟨c1, c2⟩ := az_iff hc
    have es : s = (⟨#[c]⟩ : Str) ++ ⟨r.toArray⟩ := tlx_inj (by rw [tlx_app, er]; rfl)
    rw [es, PySem.W.KOpn.upper_app, PySem.W.KOpn.upper_one (by omega)]
    refine not_word_of (c := if 97 ≤ c ∧ c ≤ 122 then c - 32 else c) ?_ ?_
    · rw [tlx_app, tlx_one]
      exact List.mem_append_left _ (List.mem_singleton.mpr rfl)
    · rw [if_pos ⟨c1, c2⟩]
      cases e : az (c - 32) with
      | false => rfl
      | true =>
        have := az_iff e
        omega
  · have := PyProof.Rows.len_upper s
    have := word_len h
    omega
end Q
set_option Elab.async false
set_option linter.all false
set_option maxRecDepth 100000
set_option maxHeartbeats 4000000
/-! ### comprehensions that make lists of data; what wrong fields are -/
namespace Q
open PySem L2 XD
theorem same_in {S : List Addr} {D : Addr} {H H' : Hp} (hD : H D = none) (s : Same H H') : Same (rmL S H) (rmL (D :: S) H') := fun b o e => by
  obtain ⟨h1, h2⟩ := rm_of e
  rw [rm_at (fun z => by
    rcases List.mem_cons.mp z with z | z
    · rw [z, hD] at h2
      cases h2
    · exact h1 z)]
  exact s b o h2
theorem lc_pl {K : PySem.W.Frag} {S : List Addr} {P P' : PyData → Prop} {n i : Nat} {p : Addr} {t0 te : TE} {vs : List Nat} {σ : L2.St} {H : Hp} {Q : VK} (A : Alive S H) (ht : ∀ Q' : VK, Q' (.ref p) H → t0 σ H Q') (hp : PL K S P n p H) (hn : n ≤ 900)
    (hw : ∀ x, wipe ((wipe σ vs).set i (some x)) vs = wipe σ vs)
    (hs : ∀ (D : Addr) (x : V) (d : PyData) (H' : Hp) (Qc : VK), Alive (D :: S) H' → Same H H' → Same (rmL S H) (rmL (D :: S) H') → Dp K (rmL (D :: S) H') x d → P d → (∀ y H4 e, Same H' H4 → Dp K (rmL (D :: S) H4) y e → P' e → Qc y H4) → te ((wipe σ vs).set i (some x)) H' Qc)
    (hd : ∀ D H', H D = none → Same H H' → PL K (D :: S) P' n D H' → Q (.ref D) H') : tLc (iRow K t0) (gName i) tYes te vs σ H Q := by
  obtain ⟨us, e1, e2, e3⟩ := hp.ex
  refine lc_row (ys := us) (fun D j H' => ∃ zs, H' D = some (.lst zs) ∧ zs.length = j ∧ (∀ v ∈ zs, ∃ d, Dp K (rmL (D :: S) H') v d ∧ P' d) ∧ Same H H') ht (.inl (SqL.of e1)) (fun D hD => ⟨[], upd_same, rfl, fun v h => absurd h List.not_mem_nil, new_same hD _⟩) (fun D j H' hD hP => by obtain ⟨_, _, _, _, z⟩ := hP; exact z) (fun D j x H' hD hj hP hx => ?_) (fun D H' hD hP => ?_)
  · obtain ⟨zs, g1, g2, g3, g4⟩ := hP
    obtain ⟨d, hd1, hd2⟩ := e3 x (List.mem_of_getElem? hx)
    have AD : Alive (D :: S) H' := fun b hb => by
      rcases List.mem_cons.mp hb with rfl | hb
      · rw [g1]
        exact fun z => by cases z
      · exact A.same g4 b hb
    refine ⟨hw x, ?_⟩
    unfold tYes
    refine iteT ?_
    refine hs D x d H' _ AD g4 (same_in hD g4) (dp_same (same_in hD g4) hd1) hd2 fun y H4 e s4 h4 p4 => ⟨zs, s4 _ _ g1, small1000 (by omega), zs ++ [y], upd_same, by rw [List.length_append, g2] <;> rfl, fun v hv => ?_, fun b o z => ?_⟩
    · rw [rm_put List.mem_cons_self]
      rcases List.mem_append.mp hv with hv | hv
      · obtain ⟨d', a, b⟩ := g3 v hv
        exact ⟨d', dp_same (rm_same s4) a, b⟩
      · rw [List.mem_singleton.mp hv]
        exact ⟨e, h4, p4⟩
    · rw [upd_ne (ne_of_none z hD)]
      exact s4 _ _ (g4 _ _ z)
  · obtain ⟨zs, g1, g2, g3, g4⟩ := hP
    exact hd D H' hD g4 ⟨zs, g1, by omega, g3⟩
/-- the same over range(m), item by item -/
theorem lc_rng {K : PySem.W.Frag} {S : List Addr} {m i : Nat} {ta : TA} {te : TE} {vs : List Nat} {σ : L2.St} {H : Hp} {Q : VK} (es : List PyData) (A : Alive S H) (ht : ∀ Q' : List V → Hp → Prop, Q' [.int m] H → ta σ H Q') (hm : m ≤ 900) (he : es.length = m)
    (hw : ∀ x, wipe ((wipe σ vs).set i (some x)) vs = wipe σ vs)
    (hs : ∀ (D : Addr) (j : Nat) (e : PyData) (H' : Hp) (Qc : VK), es[j]? = some e → Alive (D :: S) H' → Same H H' → Same (rmL S H) (rmL (D :: S) H') → (∀ y H4, Same H' H4 → Dp K (rmL (D :: S) H4) y e → Qc y H4) → te ((wipe σ vs).set i (some (.int (j : Nat)))) H' Qc)
    (hd : ∀ D us H', H D = none → Same H H' → H' D = some (.lst us) → DpAll K (rmL (D :: S) H') us es → Q (.ref D) H') : tLc (iRng1 ta) (gName i) tYes te vs σ H Q := by
  refine ht _ ⟨_, rfl, ?_, ?_, fun D hD => ?_⟩
  · have : -(2 ^ 62 : Int) ≤ 0 := by decide
    omega
  · have : (1000 : Int) < 2 ^ 62 := by decide
    omega
  have em : ((m : Int)).toNat = m := by omega
  rw [em]
  refine lc_range (lo := 0) (n := m) (fun j H' => ∃ us, H' D = some (.lst us) ∧ DpAll K (rmL (D :: S) H') us (es.take j) ∧ Same H H') ⟨[], upd_same, .nil, new_same hD _⟩ (fun j H' hj hP => ?_) (fun H' hP => ?_)
  · obtain ⟨us, g1, g2, g4⟩ := hP
    have ee : es[j]? = some es[j] := List.getElem?_eq_getElem (by omega)
    have AD : Alive (D :: S) H' := fun b hb => by
      rcases List.mem_cons.mp hb with rfl | hb
      · rw [g1]
        exact fun z => by cases z
      · exact A.same g4 b hb
    have ex : (0 : Int) + (j : Int) = ((j : Nat) : Int) := by omega
    rw [ex]
    refine ⟨hw _, ?_⟩
    unfold tYes
    refine iteT ?_
    refine hs D j _ H' _ ee AD g4 (same_in hD g4) fun y H4 s4 h4 => ⟨us, s4 _ _ g1, small1000 ?_, us ++ [y], upd_same, ?_, fun b o z => ?_⟩
    · rw [dps_len g2, List.length_take]
      omega
    · rw [rm_put List.mem_cons_self, take_one ee]
      exact dps_snoc (dps_same (rm_same s4) g2) h4
    · rw [upd_ne (ne_of_none z hD)]
      exact s4 _ _ (g4 _ _ z)
  · obtain ⟨us, g1, g2, g4⟩ := hP
    rw [List.take_of_length_le (by omega)] at g2
    exact hd D us H' hD g4 g1 g2
theorem seqT_rm {K : PySem.W.Frag} {H : Hp} {a q : Addr} {xs ys : List V} (e : H a = some (.lst ys)) (h : SqT K H q xs) : SqT K (rmL [a] H) q xs := by
  have n1 : ∀ {o : HO}, H q = some o → (∀ l, o ≠ .lst l) → q ∉ [a] := fun e1 e2 z => by
    rw [List.mem_singleton.mp z, e] at e1
    exact e2 _ (Option.some.inj e1).symm
  rcases h with (h | ⟨o, h⟩) | h
  · exact .inl (.inl (by rw [rm_at (n1 h (by intro l z; cases z))]; exact h))
  · exact .inl (.inr ⟨o, by rw [rm_at (n1 h (by intro l z; cases z))]; exact h⟩)
  · exact .inr h
theorem tabR_rm {K : PySem.W.Frag} {H : Hp} {a : Addr} {ys : List V} (e : H a = some (.lst ys)) : ∀ {ps : List Addr} {kvs : List (Key × V)} {t : List (Str × List Str)}, TabR K H ps kvs t → TabR K (rmL [a] H) ps kvs t
  | _, _, _, .nil => .nil
  | _, _, _, .cons a b o c => .cons (seqT_rm e a) (seqT_rm e b) o (tabR_rm e c)
theorem Flw.alive {H : Hp} {a b : Addr} (F : Flw b H a) : Alive [a] H := fun x hx z => by
  rw [List.mem_singleton.mp hx] at z
  obtain ⟨xs, e⟩ := F.lst
  rw [e] at z
  cases z
theorem PL.enter {K : PySem.W.Frag} {S : List Addr} {P : PyData → Prop} {n : Nat} {D E : Addr} {H H' : Hp} (hD : H D = none) (s : Same H H') (h : PL K S P n E H) : PL K (D :: S) P n E H' := by
  obtain ⟨vs, h1, h2, h3⟩ := h.ex
  exact ⟨vs, s _ _ h1, h2, fun v hv => by obtain ⟨d, a, b⟩ := h3 v hv; exact ⟨d, dp_same (same_in hD s) a, b⟩⟩
theorem PL.leave {K : PySem.W.Frag} {S : List Addr} {P : PyData → Prop} {n : Nat} {D E : Addr} {H : Hp} (h : PL K (D :: S) P n E H) : PL K S P n E H := h.sub fun b hb => List.mem_cons_of_mem _ hb
theorem sl_listK {X : Cx} (K : PySem.W.Frag) (h : X.K = K) : SlR X (rSlL K) := by
  subst h
  exact sl_list
theorem sl_tupAK {X : Cx} (K : PySem.W.Frag) (h : X.K = K) : SlR X (rSlA K) := by
  subst h
  exact sl_tupA
theorem op_catAK {X : Cx} (K : PySem.W.Frag) (h : X.K = K) : OpR X (binaryOp .Add) (rCatA K) := by
  subst h
  exact op_catA
theorem op_notIn_seqK {X : Cx} (K : PySem.W.Frag) (h : X.K = K) : OpR X (compareOp .NotIn) (rIn K true) := by
  subst h
  exact op_notIn_seq
/-! what is wrong -/
def NW (d : PyData) : Prop := isWord d = false ∧ Short d
def FS (f : PyData) : Prop := ∀ a b, pairOf f = some (a, b) → Short a ∧ MShort b
def BF (f : PyData) : Prop := (fieldOk f = false ∨ isWord (firstOf f) = false) ∧ FS f
def BadT (d : PyData) : Prop := areFields d = false ∧ FShort d
theorem entry_fs {e : Str × List Str} (h1 : word e.1 = true) (h2 : ∀ x ∈ e.2, word x = true) : FS (entryD e) := fun a b h => by
  cases h
  refine ⟨short_word h1, fun ws ew x hx => ?_⟩
  cases ew
  obtain ⟨y, hy, rfl⟩ := List.mem_map.mp hx
  exact short_word (h2 y hy)
theorem bad_in {d f : PyData} {fs : List PyData} (e : rowOf d = some fs) (hf : f ∈ fs) (h : fieldOk f = false ∨ isWord (firstOf f) = false) : areFields d = false := by
  unfold areFields
  rw [e]
  show (decide (1 ≤ fs.length) && (decide (fs.length ≤ 6) && (fs.all fieldOk && unlike (fs.map firstOf)))) = false
  have : (fs.all fieldOk && unlike (fs.map firstOf)) = false := by
    rcases h with h | h
    · have : fs.all fieldOk = false := List.all_eq_false.mpr ⟨f, hf, by rw [h]; exact fun z => by cases z⟩
      rw [this, Bool.false_and]
    · have : unlike (fs.map firstOf) = false := by
        unfold unlike
        have : (fs.map firstOf).all isWord = false := List.all_eq_false.mpr ⟨firstOf f, List.mem_map.mpr ⟨f, hf, rfl⟩, by rw [h]; exact fun z => by cases z⟩
        rw [this, Bool.false_and]
      rw [this, Bool.and_false]
  rw [this, Bool.and_false, Bool.and_false]
theorem bad_norow {d : PyData} (e : rowOf d = none) : BadT d := by
  refine ⟨?_, fun fs h => by rw [e] at h; cases h⟩
  unfold areFields
  rw [e]
theorem bad_short {d : PyData} {fs : List PyData} (e : rowOf d = some fs) (h : ∀ f ∈ fs, FS f) : FShort d := fun gs eg f hf a b ep => by
  rw [e] at eg
  cases eg
  exact h f hf a b ep
/-- a field that is no pair -/
theorem bf_nopair {f : PyData} (h : pairOf f = none) : BF f := by
  refine ⟨.inl ?_, fun a b ep => by rw [h] at ep; cases ep⟩
  unfold fieldOk
  rw [h]
/-- a field whose name is none -/
theorem bf_name {x b : PyData} (h : NW x) (hb : MShort b) : BF (.tuple [x, b]) := by
  refine ⟨.inr ?_, fun a c ep => ?_⟩
  · exact h.1
  · cases ep
    exact ⟨h.2, hb⟩
/-- .. whose values are none -/
theorem bf_vals {n : Str} {b : PyData} (hn : word n = true) (h : areValues b = false) (hb : MShort b) : BF (.tuple [.str n, b]) := by
  refine ⟨.inl ?_, fun a c ep => ?_⟩
  · show areValues b = false
    exact h
  · cases ep
    exact ⟨short_word hn, hb⟩
theorem vals_in {b d : PyData} {ws : List PyData} (e : rowOf b = some ws) (hd : d ∈ ws) (h : isWord d = false) : areValues b = false := by
  unfold areValues
  rw [e]
  show (decide (1 ≤ ws.length) && (decide (ws.length ≤ 5) && unlike ws)) = false
  have : unlike ws = false := by
    unfold unlike
    have : ws.all isWord = false := List.all_eq_false.mpr ⟨d, hd, by rw [h]; exact fun z => by cases z⟩
    rw [this, Bool.false_and]
  rw [this, Bool.and_false, Bool.and_false]
theorem vals_norow {b : PyData} (e : rowOf b = none) : areValues b = false ∧ MShort b := by
  refine ⟨?_, fun ws h => by rw [e] at h; cases h⟩
  unfold areValues
  rw [e]
theorem mshort_of {b : PyData} {ws : List PyData} (e : rowOf b = some ws) (h : ∀ d ∈ ws, Short d) : MShort b := fun us eu d hd => by
  rw [e] at eu
  cases eu
  exact h d hd
end Q
set_option Elab.async false
set_option linter.all false
set_option maxRecDepth 100000
set_option maxHeartbeats 4000000
/-! ### _law_bad_tables -/
namespace Q
open PySem L2 XD
theorem nw_long {n : Str} (h : word n = true) : NW (.str (n ++ "abcdefgh")) := by
  have hn := (word_iff.mp h).1
  have h8 := word_len h
  rw [tlx_len] at hn
  have e : (n ++ ("abcdefgh" : Str)).length = n.length + 8 := by rw [← tlx_len, tlx_app, List.length_append, tlx_len] <;> rfl
  refine ⟨not_word_long (by omega), ?_⟩
  show (n ++ ("abcdefgh" : Str)).length ≤ 1000000
  omega
theorem nw_sign {n : Str} {c : Nat} (h : word n = true) (hc : az c = false) : NW (.str (cutS n none (some 7) ++ ⟨#[c]⟩)) := by
  have h8 := word_len h
  refine ⟨not_word_of (c := c) ?_ hc, ?_⟩
  · rw [tlx_app, tlx_one]
    exact List.mem_append_right _ (List.mem_singleton.mpr rfl)
  · show (cutS n none (some 7) ++ (⟨#[c]⟩ : Str)).length ≤ 1000000
    have := cutS_short n none (some 7)
    rw [← tlx_len, tlx_app, List.length_append, tlx_len, tlx_one]
    show (cutS n none (some 7)).length + 1 ≤ 1000000
    omega
theorem nw_upper {n : Str} (h : word n = true) : NW (.str (Txt.upper n)) := by
  obtain ⟨h1, h2⟩ := upper_not h
  refine ⟨h1, ?_⟩
  show (Txt.upper n).length ≤ 1000000
  omega
theorem cut7_len {n c : Str} (h : word n = true) (hc : c.length = 1) : (cutS n none (some 7)).length + c.length ≤ sizeLine := by
  have := cutS_short n none (some 7)
  have := word_len h
  exact le_line (by omega)
theorem abc6_at : ∀ j, j < 6 → atI ("abcdef" : Str).cps.toList ((j : Nat) : Int) = some (97 + j) := by decide +kernel
theorem abc7_at : ∀ j, j < 7 → atI ("abcdefg" : Str).cps.toList ((j : Nat) : Int) = some (97 + j) := by decide +kernel
def OV (d : PyData) : Prop := areValues d = false ∧ MShort d
theorem ov_long {ws : List PyData} {d : PyData} (e : rowOf d = some ws) (h : 5 < ws.length) (hs : ∀ x ∈ ws, Short x) : OV d := by
  refine ⟨?_, mshort_of e hs⟩
  unfold areValues
  rw [e]
  show (decide (1 ≤ ws.length) && (decide (ws.length ≤ 5) && unlike ws)) = false
  rw [decide_eq_false (by omega : ¬ ws.length ≤ 5), Bool.false_and, Bool.and_false]
theorem ov_none {d : PyData} (e : rowOf d = some []) : OV d := by
  refine ⟨?_, mshort_of e fun x h => absurd h List.not_mem_nil⟩
  unfold areValues
  rw [e]
  rfl
theorem ov_twice {ws : List Str} {d : PyData} (e : rowOf d = some (ws.map PyData.str ++ (ws.map PyData.str).take 1)) (h1 : 1 ≤ ws.length) (hw : ∀ x ∈ ws, word x = true) : OV d := by
  refine ⟨?_, mshort_of e fun x h => ?_⟩
  · unfold areValues
    rw [e]
    show (_ && (_ && unlike (ws.map PyData.str ++ (ws.map PyData.str).take 1))) = false
    have : unlike (ws.map PyData.str ++ (ws.map PyData.str).take 1) = false := by
      unfold unlike
      have : decide (textsOf (ws.map PyData.str ++ (ws.map PyData.str).take 1)).Nodup = false := by
        refine decide_eq_false fun z => ?_
        cases ws with
        | nil => cases h1
        | cons x ws =>
          have z2 : (x :: (textsOf (ws.map PyData.str) ++ [x])).Nodup := by
            have : textsOf ((x :: ws).map PyData.str ++ ((x :: ws).map PyData.str).take 1) = x :: (textsOf (ws.map PyData.str) ++ [x]) := by
              unfold textsOf
              simp [strOf]
            rw [this] at z
            exact z
          rw [List.nodup_cons] at z2
          exact z2.1 (List.mem_append_right _ (List.mem_singleton.mpr rfl))
      rw [this, Bool.and_false]
    rw [this, Bool.and_false, Bool.and_false]
  · have hs : ∀ f ∈ ws.map PyData.str, Short f := fun f hf => by
      obtain ⟨y, hy, rfl⟩ := List.mem_map.mp hf
      exact short_word (hw y hy)
    rcases List.mem_append.mp h with h | h
    · exact hs x h
    · exact hs x (List.mem_of_mem_take h)
theorem cut7_short {n : Str} {c : Nat} (h : word n = true) : Short (.str ((⟨#[c]⟩ : Str) ++ cutS n none (some 7))) := by
  show ((⟨#[c]⟩ : Str) ++ cutS n none (some 7)).length ≤ 1000000
  have := cutS_short n none (some 7)
  have := word_len h
  have e : ((⟨#[c]⟩ : Str) ++ cutS n none (some 7)).length = 1 + (cutS n none (some 7)).length := by
    rw [← tlx_len, tlx_app, List.length_append, tlx_one, tlx_len]
    rfl
  omega
theorem badT_none {d : PyData} (e : rowOf d = some []) : BadT d := by
  refine ⟨?_, bad_short e fun f h => absurd h List.not_mem_nil⟩
  unfold areFields
  rw [e]
  rfl
theorem badT_many {d : PyData} {fs : List PyData} (e : rowOf d = some fs) (h : 6 < fs.length) (hs : ∀ f ∈ fs, FS f) : BadT d := by
  refine ⟨?_, bad_short e hs⟩
  unfold areFields
  rw [e]
  show (decide (1 ≤ fs.length) && (decide (fs.length ≤ 6) && _)) = false
  rw [decide_eq_false (by omega : ¬ fs.length ≤ 6), Bool.false_and, Bool.and_false]
theorem badT_twice {d : PyData} {x : Str × List Str} (e : rowOf d = some [entryD x, entryD x]) (h1 : word x.1 = true) (h2 : ∀ y ∈ x.2, word y = true) : BadT d := by
  refine ⟨?_, bad_short e fun f hf => ?_⟩
  · unfold areFields
    rw [e]
    show (_ && (_ && (_ && unlike [PyData.str x.1, PyData.str x.1]))) = false
    have : unlike [PyData.str x.1, PyData.str x.1] = false := by
      unfold unlike
      have : decide (textsOf [PyData.str x.1, PyData.str x.1]).Nodup = false := decide_eq_false fun z => by
        have z2 : [x.1, x.1].Nodup := z
        simp at z2
      rw [this, Bool.and_false]
    rw [this, Bool.and_false, Bool.and_false, Bool.and_false]
  · simp only [List.mem_cons, List.not_mem_nil, or_false] at hf
    rcases hf with rfl | rfl <;> exact entry_fs h1 h2
theorem badT_within {d : PyData} {t : List (Str × List Str)} (e : rowOf d = some [.list (t.map entryD)]) (h : ∀ x ∈ t, word x.1 = true) : BadT d := by
  have hx : ∀ (b : PyData), b ∈ t.map entryD → isWord b = false ∧ Short b ∧ MShort b := fun b hb => by
    obtain ⟨x, hx, rfl⟩ := List.mem_map.mp hb
    refine ⟨rfl, trivial, mshort_of (ws := [.str x.1, .tuple (x.2.map PyData.str)]) rfl fun d hd => ?_⟩
    simp only [List.mem_cons, List.not_mem_nil, or_false] at hd
    rcases hd with rfl | rfl
    · exact short_word (h x hx)
    · exact trivial
  have key : BF (.list (t.map entryD)) := by
    cases ep : pairOf (.list (t.map entryD)) with
    | none => exact bf_nopair ep
    | some ab =>
      obtain ⟨u, v⟩ := ab
      have e2 : t.map entryD = [u, v] := by
        unfold pairOf at ep
        have er : rowOf (.list (t.map entryD)) = some (t.map entryD) := rfl
        rw [er] at ep
        match h : t.map entryD, ep with
        | [_, _], e => cases e; rfl
      have hu := hx u (by rw [e2]; exact List.mem_cons_self)
      have hv := hx v (by rw [e2]; exact List.mem_cons_of_mem _ List.mem_cons_self)
      refine ⟨.inr ?_, fun a b e' => ?_⟩
      · unfold firstOf
        rw [ep]
        exact hu.1
      · rw [ep] at e'
        cases e'
        exact ⟨hu.2.1, hv.2.2⟩
  refine ⟨bad_in e (List.mem_singleton.mpr rfl) key.1, bad_short e fun f hf => ?_⟩
  rw [List.mem_singleton.mp hf]
  exact key.2
theorem dps_strs' {K : PySem.W.Frag} {H : Hp} : ∀ ws : List Str, DpAll K H (ws.map V.str) (ws.map PyData.str)
  | [] => .nil
  | x :: ws => .cons (.str x) (dps_strs' ws)
def spBadT (K : PySem.W.Frag) : Sp := fun vs H Q _ => ∃ (a b p : Addr) (ps : List Addr) (kvs : List (Key × V)) (t : List (Str × List Str)), vs = [.ref a, .ref p] ∧ Flw b H a ∧ p ≠ a ∧ H p = some (.lst (ps.map V.ref)) ∧ TabR K H ps kvs t ∧ TabOk t ∧
  ∀ (D : Addr) (H' : Hp), PL K [a] BadT 200 D H' → NE D H' → D ≠ a → Flw b H' a → Kept a H H' → Q (.ref D) H'
abbrev nBadT : List Str := ["flow", "table", "at", "name", "values", "words", "word", "found", "k", "odd", "i", "one", "rows", "seven"]
section
variable {P : Program} {w : World} {K : PySem.W.Frag} {mg : Str → Option Value} {base : Heap}
theorem scBadT : FnScope nBadT ["flow", "table"] (defScope sBadT) := ⟨rfl, rfl, rfl, by decide +kernel, rfl, by decide +kernel, by decide +kernel⟩
theorem ok_badT {f : Addr} {fd : FuncData} (F : Fun K "_law_bad_tables" "_law_bad_tables" sBadT f fd) (T : mg "len" = none) (T2 : mg "range" = none) (T3 : mg "tuple" = none) (KD : Kn P w K mg base 2 "_law_draw" ["flow", "many"] spDraw) : FnOk P w K mg base CX0 3 f fd ["flow", "table"] (spBadT K) := by
  obtain ⟨fD, fdD, GD, kD, bD, mD⟩ := KD.ex
  refine F.ok scBadT (fun vs H Q E h => ?_) (fun cdv A outer s H vs Q E hr h => ?_)
  · obtain ⟨a, b, p, ps, kvs, t, rfl, _⟩ := h
    rfl
  obtain ⟨a, b, p, ps, kvs, t, rfl, ha, hpa, hp, hT, G, k⟩ := h
  have vt_ : PySem.bootBuiltins "tuple" = some (.type "tuple") := by decide +kernel
  refine ⟨_, pss_cons (ps_set (i := 2) scBadT.nd rfl (.inr rfl) (pe_call GD hr rfl mD kD bD .nil pass0 (pa_cons (pv 0) (pa_cons (pe_callB call_len_seq rfl T PySem.boot_len (pa_cons (pv 1) pa_nil)) pa_nil))))
    (pss_cons (ps_asg (pe_ix (ix_both K rfl) (pv 1) (pv 2) (fun _ _ => rfl)) (pg_row rfl (pgs_cons (pg_name (i := 3) scBadT.nd rfl (.inr rfl)) (pgs_cons (pg_name (i := 4) scBadT.nd rfl (.inr rfl)) pgs_nil))))
    (pss_cons (ps_set (i := 5) scBadT.nd rfl (.inl rfl) (pe_lst (pa_cons pe_str (pa_cons (pe_op op_add_str (pv 3) pe_str) (pa_cons (pe_upper (pv 3)) (pa_cons (pe_op op_add_str (pe_slice sl_str (pv 3) po_none (po_some pe_int)) pe_str) (pa_cons (pe_op op_add_str (pe_slice sl_str (pv 3) po_none (po_some pe_int)) pe_str) (pa_cons pe_non (pa_cons pe_int (pa_cons pe_bl
      (pa_cons (pe_tupZ (pa_cons (pv 3) pa_nil)) (pa_cons (pe_lst (pa_cons (pv 3) pa_nil)) pa_nil))))))))))))
    (pss_cons (ps_setLc (i := 7) (own := [("word", 6)]) (g := gName 6) (tt := tYes) (by rfl) scBadT.nd rfl rfl (sw_true rfl rfl rfl (by decide +kernel)) (pi_row (pv 5)) (blkOk_by (N := nBadT) (sc := defScope sBadT) (by decide +kernel))
      (fun _ _ _ _ _ => pg_name (i := 6) scBadT.nd rfl (.inl rfl)) (fun _ _ _ _ _ => pts_nil) (fun _ _ _ _ _ => pe_tupZ (pa_cons (pv 6) (pa_cons (pv 4) pa_nil))))
    (pss_cons (ps_set (i := 8) scBadT.nd rfl (.inl rfl) (pe_call GD hr rfl mD kD bD .nil pass0 (pa_cons (pv 0) (pa_cons (pe_callB call_len_seq rfl T PySem.boot_len (pa_cons (pv 4) pa_nil)) pa_nil))))
    (pss_cons (ps_for PassesOwn.never rfl (pi_list (pe_op op_cat (pv 5) (pe_lst (pa_cons (pe_op op_add_str (pe_slice sl_str (pe_ix (ix_both K rfl) (pv 4) (pv 8) (fun _ _ => rfl)) po_none (po_some pe_int)) pe_str) pa_nil)))) (pg_name (i := 6) scBadT.nd rfl (.inl rfl))
      (pss_one (ps_expr (pe_bm PySem.F.plainAttrs_list PySem.F.slot_list_append PySem.F.type_list_append mt_append (pv 7) (pa_cons (pe_tupZ (pa_cons (pv 3) (pa_cons (pe_op op_catA (pe_op op_catA (pe_slice sl_tupA (pv 4) po_none (po_some (pv 8))) (pe_tupZ (pa_cons (pv 6) pa_nil))) (pe_slice sl_tupA (pv 4) (po_some (pe_op op_add (pv 8) pe_int)) po_none)) pa_nil))) pa_nil)))))
    (pss_cons (ps_set (i := 9) scBadT.nd rfl (.inl rfl) (pe_lst (pa_cons (pe_tupZ pa_nil) (pa_cons (pe_op op_catA (pv 4) (pe_slice sl_tupA (pv 4) po_none (po_some pe_int))) (pa_cons (pe_ix (ix_both K rfl) (pv 4) pe_int (fun _ _ => rfl)) (pa_cons pe_non (pa_cons pe_int (pa_cons pe_bl
      (pa_cons (pe_callTy (call_tupK K rfl) rfl T3 vt_ (pa_cons (pe_lc (own := [("i", 10)]) (g := gName 10) (tt := tYes) (by rfl) scBadT.nd (pi_range1 rfl T2 (pa_cons pe_int pa_nil)) (blkOk_by (N := nBadT) (sc := defScope sBadT) (by decide +kernel))
        (fun _ _ _ _ _ => pg_name (i := 10) scBadT.nd rfl (.inl rfl)) (fun _ _ _ _ _ => pts_nil) (fun _ _ _ _ _ => pe_op op_add_str (pe_ix ix_str pe_str (pv 10) (fun _ _ => rfl)) (pe_slice sl_str (pv 3) po_none (po_some pe_int)))) pa_nil)) pa_nil)))))))))
    (pss_cons (ps_set (i := 7) scBadT.nd rfl (.inl rfl) (pe_op op_cat (pe_op op_cat (pv 7) (pe_lc (own := [("one", 11)]) (g := gName 11) (tt := tYes) (by rfl) scBadT.nd (pi_row (pv 9)) (blkOk_by (N := nBadT) (sc := defScope sBadT) (by decide +kernel))
        (fun _ _ _ _ _ => pg_name (i := 11) scBadT.nd rfl (.inl rfl)) (fun _ _ _ _ _ => pts_nil) (fun _ _ _ _ _ => pe_tupZ (pa_cons (pv 3) (pa_cons (pv 11) pa_nil)))))
      (pe_lst (pa_cons (pe_tupZ pa_nil) (pa_cons (pe_tupZ (pa_cons (pv 3) pa_nil)) (pa_cons (pe_tupZ (pa_cons (pv 3) (pa_cons (pv 4) (pa_cons (pv 4) pa_nil)))) (pa_cons (pv 3) (pa_cons pe_non (pa_cons pe_int (pa_cons pe_str pa_nil))))))))))
    (pss_cons (ps_setLc (i := 12) (own := [("one", 11)]) (g := gName 11) (tt := tYes) (by rfl) scBadT.nd rfl rfl (sw_true rfl rfl rfl (by decide +kernel)) (pi_row (pv 7)) (blkOk_by (N := nBadT) (sc := defScope sBadT) (by decide +kernel))
      (fun _ _ _ _ _ => pg_name (i := 11) scBadT.nd rfl (.inl rfl)) (fun _ _ _ _ _ => pts_nil) (fun _ _ _ _ _ => pe_op op_cat (pe_op op_cat (pe_slice (sl_listK K rfl) (pv 1) po_none (po_some (pv 2))) (pe_lst (pa_cons (pv 11) pa_nil))) (pe_slice (sl_listK K rfl) (pv 1) (po_some (pe_op op_add (pv 2) pe_int)) po_none)))
    (pss_cons (ps_setLc (i := 13) (own := [("i", 10)]) (g := gName 10) (tt := tYes) (by rfl) scBadT.nd rfl rfl (sw_true rfl rfl rfl (by decide +kernel)) (pi_range1 rfl T2 (pa_cons pe_int pa_nil)) (blkOk_by (N := nBadT) (sc := defScope sBadT) (by decide +kernel))
      (fun _ _ _ _ _ => pg_name (i := 10) scBadT.nd rfl (.inl rfl)) (fun _ _ _ _ _ => pts_nil) (fun _ _ _ _ _ => pe_tupZ (pa_cons (pe_op op_add_str (pe_ix ix_str pe_str (pv 10) (fun _ _ => rfl)) (pe_slice sl_str (pv 3) po_none (po_some pe_int))) (pa_cons (pe_tupZ (pa_cons pe_str pa_nil)) pa_nil))))
    (pss_one (ps_ret (pe_op op_cat (pv 12) (pe_lst (pa_cons (pe_lst pa_nil) (pa_cons (pe_tupZ pa_nil) (pa_cons pe_non (pa_cons pe_int (pa_cons pe_bl (pa_cons pe_str (pa_cons (pv 3) (pa_cons (pv 13) (pa_cons (pe_callTy (call_tupK K rfl) rfl T3 vt_ (pa_cons (pv 13) pa_nil))
      (pa_cons (pe_op op_cat (pe_slice sl_list (pv 1) po_none (po_some pe_int)) (pe_slice sl_list (pv 1) po_none (po_some pe_int))) (pa_cons (pe_lst (pa_cons (pv 1) pa_nil)) pa_nil)))))))))))))))))))))))), ?_⟩
  have ht1 := G.lo
  have ht6 := G.hi
  have hpl : (ps.map V.ref).length = t.length := by rw [List.length_map, hT.flen]
  -- the drawn field
  refine ⟨_, rfl, _, rfl, p, _, rfl, .inl (SqL.of hp), a, b, _, rfl, ha, ?_, fun r H1 r0 r1 F1 k1 => ?_⟩
  · have h8 : (8 : Nat) < 2 ^ 200 := by decide
    omega
  rw [hpl] at r1
  obtain ⟨i, rfl⟩ : ∃ i : Nat, r = (i : Int) := ⟨r.toNat, by omega⟩
  have hi : i < t.length := by
    split at r1 <;> omega
  have e0 : t[i]? = some t[i] := List.getElem?_eq_getElem hi
  have em := List.mem_of_getElem? e0
  generalize t[i] = e at e0 em
  obtain ⟨hvw, hv1, hv5⟩ := G.vs e em
  have hn : word e.1 = true := G.nm.2 _ (List.mem_map.mpr ⟨e, em, rfl⟩)
  have hn8 := word_len hn
  have A1 := F1.alive
  obtain ⟨fl1, ef1⟩ := F1.lst
  have hTr : TabR K (rmL [a] H1) ps kvs t := tabR_rm ef1 (hT.flw ha k1)
  obtain ⟨q, v, c1, c2, c3⟩ := hTr.get e0
  have hp1 := k1 _ _ hpa hp
  refine ⟨_, rfl, _, rfl, ix_row (.inl (SqL.of hp1)) (at_of rfl c1) (.inl ⟨q, _, rfl, seqT_same rm_le c2, rfl, .str e.1, _, rfl, .ref v, [], rfl, rfl, ?_⟩)⟩
  have tv : TD K (rmL [a] H1) (.ref v) (e.2.map PyData.str) := ⟨v, _, rfl, c3, dps_strs' e.2⟩
  have tE : DpAll K (rmL [a] H1) (ps.map V.ref) (t.map entryD) := tabR_dps hTr
  have hfs : ∀ f ∈ t.map entryD, FS f := fun f hf => by
    obtain ⟨x, hx, rfl⟩ := List.mem_map.mp hf
    exact entry_fs (G.nm.2 _ (List.mem_map.mpr ⟨x, hx, rfl⟩)) (G.vs x hx).1.2
  have ln : e.1.length ≤ sizeLine := le_line (by omega)
  -- words
  dsimp only
  have l2 : e.1.length + ("abcdefgh" : Str).length ≤ sizeLine := le_line (by show e.1.length + 8 ≤ 1000; omega)
  refine ⟨_, rfl, _, _, rfl, rfl, l2, _, rfl, ⟨_, rfl⟩, _, rfl, rfl, (by omega), _, rfl, _, rfl, _, rfl, ln, _, _, rfl, rfl, cut7_len hn rfl, _, rfl, _, rfl, _, rfl, ln, _, _, rfl, rfl, cut7_len hn rfl, _, rfl, by show 1 ≤ sizeLine; decide, fun z1 o1 hz1 _ => ⟨_, rfl, by show 1 ≤ sizeLine; decide, fun z2 hz2 => ⟨by show 10 ≤ sizeLine; decide, fun WD hWD => ?_⟩⟩⟩
  have s1 := new_same hz1 (.frz o1 (.tup [V.str e.1]))
  have s2 := new_same hz2 (.lst [V.str e.1])
  have A1' := A1.same s1
  have dz1 : Dp K (rmL [a] (upd (upd H1 z1 (.frz o1 (.tup [V.str e.1]))) z2 (.lst [V.str e.1]))) (.ref z1) (.tuple [.str e.1]) := dp_same (rm_same s2) (TD.dp (tup_td A1 hz1 (.cons (.str e.1) .nil)))
  have dz2 : Dp K (rmL [a] (upd (upd H1 z1 (.frz o1 (.tup [V.str e.1]))) z2 (.lst [V.str e.1]))) (.ref z2) (.list [.str e.1]) := lst_dp A1' hz2 (.cons (.str e.1) .nil)
  have s12 := s1.trans s2
  generalize upd (upd H1 z1 (.frz o1 (.tup [V.str e.1]))) z2 (.lst [V.str e.1]) = H2 at s12 dz1 dz2 hWD
  have pW : PL K [a] NW 10 WD (upd H2 WD (.lst [V.str "", V.str (e.1 ++ "abcdefgh"), V.str (Txt.upper e.1), V.str (cutS e.1 none (some 7) ++ "1"), V.str (cutS e.1 none (some 7) ++ " "), V.non, V.int 7, V.bl true, V.ref z1, V.ref z2])) := by
    refine PL.new (vs := [V.str "", V.str (e.1 ++ "abcdefgh"), V.str (Txt.upper e.1), V.str (cutS e.1 none (some 7) ++ "1"), V.str (cutS e.1 none (some 7) ++ " "), V.non, V.int 7, V.bl true, V.ref z1, V.ref z2]) (ds := [.str "", .str (e.1 ++ "abcdefgh"), .str (Txt.upper e.1), .str (cutS e.1 none (some 7) ++ "1"), .str (cutS e.1 none (some 7) ++ " "), .none, .int 7, .bool true, .tuple [.str e.1], .list [.str e.1]]) hWD ?_ ?_
    · exact .cons (.str _) (.cons (.str _) (.cons (.str _) (.cons (.str _) (.cons (.str _) (.cons .non (.cons (.int 7) (.cons (.bl true) (.cons dz1 (.cons dz2 .nil)))))))))
    · intro d hd
      simp only [List.mem_cons, List.not_mem_nil, or_false] at hd
      rcases hd with rfl | rfl | rfl | rfl | rfl | rfl | rfl | rfl | rfl | rfl
      · exact ⟨rfl, by show (0 : Nat) ≤ 1000000; decide⟩
      · exact nw_long hn
      · exact nw_upper hn
      · exact nw_sign (c := 49) hn (by decide +kernel)
      · exact nw_sign (c := 32) hn (by decide +kernel)
      · exact ⟨rfl, trivial⟩
      · exact ⟨rfl, trivial⟩
      · exact ⟨rfl, trivial⟩
      · exact ⟨rfl, trivial⟩
      · exact ⟨rfl, trivial⟩
  have sW := s12.trans (new_same hWD (.lst [V.str "", V.str (e.1 ++ "abcdefgh"), V.str (Txt.upper e.1), V.str (cutS e.1 none (some 7) ++ "1"), V.str (cutS e.1 none (some 7) ++ " "), V.non, V.int 7, V.bl true, V.ref z1, V.ref z2]))
  dsimp only
  generalize upd H2 WD (.lst [V.str "", V.str (e.1 ++ "abcdefgh"), V.str (Txt.upper e.1), V.str (cutS e.1 none (some 7) ++ "1"), V.str (cutS e.1 none (some 7) ++ " "), V.non, V.int 7, V.bl true, V.ref z1, V.ref z2]) = H3 at pW sW
  have WDa : WD ≠ a := fun z => by
    rw [z] at hWD
    obtain ⟨xs, hx⟩ := (F1.same s12).lst
    rw [hx] at hWD
    cases hWD
  have F3 := F1.same sW
  have k3 : Kept a H H3 := k1.trans (Kept.of_same sW)
  have A3 := F3.alive
  have tv3 := tv.same (rm_same sW)
  have hms : MShort (.tuple (e.2.map PyData.str)) := mshort_of (ws := e.2.map PyData.str) rfl fun d hd => by
    obtain ⟨x, hx, rfl⟩ := List.mem_map.mp hd
    exact short_word (hvw.2 x hx)
  refine asg_lc (lc_pl (P := NW) (P' := BF) (n := 10) (S := [a]) A3 (fun Q' z => ⟨_, rfl, z⟩) pW (by decide) (fun _ => rfl) (fun D x d H' Qc AD sH sR hx hd kQ => ?_) (fun FD H4 hFD s4 pF => ?_))
  · refine ⟨_, rfl, _, rfl, by show 2 ≤ sizeLine; decide, fun z o hz ho => ?_⟩
    exact kQ _ _ _ (new_same hz _) (TD.dp (tup_td AD hz (.cons hx (.cons (dp_same sR tv3.dp) .nil)))) (bf_name hd hms)
  -- k
  have F4 := F3.same s4
  have k4 : Kept a H H4 := k3.trans (Kept.of_same s4)
  have hFD0 : H FD = none := by
    cases z : H FD with
    | none => rfl
    | some o =>
      by_cases y : FD = a
      · obtain ⟨xs, hx⟩ := F3.lst
        rw [y, hx] at hFD
        cases hFD
      · rw [k3 FD o y z] at hFD
        cases hFD
  obtain ⟨FDa, FDb⟩ := ha.ne hFD0
  have pW4 := pW.enter hFD s4
  have tv4 : TD K (rmL [FD, a] H4) (.ref v) (e.2.map PyData.str) := tv3.same (same_in hFD s4)
  have tE4 : DpAll K (rmL [FD, a] H4) (ps.map V.ref) (t.map entryD) := dps_same ((rm_same sW).trans (same_in hFD s4)) tE
  have tvS := (seqT_same sW (seqT_same rm_le c3))
  have hvl : ((e.2.map V.str).length : Int) = (e.2.length : Int) := by rw [List.length_map]
  refine ⟨_, rfl, _, rfl, v, _, rfl, .inr (seqT_same s4 tvS), a, b, _, rfl, F4, ?_, fun r2 H5 q0 q1 F5 k5 => ?_⟩
  · have h8 : (8 : Nat) < 2 ^ 200 := by decide
    omega
  rw [hvl] at q1
  obtain ⟨kk, rfl⟩ : ∃ i : Nat, r2 = (i : Int) := ⟨r2.toNat, by omega⟩
  have hkk : kk < e.2.length := by
    split at q1 <;> omega
  have ek : e.2[kk]? = some e.2[kk] := List.getElem?_eq_getElem hkk
  have hwk : word e.2[kk] = true := hvw.2 _ (List.getElem_mem hkk)
  generalize e.2[kk] = wk at ek hwk
  have mem2 : a ∈ [FD, a] := List.mem_cons_of_mem _ List.mem_cons_self
  have pW5 : PL K [FD, a] NW 10 WD H5 := pW4.kept mem2 WDa k5
  have pF5 : PL K [FD, a] BF 10 FD H5 := pF.kept mem2 FDa k5
  have tv5 := tv4.same (rm_kept mem2 k5)
  have tE5 := dps_same (rm_kept (S := [FD, a]) mem2 k5) tE4
  have k05 := k4.trans k5
  have tvS5 := seqT_flw F4 k5 (seqT_same s4 tvS)
  clear pW4 pF tv4 tE4
  -- the loop over words and one more
  have hln7 : wk.length ≤ sizeLine := le_line (by have := word_len hwk; omega)
  have evk : (e.2.map V.str)[kk]? = some (.str wk) := by rw [List.getElem?_map, ek] <;> rfl
  refine ⟨_, rfl, _, rfl, _, rfl, ix_row (.inr tvS5) (at_of rfl evk) ⟨_, rfl, wk, rfl, hln7, _, _, rfl, rfl, cut7_len hwk rfl, by show 1 ≤ sizeLine; decide, fun XD hXD => ?_⟩⟩
  have sX := new_same hXD (.lst [V.str (cutS wk none (some 7) ++ "-")])
  have AL5 : Alive [FD, a] H5 := fun x hx => by
    rcases List.mem_cons.mp hx with rfl | hx
    · obtain ⟨vs, h, _⟩ := pF5.ex
      rw [h]
      exact fun z => by cases z
    · exact F5.alive x hx
  have pX : PL K [FD, a] NW 1 XD (upd H5 XD (.lst [V.str (cutS wk none (some 7) ++ "-")])) := by
    refine PL.new (vs := [V.str (cutS wk none (some 7) ++ "-")]) (ds := [.str (cutS wk none (some 7) ++ "-")]) hXD (.cons (.str _) .nil) fun d hd => ?_
    rw [List.mem_singleton.mp hd]
    exact nw_sign (c := 45) hwk (by decide +kernel)
  have pW6 := pW5.same sX
  have pF6 := pF5.same sX
  have tv6 := tv5.same (rm_same sX)
  have tE6 := dps_same (rm_same (S := [FD, a]) sX) tE5
  have F6 := F5.same sX
  have k6 : Kept a H (upd H5 XD (.lst [V.str (cutS wk none (some 7) ++ "-")])) := k05.trans (Kept.of_same sX)
  have tvS6 := seqT_same sX tvS5
  have AL6 := AL5.same sX
  generalize upd H5 XD (.lst [V.str (cutS wk none (some 7) ++ "-")]) = H6 at pX pW6 pF6 tv6 tE6 F6 k6 tvS6 AL6
  refine PL.cat pW6 pX (by decide) (fun YD H7 s7 hYD pY => ?_)
  obtain ⟨ys, y1, y2, y3⟩ := pY.ex
  have F7 := F6.same s7
  have AL7 := AL6.same s7
  have hYn : YD ∉ [FD, a] := fun z => AL6 YD z hYD
  refine ⟨YD, rfl, ⟨_, SqL.of y1⟩, for_list (K := K) (a := YD) (xs := ys) (fun j σ HC => ∃ f6 : Option V, σ = [some (.ref a), some (.ref p), some (.int i), some (.str e.1), some (.ref v), some (.ref WD), f6, some (.ref FD), some (.int kk), none, none, none, none, none] ∧ PL K [FD, a] BF (10 + j) FD HC ∧ Flw b HC a ∧ Kept a H HC ∧ Same (rmL [FD, a] H7) (rmL [FD, a] HC) ∧ HC YD = some (.lst ys) ∧ Alive [FD, a] HC)
    ⟨_, rfl, pF6.same s7, F7, k6.trans (Kept.of_same s7), Same.refl _, y1, AL7⟩ (fun j σ HC _ ⟨_, _, _, _, _, _, z, _⟩ => SqL.of z) ?_ ?_⟩
  · rintro j x σ HC hx ⟨f6, rfl, g1, g2, g3, g4, g5, g6⟩
    obtain ⟨d, d1, d2⟩ := y3 x (List.mem_of_getElem? hx)
    have hj : j < ys.length := (List.getElem?_eq_some_iff.mp hx).1
    have tvC := (tv6.same (rm_same s7)).same g4
    obtain ⟨us, u1, u2, u3⟩ := g1.ex
    refine ⟨_, rfl, .inl ⟨rfl, _, SqL.of u1⟩, _, rfl, _, rfl, _, rfl, _, rfl, ?_⟩
    refine to_td (k := kk) g6 tvC (fun w1 HD sD td1 => ?_)
    have AD := g6.same sD
    refine ⟨_, rfl, by show 1 ≤ sizeLine; decide, fun z o hz ho => ?_⟩
    have td2 : TD K (rmL [FD, a] (upd HD z (.frz o (.tup [x])))) (.ref z) [d] := tup_td AD hz (.cons (dp_same (g4.trans (rm_same sD)) d1) .nil)
    have sE := new_same hz (.frz o (.tup [x]))
    refine cat_td (AD.same sE) (td1.same (rm_same sE)) td2 (by rw [List.length_take, List.length_map, List.length_singleton]; omega) (fun w2 HF sF td3 => ?_)
    have sCF := (sD.trans sE).trans sF
    refine ⟨_, rfl, _, rfl, _, _, rfl, rfl, _, rfl, ?_⟩
    unfold tNoPart
    refine from_td (k := kk + 1) (g6.same sCF) (tvC.same (rm_same sCF)) (fun w3 HG sG td4 => ?_)
    refine cat_td ((g6.same sCF).same sG) (td3.same (rm_same sG)) td4 (by simp only [List.length_append, List.length_take, List.length_map, List.length_singleton, List.length_drop]; omega) (fun w4 HH sH td5 => ?_)
    refine ⟨by show 2 ≤ sizeLine; decide, fun z5 o5 hz5 _ => ?_⟩
    have sI := new_same hz5 (.frz o5 (.tup [V.str e.1, w4]))
    have sCI := ((sCF.trans sG).trans sH).trans sI
    have ALH := ((g6.same sCF).same sG).same sH
    have dN : Dp K (rmL [FD, a] (upd HH z5 (.frz o5 (.tup [V.str e.1, w4])))) (.ref z5) (.tuple [.str e.1, .tuple ((e.2.map PyData.str).take kk ++ [d] ++ (e.2.map PyData.str).drop (kk + 1))]) := TD.dp (tup_td ALH hz5 (.cons (.str _) (.cons td5.dp .nil)))
    have bN : BF (.tuple [.str e.1, .tuple ((e.2.map PyData.str).take kk ++ [d] ++ (e.2.map PyData.str).drop (kk + 1))]) := by
      refine bf_vals hn (vals_in (ws := (e.2.map PyData.str).take kk ++ [d] ++ (e.2.map PyData.str).drop (kk + 1)) rfl (List.mem_append_left _ (List.mem_append_right _ (List.mem_singleton.mpr rfl))) d2.1) (mshort_of (ws := (e.2.map PyData.str).take kk ++ [d] ++ (e.2.map PyData.str).drop (kk + 1)) rfl fun f hf => ?_)
      have hs : ∀ f ∈ e.2.map PyData.str, Short f := fun f hf => by
        obtain ⟨y, hy, rfl⟩ := List.mem_map.mp hf
        exact short_word (hvw.2 y hy)
      rcases List.mem_append.mp hf with hf | hf
      · rcases List.mem_append.mp hf with hf | hf
        · exact hs f (List.mem_of_mem_take hf)
        · rw [List.mem_singleton.mp hf]
          exact d2.2
      · exact hs f (List.mem_of_mem_drop hf)
    have uI := sCI _ _ u1
    refine ⟨FD, us, _, rfl, rfl, uI, small1000 (by omega), ?_⟩
    have gI := (g1.same sCI).put List.mem_cons_self uI dN bN
    refine ⟨_, rfl, gI, (g2.same sCI).off FDa FDb, (g3.trans (Kept.of_same sCI)).new hFD0, ?_, ?_, (g6.same sCI).put⟩
    · rw [rm_put List.mem_cons_self]
      exact g4.trans (rm_same sCI)
    · rw [upd_ne (fun z => hYn (by rw [z]; exact List.mem_cons_self))]
      exact sCI _ _ g5
  rintro σ H8 ⟨f6, rfl, g1, F8, k8, g4, g5, AL8⟩
  have leS : ∀ x ∈ [a], x ∈ [FD, a] := fun x hx => List.mem_cons_of_mem _ hx
  have pF8 : PL K [a] BF 21 FD H8 := g1.leave.imp (fun _ h => h) (by omega)
  have tv8 : TD K (rmL [a] H8) (.ref v) (e.2.map PyData.str) := ((tv6.same (rm_same s7)).same g4).same (rm_sub leS)
  have tE8 : DpAll K (rmL [a] H8) (ps.map V.ref) (t.map entryD) := dps_same (rm_sub leS) (dps_same g4 (dps_same (rm_same s7) tE6))
  have A8 := F8.alive
  have hp8 := k8 _ _ hpa hp
  clear tE6 tv6 pX pW6 pF6 pW5 pF5 tv5 tE5 pY g1 g4 y3
  -- odd
  obtain ⟨w0, wr, ew0⟩ : ∃ w0 wr, e.2 = w0 :: wr := by
    cases h : e.2 with
    | nil =>
      rw [h] at hv1
      cases hv1
    | cons x y => exact ⟨x, y, rfl⟩
  have ev0 : (e.2.map V.str)[0]? = some (.str w0) := by rw [ew0] <;> rfl
  refine ⟨by show 0 ≤ sizeLine; decide, fun z1 o1 hz1 ho1 => ⟨_, rfl, _, rfl, _, rfl, ?_⟩⟩
  have t1 := new_same hz1 (.frz o1 (.tup []))
  have dz1 : Dp K (rmL [a] (upd H8 z1 (.frz o1 (.tup [])))) (.ref z1) (.tuple []) := TD.dp (tup_td A8 hz1 .nil)
  refine to_td (k := 1) (A8.same t1) (tv8.same (rm_same t1)) (fun u1 H9 t2 td1 => ?_)
  refine cat_td ((A8.same t1).same t2) ((tv8.same (rm_same t1)).same (rm_same t2)) td1 (by rw [List.length_take, List.length_map]; omega) (fun u2 HA t3 td2 => ?_)
  have t13 := (t1.trans t2).trans t3
  have tvSA : SqT K HA v (e.2.map V.str) := by
    obtain ⟨v', xs, ev', h1, h2⟩ := tv8
    cases ev'
    have : xs = e.2.map V.str := by
      have h3 : ∀ {xs : List V} {ws : List Str}, DpAll K (rmL [a] H8) xs (ws.map PyData.str) → xs = ws.map V.str := by
        intro xs ws
        induction ws generalizing xs with
        | nil => intro h; cases h; rfl
        | cons y ws ih =>
          intro h
          rw [List.map_cons] at h
          cases h with
          | cons a b =>
            cases a
            rw [ih b]
            rfl
      exact h3 h2
    rw [← this]
    exact seqT_same t13 (seqT_same rm_le h1)
  refine ⟨_, rfl, ix_row (.inr tvSA) (at_of rfl ev0) ?_⟩
  unfold tCons tC tCB
  refine lc_rng (K := K) (S := [a]) (m := 6) ((List.range 6).map fun j => PyData.str ((⟨#[97 + j]⟩ : Str) ++ cutS e.1 none (some 7))) (A8.same t13) (fun Q' z => z) (by decide) rfl (fun _ => rfl) (fun D j ed H' Qc ej AD sH sR kQ => ?_) (fun D us H' hD sH hus dus => ?_)
  · have hj6 : j < 6 := by
      have := (List.getElem?_eq_some_iff.mp ej).1
      rwa [List.length_map, List.length_range] at this
    have hed : ed = PyData.str ((⟨#[97 + j]⟩ : Str) ++ cutS e.1 none (some 7)) := by
      rw [List.getElem?_map, List.getElem?_range hj6] at ej
      exact (Option.some.inj ej).symm
    refine ⟨_, rfl, _, _, _, rfl, rfl, (by show 6 ≤ sizeLine; decide), abc6_at j hj6, _, rfl, _, rfl, _, rfl, ln, _, _, rfl, rfl, ?_, kQ _ _ (Same.refl H') (by rw [hed]; exact .str _)⟩
    have := cutS_short e.1 none (some 7)
    refine le_line ?_
    show 1 + (cutS e.1 none (some 7)).length ≤ 1000
    omega
  refine ⟨D, us, rfl, .inl ⟨SqL.of hus, fun z6 o6 hz6 ho6 => ⟨by show 7 ≤ sizeLine; decide, fun OD hOD => ?_⟩⟩⟩
  have t5 := new_same hz6 (.frz o6 (.tup us))
  have AH' := (A8.same t13).same sH
  have d6 : Dp K (rmL [a] (upd H' z6 (.frz o6 (.tup us)))) (.ref z6) (.tuple ((List.range 6).map fun j => PyData.str ((⟨#[97 + j]⟩ : Str) ++ cutS e.1 none (some 7)))) := TD.dp (tup_td AH' hz6 (dps_same (rm_sub fun x hx => List.mem_cons_of_mem _ hx) dus))
  have t15 := (t13.trans sH).trans t5
  have tA5 := sH.trans t5
  have pO : PL K [a] OV 7 OD (upd (upd H' z6 (.frz o6 (.tup us))) OD (.lst [V.ref z1, u2, V.str w0, V.non, V.int 5, V.bl true, V.ref z6])) := by
    refine PL.new (vs := [V.ref z1, u2, V.str w0, V.non, V.int 5, V.bl true, V.ref z6]) (ds := [.tuple [], .tuple (e.2.map PyData.str ++ (e.2.map PyData.str).take 1), .str w0, .none, .int 5, .bool true, .tuple ((List.range 6).map fun j => PyData.str ((⟨#[97 + j]⟩ : Str) ++ cutS e.1 none (some 7)))]) hOD ?_ ?_
    · exact .cons (dp_same (rm_same ((t2.trans t3).trans tA5)) dz1) (.cons (dp_same (rm_same tA5) td2.dp) (.cons (.str _) (.cons .non (.cons (.int 5) (.cons (.bl true) (.cons d6 .nil))))))
    · intro d hd
      simp only [List.mem_cons, List.not_mem_nil, or_false] at hd
      rcases hd with rfl | rfl | rfl | rfl | rfl | rfl | rfl
      · exact ov_none rfl
      · exact ov_twice rfl hv1 hvw.2
      · exact vals_norow rfl
      · exact vals_norow rfl
      · exact vals_norow rfl
      · exact vals_norow rfl
      · refine ov_long rfl (by rw [List.length_map, List.length_range]; decide) fun x hx => ?_
        obtain ⟨j, _, rfl⟩ := List.mem_map.mp hx
        exact cut7_short hn
  have tO := t15.trans (new_same hOD (.lst [V.ref z1, u2, V.str w0, V.non, V.int 5, V.bl true, V.ref z6]))
  dsimp only
  generalize upd (upd H' z6 (.frz o6 (.tup us))) OD (.lst [V.ref z1, u2, V.str w0, V.non, V.int 5, V.bl true, V.ref z6]) = HB at pO tO
  have AB := A8.same tO
  have pFB := pF8.same tO
  have tvB := tv8.same (rm_same tO)
  have tEB := dps_same (rm_same (S := [a]) tO) tE8
  have hpB := tO _ _ hp8
  have FB := F8.same tO
  have kB : Kept a H HB := k8.trans (Kept.of_same tO)
  -- found, once more
  refine ⟨_, rfl, ?_⟩
  refine lc_pl (P := OV) (P' := BF) (n := 7) (S := [a]) AB (fun Q' z => ⟨_, rfl, z⟩) pO (by decide) (fun _ => rfl) (fun D x d H' Qc AD sH sR hx hd kQ => ?_) (fun GD' HC hGD sC pG => ?_)
  · refine ⟨_, rfl, _, rfl, by show 2 ≤ sizeLine; decide, fun z o hz ho => ?_⟩
    exact kQ _ _ _ (new_same hz _) (TD.dp (tup_td AD hz (.cons (.str _) (.cons hx .nil)))) (bf_vals hn hd.1 hd.2)
  refine PL.cat (pFB.same sC) pG.leave (by decide) (fun ND HD sD hND pN => ?_)
  have sBD := sC.trans sD
  have AD := AB.same sBD
  refine ⟨by show 0 ≤ sizeLine; decide, fun x1 q1 hx1 hq1 => ⟨_, rfl, by show 1 ≤ sizeLine; decide, fun x2 q2 hx2 hq2 => ⟨_, rfl, _, rfl, _, rfl, by show 3 ≤ sizeLine; decide, fun x3 q3 hx3 hq3 => ⟨_, rfl, by show 7 ≤ sizeLine; decide, fun LD hLD => ?_⟩⟩⟩⟩
  have v1 := new_same hx1 (.frz q1 (.tup []))
  have v2 := new_same hx2 (.frz q2 (.tup [V.str e.1]))
  have v3 := new_same hx3 (.frz q3 (.tup [V.str e.1, .ref v, .ref v]))
  have dx1 := TD.dp (tup_td (K := K) (o := q1) AD hx1 .nil)
  have dx2 := TD.dp (tup_td (K := K) (o := q2) (AD.same v1) hx2 (.cons (Dp.str (K := K) e.1) .nil))
  have dvB := (tvB.same (rm_same ((sBD.trans v1).trans v2))).dp
  have dx3 := TD.dp (tup_td (K := K) (o := q3) ((AD.same v1).same v2) hx3 (.cons (Dp.str (K := K) e.1) (.cons dvB (.cons dvB .nil))))
  have v13 := (v1.trans v2).trans v3
  have dx1' := dp_same (rm_same (S := [a]) (v2.trans v3)) dx1
  have dx2' := dp_same (rm_same (S := [a]) v3) dx2
  have pL : PL K [a] BF 7 LD (upd (upd (upd (upd HD x1 (.frz q1 (.tup []))) x2 (.frz q2 (.tup [V.str e.1]))) x3 (.frz q3 (.tup [V.str e.1, .ref v, .ref v]))) LD (.lst [V.ref x1, V.ref x2, V.ref x3, V.str e.1, V.non, V.int 5, V.str "ab"])) := by
    refine PL.new (vs := [V.ref x1, V.ref x2, V.ref x3, V.str e.1, V.non, V.int 5, V.str "ab"]) (ds := [.tuple [], .tuple [.str e.1], .tuple [.str e.1, .tuple (e.2.map PyData.str), .tuple (e.2.map PyData.str)], .str e.1, .none, .int 5, .str "ab"]) hLD ?_ ?_
    · exact .cons dx1' (.cons dx2' (.cons dx3 (.cons (.str _) (.cons .non (.cons (.int 5) (.cons (.str _) .nil))))))
    · intro d hd
      simp only [List.mem_cons, List.not_mem_nil, or_false] at hd
      rcases hd with rfl | rfl | rfl | rfl | rfl | rfl | rfl <;> exact bf_nopair rfl
  have v14 := v13.trans (new_same hLD (.lst [V.ref x1, V.ref x2, V.ref x3, V.str e.1, V.non, V.int 5, V.str "ab"]))
  generalize upd (upd (upd (upd HD x1 (.frz q1 (.tup []))) x2 (.frz q2 (.tup [V.str e.1]))) x3 (.frz q3 (.tup [V.str e.1, .ref v, .ref v]))) LD (.lst [V.ref x1, V.ref x2, V.ref x3, V.str e.1, V.non, V.int 5, V.str "ab"]) = HE at pL v14
  refine PL.cat (pN.same v14) pL (by decide) (fun RD HF sF hRD pR => ?_)
  have sBF := (sBD.trans v14).trans sF
  have AF := AB.same sBF
  have tEF := dps_same (rm_same (S := [a]) sBF) tEB
  have hpF := sBF _ _ hpB
  clear dx1 dx2 dx3 dx1' dx2' dvB pN pL pG pFB pF8 tE8
  -- rows
  dsimp only
  refine asg_lc (lc_pl (P := BF) (P' := BadT) (n := 35) (S := [a]) AF (fun Q' z => ⟨_, rfl, z⟩) pR (by decide) (fun _ => rfl) (fun D x d H' Qc AD' sH sR hx hd kQ => ?_) (fun SD HG hSD sG pS => ?_))
  · have hpH := sH _ _ hpF
    have tEH := dps_same sR tEF
    refine ⟨_, rfl, _, rfl, _, rfl, p, _, rfl, SqL.of hpH, fun y1 hy1 => ⟨_, rfl, by show 1 ≤ sizeLine; decide, fun y2 hy2 => ?_⟩⟩
    have b1 := new_same hy1 (.lst (cutV (ps.map V.ref) none (some (i : Int))))
    have b2 := new_same hy2 (.lst [x])
    have g1 := b2 _ _ (upd_same (H := H') (a := y1) (o := .lst (cutV (ps.map V.ref) none (some (i : Int)))))
    have g2 : upd (upd H' y1 (.lst (cutV (ps.map V.ref) none (some (i : Int))))) y2 (.lst [x]) y2 = some (.lst [x]) := upd_same
    refine ⟨y1, y2, _, _, rfl, rfl, g1, g2, ?_, fun y3 hy3 => ?_⟩
    · refine le_line ?_
      rw [cutV_to, List.length_take, List.length_singleton]
      omega
    have b3 := new_same hy3 (.lst (cutV (ps.map V.ref) none (some (i : Int)) ++ [x]))
    have b13 := (b1.trans b2).trans b3
    refine ⟨_, rfl, _, rfl, _, _, rfl, rfl, _, rfl, p, _, rfl, SqL.of (b13 _ _ hpH), fun y4 hy4 => ?_⟩
    have b4 := new_same hy4 (.lst (cutV (ps.map V.ref) (some ((i : Int) + 1)) none))
    have g3 := b4 _ _ (upd_same (H := upd (upd H' y1 (.lst (cutV (ps.map V.ref) none (some (i : Int))))) y2 (.lst [x])) (a := y3) (o := .lst (cutV (ps.map V.ref) none (some (i : Int)) ++ [x])))
    have ec : cutV (ps.map V.ref) (some ((i : Int) + 1)) none = (ps.map V.ref).drop (i + 1) := cutV_from _ (i + 1)
    refine ⟨y3, y4, _, _, rfl, rfl, g3, upd_same, ?_, fun y5 hy5 => ?_⟩
    · refine le_line ?_
      rw [ec, cutV_to, List.length_append, List.length_take, List.length_singleton, List.length_drop]
      omega
    have b5 := new_same hy5 (.lst (cutV (ps.map V.ref) none (some (i : Int)) ++ [x] ++ cutV (ps.map V.ref) (some ((i : Int) + 1)) none))
    have b15 := (b13.trans b4).trans b5
    refine kQ _ _ (.list ((t.map entryD).take i ++ [d] ++ (t.map entryD).drop (i + 1))) b15 ?_ ⟨bad_in rfl (List.mem_append_left _ (List.mem_append_right _ (List.mem_singleton.mpr rfl))) hd.1, bad_short rfl fun f hf => ?_⟩
    · refine .lst (SqL.of ?_) (dps_same (rm_same b15) (dps_app (dps_app (dps_take i tEH) (.cons hx .nil)) (dps_drop (i + 1) tEH)))
      rw [rm_new (AD'.same (b13.trans b4)) hy5, cutV_to, ec]
    · rcases List.mem_append.mp hf with hf | hf
      · rcases List.mem_append.mp hf with hf | hf
        · exact hfs f (List.mem_of_mem_take hf)
        · rw [List.mem_singleton.mp hf]
          exact hd.2
      · exact hfs f (List.mem_of_mem_drop hf)
  -- seven
  have pS' := pS.leave
  have AG := AF.same sG
  have sBG := sBF.trans sG
  have hpG := sG _ _ hpF
  have tEG := dps_same (rm_same (S := [a]) sG) tEF
  have FG := FB.same sBG
  have kG : Kept a H HG := kB.trans (Kept.of_same sBG)
  refine asg_lc (lc_rng (K := K) (S := [a]) (m := 7) ((List.range 7).map fun j => PyData.tuple [.str ((⟨#[97 + j]⟩ : Str) ++ cutS e.1 none (some 7)), .tuple [.str "a"]]) AG (fun Q' z => z) (by decide) rfl (fun _ => rfl) (fun D j ed H' Qc ej AD sH sR kQ => ?_) (fun VD us HI hVD sI hus dus => ?_))
  · have hj7 : j < 7 := by
      have := (List.getElem?_eq_some_iff.mp ej).1
      rwa [List.length_map, List.length_range] at this
    have hed : ed = PyData.tuple [.str ((⟨#[97 + j]⟩ : Str) ++ cutS e.1 none (some 7)), .tuple [.str "a"]] := by
      rw [List.getElem?_map, List.getElem?_range hj7] at ej
      exact (Option.some.inj ej).symm
    refine ⟨_, rfl, _, _, _, rfl, rfl, (by show 7 ≤ sizeLine; decide), abc7_at j hj7, _, rfl, _, rfl, _, rfl, ln, _, _, rfl, rfl, ?_, by show 1 ≤ sizeLine; decide, fun y1 q1 hy1 _ => ⟨by show 2 ≤ sizeLine; decide, fun y2 q2 hy2 _ => ?_⟩⟩
    · have := cutS_short e.1 none (some 7)
      refine le_line ?_
      show 1 + (cutS e.1 none (some 7)).length ≤ 1000
      omega
    have b1 := new_same hy1 (.frz q1 (.tup [V.str "a"]))
    have d1 := TD.dp (tup_td (K := K) (o := q1) AD hy1 (.cons (.str "a") .nil))
    refine kQ _ _ (b1.trans (new_same hy2 _)) ?_
    rw [hed]
    exact TD.dp (tup_td (AD.same b1) hy2 (.cons (.str _) (.cons d1 .nil)))
  have AI := AG.same sI
  have hpI := sI _ _ hpG
  have tEI := dps_same (rm_same (S := [a]) sI) tEG
  have dusI : DpAll K (rmL [a] HI) us ((List.range 7).map fun j => PyData.tuple [.str ((⟨#[97 + j]⟩ : Str) ++ cutS e.1 none (some 7)), .tuple [.str "a"]]) := dps_same (rm_sub fun x hx => List.mem_cons_of_mem _ hx) dus
  have VDn : VD ∉ [a] := fun z => AG VD z hVD
  -- the end
  refine ⟨_, rfl, by show 0 ≤ sizeLine; decide, fun m1 hm1 => ⟨by show 0 ≤ sizeLine; decide, fun m2 n2 hm2 _ => ⟨_, rfl, _, rfl, _, rfl, VD, us, rfl, .inl ⟨?_, fun m3 n3 hm3 _ => ?_⟩⟩⟩⟩
  · exact SqL.of (new_same hm2 _ _ _ (new_same hm1 _ _ _ hus))
  have b1 := new_same hm1 (.lst [])
  have b2 := new_same hm2 (.frz n2 (.tup []))
  have b3 := new_same hm3 (.frz n3 (.tup us))
  have b13 := (b1.trans b2).trans b3
  refine ⟨_, rfl, _, rfl, p, _, rfl, SqL.of (b13 _ _ hpI), fun m4 hm4 => ?_⟩
  have b4 := new_same hm4 (.lst (cutV (ps.map V.ref) none (some 1)))
  refine ⟨_, rfl, _, rfl, p, _, rfl, SqL.of (b4 _ _ (b13 _ _ hpI)), fun m5 hm5 => ?_⟩
  have b5 := new_same hm5 (.lst (cutV (ps.map V.ref) none (some 1)))
  have ec : cutV (ps.map V.ref) none (some 1) = (ps.map V.ref).take 1 := cutV_to _ 1
  refine ⟨m4, m5, _, _, rfl, rfl, b5 _ _ upd_same, upd_same, ?_, fun m6 hm6 => ?_⟩
  · refine le_line ?_
    rw [ec, List.length_take]
    omega
  have b6 := new_same hm6 (.lst (cutV (ps.map V.ref) none (some 1) ++ cutV (ps.map V.ref) none (some 1)))
  have b16 := ((b13.trans b4).trans b5).trans b6
  refine ⟨_, rfl, by show 1 ≤ sizeLine; decide, fun m7 hm7 => ⟨by show 11 ≤ sizeLine; decide, fun m8 hm8 => ?_⟩⟩
  have b7 := new_same hm7 (.lst [V.ref p])
  have b17 := b16.trans b7
  have A2 := AI.same b1
  have A3' := A2.same b2
  have A4 := A3'.same b3
  have A5 := (A4.same b4).same b5
  have A6 := A5.same b6
  have dm1 := dp_same (rm_same (S := [a]) (((((b2.trans b3).trans b4).trans b5).trans b6).trans b7)) (lst_dp (K := K) AI hm1 .nil)
  have dm2 := dp_same (rm_same (S := [a]) ((((b3.trans b4).trans b5).trans b6).trans b7)) (TD.dp (tup_td (K := K) (o := n2) A2 hm2 .nil))
  have dm3 := dp_same (rm_same (S := [a]) (((b4.trans b5).trans b6).trans b7)) (TD.dp (tup_td (K := K) (o := n3) A3' hm3 (dps_same (rm_same (b1.trans b2)) dusI)))
  have dm6 := dp_same (rm_same (S := [a]) b7) (lst_dp (K := K) A5 hm6 (dps_same (rm_same ((b13.trans b4).trans b5)) (by rw [ec]; exact dps_app (dps_take 1 tEI) (dps_take 1 tEI))))
  have hpan : p ∉ [a] := fun z => hpa (List.mem_singleton.mp z)
  have dp' : Dp K (rmL [a] HI) (.ref p) (.list (t.map entryD)) := .lst (SqL.of (by rw [rm_at hpan]; exact hpI)) tEI
  have dm7 := lst_dp (K := K) A6 hm7 (.cons (dp_same (rm_same b16) dp') .nil)
  have dVD : Dp K (rmL [a] HI) (.ref VD) (.list ((List.range 7).map fun j => PyData.tuple [.str ((⟨#[97 + j]⟩ : Str) ++ cutS e.1 none (some 7)), .tuple [.str "a"]])) := .lst (SqL.of (by rw [rm_at VDn]; exact hus)) dusI
  have dVD' := dp_same (rm_same (S := [a]) b17) dVD
  have hsev : ∀ f ∈ ((List.range 7).map fun j => PyData.tuple [.str ((⟨#[97 + j]⟩ : Str) ++ cutS e.1 none (some 7)), .tuple [.str "a"]]), FS f := fun f hf => by
    obtain ⟨j, _, rfl⟩ := List.mem_map.mp hf
    intro a b ep
    cases ep
    refine ⟨cut7_short hn, mshort_of (ws := [.str "a"]) rfl fun d hd => ?_⟩
    rw [List.mem_singleton.mp hd]
    exact (by show (1 : Nat) ≤ 1000000; decide)
  obtain ⟨x0, xr, ex0⟩ : ∃ x0 xr, t = x0 :: xr := by
    cases h : t with
    | nil =>
      rw [h] at ht1
      cases ht1
    | cons x y => exact ⟨x, y, rfl⟩
  have hx0 : x0 ∈ t := by rw [ex0]; exact List.mem_cons_self
  have e1 : (t.map entryD).take 1 ++ (t.map entryD).take 1 = [entryD x0, entryD x0] := by rw [ex0] <;> rfl
  rw [e1] at dm6
  have pZ := PL.new (S := [a]) (P := BadT) (vs := [V.ref m1, V.ref m2, V.non, V.int 5, V.bl true, V.str "ab", V.str e.1, V.ref VD, V.ref m3, V.ref m6, V.ref m7]) hm8
    (.cons dm1 (.cons dm2 (.cons .non (.cons (.int 5) (.cons (.bl true) (.cons (.str "ab") (.cons (.str e.1) (.cons dVD' (.cons (dp_same (rm_same (S := [a]) (new_same hm7 (.lst [V.ref p]))) (dp_same (rm_same (S := [a]) b6) (dp_same (rm_same (S := [a]) b5) (dp_same (rm_same (S := [a]) b4) (TD.dp (tup_td (K := K) (o := n3) A3' hm3 (dps_same (rm_same (b1.trans b2)) dusI))))))) (.cons dm6 (.cons dm7 .nil)))))))))))
    (fun d hd => by
      simp only [List.mem_cons, List.not_mem_nil, or_false] at hd
      rcases hd with rfl | rfl | rfl | rfl | rfl | rfl | rfl | rfl | rfl | rfl | rfl
      · exact badT_none rfl
      · exact badT_none rfl
      · exact bad_norow rfl
      · exact bad_norow rfl
      · exact bad_norow rfl
      · exact bad_norow rfl
      · exact bad_norow rfl
      · exact badT_many rfl (by rw [List.length_map, List.length_range]; decide) hsev
      · exact badT_many rfl (by rw [List.length_map, List.length_range]; decide) hsev
      · exact badT_twice rfl (G.nm.2 _ (List.mem_map.mpr ⟨x0, hx0, rfl⟩)) (G.vs x0 hx0).1.2
      · exact badT_within rfl fun x hx => G.nm.2 _ (List.mem_map.mpr ⟨x, hx, rfl⟩))
  have b18 := b17.trans (new_same hm8 (.lst [V.ref m1, V.ref m2, V.non, V.int 5, V.bl true, V.str "ab", V.str e.1, V.ref VD, V.ref m3, V.ref m6, V.ref m7]))
  refine PL.catN (pS'.same (sI.trans b18)) pZ upd_same (by show 0 < 11; decide) (by show 35 + 11 ≤ 1000; decide) (fun z HZ sZ hz pZZ neZ => ?_)
  have sGZ := (sI.trans b18).trans sZ
  refine k z HZ (pZZ.imp (fun _ h => h) (by show 35 + 11 ≤ 200; decide)) neZ (fun y => ?_) (FG.same sGZ) (kG.trans (Kept.of_same sGZ))
  rw [y] at hz
  exact (AI.same b18) a List.mem_cons_self hz
end
end Q
set_option Elab.async false
set_option linter.all false
set_option maxRecDepth 100000
set_option maxHeartbeats 4000000
/-! ### what wrong rules are -/
namespace Q
open PySem L2 XD
def pairD (e : Str × Str) : PyData := .tuple [.str e.1, .str e.2]
theorem sqZ_rm {H : Hp} {a q : Addr} {xs ys : List V} (e : H a = some (.lst ys)) (h : SqZ H q xs) : SqZ (rmL [a] H) q xs := by
  obtain ⟨o, h, d⟩ := h
  refine ⟨o, ?_, d⟩
  rw [rm_at (fun z => by rw [List.mem_singleton.mp z, e] at h; cases h)]
  exact h
theorem prd_rm {K : PySem.W.Frag} {H : Hp} {a : Addr} {ys : List V} (e : H a = some (.lst ys)) : ∀ {qs : List Addr} {r : List (Str × Str)}, Paired (fun q (e : Str × Str) => SqT K H q [.str e.1, .str e.2]) qs r → Paired (fun q (e : Str × Str) => SqT K (rmL [a] H) q [.str e.1, .str e.2]) qs r
  | _, _, .nil => .nil
  | _, _, .cons x y => .cons (seqT_rm e x) (prd_rm e y)
theorem RuleAt.rm {K : PySem.W.Frag} {H : Hp} {a p : Addr} {ys : List V} {r : List (Str × Str)} (e : H a = some (.lst ys)) (h : RuleAt K H p r) : RuleAt K (rmL [a] H) p r := by
  obtain ⟨qs, h1, h2⟩ := h
  exact ⟨qs, sqZ_rm e h1, prd_rm e h2⟩
theorem rules_rm {K : PySem.W.Frag} {H : Hp} {a : Addr} {ys : List V} (e : H a = some (.lst ys)) : ∀ {qs : List Addr} {rs : List (List (Str × Str))}, Paired (RuleAt K H) qs rs → Paired (RuleAt K (rmL [a] H)) qs rs
  | _, _, .nil => .nil
  | _, _, .cons x y => .cons (x.rm e) (rules_rm e y)
theorem RuleAt.td {K : PySem.W.Frag} {H : Hp} {p : Addr} {r : List (Str × Str)} (h : RuleAt K H p r) : TD K H (.ref p) (r.map pairD) := TD.of h.dp
theorem PL.catIn {K : PySem.W.Frag} {S : List Addr} {P : PyData → Prop} {n m : Nat} {D E : Addr} {H : Hp} {Q : VK} (h : PL K S P n D H) (g : PL K S P m E H) (hl : n + m ≤ 1000) (k : ∀ z H', Same H H' → H z = none → PL K (z :: S) P (n + m) z H' → Q (.ref z) H') : rCat (.ref D) (.ref E) H Q := by
  obtain ⟨vs, h1, h2, h3⟩ := h.ex
  obtain ⟨us, g1, g2, g3⟩ := g.ex
  refine ⟨D, E, vs, us, rfl, rfl, h1, g1, le_line (by omega), fun z hz => k z _ (new_same hz _) hz ⟨vs ++ us, upd_same, by rw [List.length_append]; omega, fun v hv => ?_⟩⟩
  have s := same_in (S := S) hz (new_same hz (.lst (vs ++ us)))
  rcases List.mem_append.mp hv with hv | hv
  · obtain ⟨d, a, b⟩ := h3 v hv
    exact ⟨d, dp_same s a, b⟩
  · obtain ⟨d, a, b⟩ := g3 v hv
    exact ⟨d, dp_same s a, b⟩
/-! texts and shapes -/
theorem ok_of {s : Str} (h : ∀ c ∈ tlx s, c < 0x110000) : PyData.strOk s = true := by
  unfold PyData.strOk
  rw [← Array.all_toList]
  exact List.all_eq_true.mpr fun c hc => decide_eq_true (h c hc)
theorem word_small {n : Str} (h : word n = true) : ∀ c ∈ tlx n, c < 0x110000 := fun c hc => az_small (List.all_eq_true.mp (word_iff.mp h).2.2 c hc)
theorem ok_app {n m : Str} (h : ∀ c ∈ tlx n, c < 0x110000) (h' : ∀ c ∈ tlx m, c < 0x110000) : PyData.strOk (n ++ m) = true := ok_of fun c hc => by
  rw [tlx_app] at hc
  rcases List.mem_append.mp hc with hc | hc
  · exact h c hc
  · exact h' c hc
theorem upper_small : ∀ l : List Nat, l.all az = true → ∀ c ∈ tlx (Txt.upper ⟨l.toArray⟩), c < 0x110000
  | [], _ => fun c hc => by
    have : tlx (Txt.upper ⟨#[]⟩) = [] := by decide +kernel
    have h2 : c ∈ tlx (Txt.upper ⟨#[]⟩) := hc
    rw [this] at h2
    cases h2
  | x :: l, h => fun c hc => by
    rw [List.all_cons, Bool.and_eq_true] at h
    obtain ⟨c1, c2⟩ := az_iff h.1
    have es : (⟨(x :: l).toArray⟩ : Str) = (⟨#[x]⟩ : Str) ++ ⟨l.toArray⟩ := tlx_inj (by rw [tlx_app]; rfl)
    rw [es, PySem.W.KOpn.upper_app, PySem.W.KOpn.upper_one (by omega), tlx_app] at hc
    rcases List.mem_append.mp hc with hc | hc
    · rw [tlx_one] at hc
      rw [List.mem_singleton.mp hc]
      split <;> omega
    · exact upper_small l h.2 c hc
theorem upper_ok {n : Str} (h : word n = true) : PyData.strOk (Txt.upper n) = true := by
  have e : n = ⟨(tlx n).toArray⟩ := tlx_inj rfl
  refine ok_of ?_
  rw [e]
  exact upper_small _ (word_iff.mp h).2.2
theorem tup1_shaped {n : Str} (h : PyData.strOk n = true) : SeqAt.shaped (.tuple [.str n]) = true := by
  unfold SeqAt.shaped
  rw [Bool.and_eq_true]
  refine ⟨?_, decide_eq_true ?_⟩
  · simp only [PyData.canLay0, PyData.canLayAll0, Bool.and_true]
    exact h
  · simp [PyData.depth, PyData.depthAll]
def NO (d : PyData) : Prop := isWord d = false ∧ SeqAt.shaped d = true
/-! rules -/
def GS (f : PyData) : Prop := ∀ a b, pairOf f = some (a, b) → SeqAt.shaped b = true
theorem fok_of {d : PyData} {fs : List PyData} (e : rowOf d = some fs) (h : ∀ f ∈ fs, GS f) : FOk d := fun gs eg f hf a b ep => by
  rw [e] at eg
  cases eg
  exact h f hf a b ep
theorem gs_pair {e : Str × Str} (h : PyData.strOk e.2 = true) : GS (pairD e) := fun a b ep => by
  cases ep
  exact str_shaped h
theorem gs_two {x b : PyData} (h : SeqAt.shaped b = true) : GS (.tuple [x, b]) := fun a c ep => by
  cases ep
  exact h
theorem gs_none {f : PyData} (h : pairOf f = none) : GS f := fun a b ep => by
  rw [h] at ep
  cases ep
def BR (t : List (Str × List Str)) (d : PyData) : Prop := ruleOk t d = false ∧ FOk d
def BadB (t : List (Str × List Str)) (d : PyData) : Prop := areRules t d = false ∧ ROk d
section
variable {t : List (Str × List Str)}
theorem br_norow {d : PyData} (e : rowOf d = none) : BR t d := by
  refine ⟨?_, fun fs h => by rw [e] at h; cases h⟩
  unfold ruleOk
  rw [e]
theorem br_empty {d : PyData} (e : rowOf d = some []) : BR t d := by
  refine ⟨?_, fok_of e fun f h => absurd h List.not_mem_nil⟩
  unfold ruleOk
  rw [e]
  show (areFacts t d && (decide (1 ≤ ([] : List PyData).length) && _)) = false
  have : decide (1 ≤ ([] : List PyData).length) = false := rfl
  rw [this, Bool.false_and, Bool.and_false]
theorem br_go {d : PyData} {fs : List PyData} (e : rowOf d = some fs) (h : goFacts t [] fs = false) (g : ∀ f ∈ fs, GS f) : BR t d := by
  refine ⟨ruleOk_no ?_, fok_of e g⟩
  unfold areFacts
  rw [e]
  show (decide (fs.length ≤ t.length) && goFacts t [] fs) = false
  rw [h, Bool.and_false]
theorem go_name (T : TabOk t) {d b : PyData} {fs : List PyData} {seen : List Str} (h : isWord d = false) : goFacts t seen (.tuple [d, b] :: fs) = false := by
  cases es : isStr d with
  | false => exact go_nostr (a := d) (b := b) rfl es
  | true =>
    obtain ⟨n, rfl⟩ : ∃ n, d = .str n := by
      cases d <;> first | exact ⟨_, rfl⟩ | cases es
    refine go_new (n := n) (b := b) rfl ?_
    cases e : look n t with
    | none => rfl
    | some ws =>
      have := T.nm.2 n (List.mem_map.mpr ⟨_, look_mem e, rfl⟩)
      have h2 : word n = false := h
      rw [this] at h2
      cases h2
theorem go_strange {n : Str} {b : PyData} {fs : List PyData} {seen : List Str} (h : n ∉ t.map (·.1)) : goFacts t seen (.tuple [.str n, b] :: fs) = false := by
  refine go_new (n := n) (b := b) rfl ?_
  cases e : look n t with
  | none => rfl
  | some ws => exact absurd (List.mem_map.mpr ⟨_, look_mem e, rfl⟩) h
theorem go_value {n : Str} {d : PyData} {fs : List PyData} {seen : List Str} (h : ∀ ws, (n, ws) ∈ t → stands ws d = false) : goFacts t seen (.tuple [.str n, d] :: fs) = false := by
  cases e : look n t with
  | none => exact go_new (n := n) (b := d) rfl e
  | some ws =>
    rw [go_old (n := n) (b := d) rfl e, h ws (look_mem e), Bool.false_and, Bool.and_false]
theorem stands_no (T : TabOk t) {n : Str} {ws : List Str} {d : PyData} (h : (n, ws) ∈ t) (hd : isWord d = false) : stands ws d = false := by
  cases e : stands ws d with
  | false => rfl
  | true =>
    obtain ⟨w, rfl, hw⟩ := stands_str e
    have := (T.vs _ h).1.2 w hw
    have h2 : word w = false := hd
    rw [this] at h2
    cases h2
theorem go_nodup : ∀ {fs : List PyData} {seen : List Str}, goFacts t seen fs = true → ((fs.map factOf).map (·.1)).Nodup ∧ ∀ e ∈ fs.map factOf, e.1 ∉ seen
  | [], _, _ => ⟨List.nodup_nil, fun e h => absurd h List.not_mem_nil⟩
  | f :: fs, seen, h => by
    obtain ⟨n, w, ws, e1, e2, e3, e4, e5⟩ := go_cons h
    obtain ⟨i1, i2⟩ := go_nodup e5
    have ef : factOf f = (n, w) := by
      unfold factOf
      rw [e1]
    rw [List.map_cons, List.map_cons, ef, List.nodup_cons]
    refine ⟨⟨fun z => ?_, i1⟩, fun e he => ?_⟩
    · obtain ⟨e, he, z2⟩ := List.mem_map.mp z
      exact i2 e he (by rw [show e.1 = n from z2]; exact List.mem_cons_self)
    · rcases List.mem_cons.mp he with rfl | he
      · intro z
        have : seen.contains n = true := by simpa using z
        rw [this] at e4
        cases e4
      · exact fun z => i2 e he (List.mem_cons_of_mem _ z)
theorem facts_pairs (r : List (Str × Str)) : (r.map pairD).map factOf = r := by
  rw [List.map_map]
  exact List.map_id _
theorem go_twice {r : List (Str × Str)} {seen : List Str} (h : ¬ (r.map (·.1)).Nodup) : goFacts t seen (r.map pairD) = false := by
  cases e : goFacts t seen (r.map pairD) with
  | false => rfl
  | true =>
    have := (go_nodup e).1
    rw [facts_pairs] at this
    exact absurd this h
/-! lists of rules -/
theorem badB_norow {d : PyData} (e : rowOf d = none) : BadB t d := by
  refine ⟨?_, fun fs h => by rw [e] at h; cases h⟩
  unfold areRules
  rw [e]
theorem badB_in {d f : PyData} {fs : List PyData} (e : rowOf d = some fs) (hf : f ∈ fs) (h : ruleOk t f = false) (hs : ∀ f ∈ fs, FOk f) : BadB t d := by
  refine ⟨?_, fun gs eg f hf => by rw [e] at eg; cases eg; exact hs f hf⟩
  unfold areRules
  rw [e]
  show (decide (fs.length ≤ 20) && fs.all (ruleOk t)) = false
  have : fs.all (ruleOk t) = false := List.all_eq_false.mpr ⟨f, hf, by rw [h]; exact fun z => by cases z⟩
  rw [this, Bool.and_false]
theorem badB_many {d : PyData} {fs : List PyData} (e : rowOf d = some fs) (h : 20 < fs.length) (hs : ∀ f ∈ fs, FOk f) : BadB t d := by
  refine ⟨?_, fun gs eg f hf => by rw [e] at eg; cases eg; exact hs f hf⟩
  unfold areRules
  rw [e]
  show (decide (fs.length ≤ 20) && fs.all (ruleOk t)) = false
  rw [decide_eq_false (by omega : ¬ fs.length ≤ 20), Bool.false_and]
end
/-! seven words -/
def wds7 : List Str := (("abcdefg" : Str).cps.toList).map fun c => (⟨#[c]⟩ : Str) ++ "bcdefgi"
theorem wds7_nodup : wds7.Nodup := by decide +kernel
theorem wds7_len : wds7.length = 7 := by decide +kernel
theorem wds7_ok : ∀ x ∈ wds7, PyData.strOk x = true := by decide +kernel
theorem left_over {ns : List Str} (h : ns.length < 7) : ∃ x l, wds7.filter (fun w => !decide (w ∈ ns)) = x :: l ∧ x ∉ ns ∧ x ∈ wds7 := by
  cases e : wds7.filter (fun w => !decide (w ∈ ns)) with
  | nil =>
    exfalso
    have hs : wds7 ⊆ ns := fun x hx => by
      have := List.filter_eq_nil_iff.mp e x hx
      simpa using this
    have := List.Nodup.length_le_of_subset wds7_nodup hs
    rw [wds7_len] at this
    omega
  | cons x l =>
    have hx : x ∈ wds7.filter (fun w => !decide (w ∈ ns)) := by rw [e]; exact List.mem_cons_self
    rw [List.mem_filter] at hx
    exact ⟨x, l, rfl, by simpa using hx.2, hx.1⟩
theorem wds7_at {i c : Nat} (h : ("abcdefg" : Str).cps[i]? = some c) : wds7[i]? = some ((⟨#[c]⟩ : Str) ++ "bcdefgi") := by
  unfold wds7
  rw [List.getElem?_map, Array.getElem?_toList, h]
  rfl
theorem wds7_all : wds7.take ("abcdefg" : Str).cps.size = wds7 := List.take_of_length_le (by rw [wds7_len]; decide)
/-- the seven, with nothing to unfold -/
theorem w7_ex : ∃ w7 : List Str, (∀ (i c : Nat), ("abcdefg" : Str).cps[i]? = some c → w7[i]? = some ((⟨#[c]⟩ : Str) ++ "bcdefgi")) ∧ w7.take ("abcdefg" : Str).cps.size = w7 ∧ w7.length = 7 ∧ (∀ x ∈ w7, PyData.strOk x = true) ∧
    ∀ ns : List Str, ns.length < 7 → ∃ x l, w7.filter (fun w => !decide (w ∈ ns)) = x :: l ∧ x ∉ ns ∧ x ∈ w7 :=
  ⟨wds7, fun _ _ h => wds7_at h, wds7_all, wds7_len, wds7_ok, fun _ h => left_over h⟩
end Q
set_option Elab.async false
set_option linter.all false
set_option maxRecDepth 100000
set_option maxHeartbeats 4000000
/-! ### _law_bad_bans -/
namespace Q
open PySem L2 XD
theorem filt_next {α : Type} {f : α → Bool} {l : List α} {i : Nat} {x : α} (h : l[i]? = some x) : (l.take (i + 1)).filter f = (l.take i).filter f ++ (if f x = true then [x] else []) := by
  rw [take_one h, List.filter_append]
  congr 1
  by_cases e : f x = true
  · rw [if_pos e, List.filter_cons_of_pos e] <;> rfl
  · rw [if_neg e, List.filter_cons_of_neg e] <;> rfl
theorem notin_words {x : Str} {ns : List Str} : (if true then !inV (.str x) (ns.map V.str) else inV (.str x) (ns.map V.str)) = !decide (x ∈ ns) := by
  show (!inV (.str x) (ns.map V.str)) = _
  rw [in_words]
theorem st_eq {T : TS} {D : Ends} {σ σ' : L2.St} {H : Hp} (e : σ = σ') (h : T D σ' H) : T D σ H := by
  rw [e]
  exact h
theorem st_gn {T : TS} {D : Ends} {σ σ' : L2.St} {H : Hp} {i : Nat} {v : V} (e : σ.set i (some v) = σ') (h : T D σ' H) : gName i v σ H (T D) := by
  show T D (σ.set i (some v)) H
  rw [e]
  exact h
theorem asg_op {r : R2} {ta tb : TE} {u : TS} {D : Ends} {σ : L2.St} {H : Hp} {i : Nat} (h : ta σ H fun x H1 => tb σ H1 fun y H2 => r x y H2 fun z H3 => u D (σ.set i (some z)) H3) : tSeq (tAsg (tOp r ta tb) (gName i)) u D σ H := h
/-- what stands beside the lists that change -/
structure Wd (K : PySem.W.Frag) (S : List Addr) (H : Hp) (z : Addr) (r : List (Str × Str)) (p : Addr) (ps : List Addr) (kvs : List (Key × V)) (t : List (Str × List Str)) (q : Addr) (qs : List Addr) (rs : List (List (Str × Str))) : Prop where
  al : Alive S H
  tb : TD K (rmL S H) (.ref z) (r.map pairD)
  tr : TabR K (rmL S H) ps kvs t
  rl : Paired (RuleAt K (rmL S H)) qs rs
  pp : rmL S H p = some (.lst (ps.map V.ref))
  qq : rmL S H q = some (.lst (qs.map V.ref))
section
variable {K : PySem.W.Frag} {S : List Addr} {H H' : Hp} {z p q : Addr} {r : List (Str × Str)} {ps qs : List Addr} {kvs : List (Key × V)} {t : List (Str × List Str)} {rs : List (List (Str × Str))}
theorem Wd.same (s : Same H H') (w : Wd K S H z r p ps kvs t q qs rs) : Wd K S H' z r p ps kvs t q qs rs :=
  ⟨w.al.same s, w.tb.same (rm_same s), w.tr.same (rm_same s), rules_same (rm_same s) w.rl, rm_same s _ _ w.pp, rm_same s _ _ w.qq⟩
theorem Wd.enter {D : Addr} (hD : H D = none) (s : Same H H') (h : H' D ≠ none) (w : Wd K S H z r p ps kvs t q qs rs) : Wd K (D :: S) H' z r p ps kvs t q qs rs := by
  have e := same_in (S := S) hD s
  refine ⟨fun b hb => ?_, w.tb.same e, w.tr.same e, rules_same e w.rl, e _ _ w.pp, e _ _ w.qq⟩
  rcases List.mem_cons.mp hb with rfl | hb
  · exact h
  · exact w.al.same s b hb
theorem Wd.leave {D : Addr} (w : Wd K (D :: S) H z r p ps kvs t q qs rs) : Wd K S H z r p ps kvs t q qs rs := by
  have e : Same (rmL (D :: S) H) (rmL S H) := rm_sub fun b hb => List.mem_cons_of_mem _ hb
  exact ⟨fun b hb => w.al b (List.mem_cons_of_mem _ hb), w.tb.same e, w.tr.same e, rules_same e w.rl, e _ _ w.pp, e _ _ w.qq⟩
theorem Wd.put {D : Addr} {o : HO} (hD : D ∈ S) (w : Wd K S H z r p ps kvs t q qs rs) : Wd K S (L2.upd H D o) z r p ps kvs t q qs rs := by
  refine ⟨w.al.put, ?_, ?_, ?_, ?_, ?_⟩ <;> rw [rm_put hD]
  · exact w.tb
  · exact w.tr
  · exact w.rl
  · exact w.pp
  · exact w.qq
end
def spBadB (K : PySem.W.Frag) : Sp := fun vs H Q _ => ∃ (a b p q : Addr) (ps : List Addr) (kvs : List (Key × V)) (t : List (Str × List Str)) (qs : List Addr) (rs : List (List (Str × Str))), vs = [.ref a, .ref p, .ref q] ∧ Flw b H a ∧ p ≠ a ∧ H p = some (.lst (ps.map V.ref)) ∧ TabR K H ps kvs t ∧ TabOk t ∧
  q ≠ a ∧ H q = some (.lst (qs.map V.ref)) ∧ Paired (RuleAt K H) qs rs ∧ (∀ r ∈ rs, Ban t 4 r) ∧ rs.length ≤ 19 ∧
  ∀ (D : Addr) (H' : Hp), PL K [a] (BadB t) 200 D H' → NE D H' → D ≠ a → Flw b H' a → Kept a H H' → Q (.ref D) H'
abbrev nBadB : List Str := ["flow", "table", "bans", "ban", "name", "value", "odd", "found", "one", "words", "letter", "names", "pair", "strange", "word", "values", "others", "rows", "k"]
section
variable {P : Program} {w : World} {K : PySem.W.Frag} {mg : Str → Option Value} {base : Heap}
theorem scBadB : FnScope nBadB ["flow", "table", "bans"] (defScope sBadB) := ⟨rfl, rfl, rfl, by decide +kernel, rfl, by decide +kernel, by decide +kernel⟩
theorem ok_badB {f : Addr} {fd : FuncData} (F : Fun K "_law_bad_bans" "_law_bad_bans" sBadB f fd) (T2 : mg "range" = none) (KB : Kn P w K mg base 4 "_law_ban" ["flow", "table", "most"] (spBan K)) : FnOk P w K mg base CX0 5 f fd ["flow", "table", "bans"] (spBadB K) := by
  obtain ⟨fB, fdB, GB, kB, bB, mB⟩ := KB.ex
  refine F.ok scBadB (fun vs H Q E h => ?_) (fun cdv A outer s H vs Q E hr h => ?_)
  · obtain ⟨a, b, p, q, ps, kvs, t, qs, rs, rfl, _⟩ := h
    rfl
  obtain ⟨a, b, p, q, ps, kvs, t, qs, rs, rfl, ha, hpa, hp, hT, G, hqa, hq, hR, hB, hl, k⟩ := h
  refine ⟨_, pss_cons (ps_set (i := 3) scBadB.nd rfl (.inr rfl) (pe_call GB hr rfl mB kB bB .nil pass0 (pa_cons (pv 0) (pa_cons (pv 1) (pa_cons pe_int pa_nil)))))
    (pss_cons (ps_asg (pe_ix (ix_both K rfl) (pv 3) pe_int (fun _ _ => rfl)) (pg_row rfl (pgs_cons (pg_name (i := 4) scBadB.nd rfl (.inr rfl)) (pgs_cons (pg_name (i := 5) scBadB.nd rfl (.inr rfl)) pgs_nil))))
    (pss_cons (ps_set (i := 6) scBadB.nd rfl (.inl rfl) (pe_lst (pa_cons pe_str (pa_cons (pe_op op_add_str (pv 4) pe_str) (pa_cons (pe_upper (pv 4)) (pa_cons pe_non (pa_cons pe_int (pa_cons pe_bl (pa_cons (pe_tupZ (pa_cons (pv 4) pa_nil)) pa_nil)))))))))
    (pss_cons (ps_set (i := 7) scBadB.nd rfl (.inl rfl) (pe_op op_cat
      (pe_lc (own := [("one", 8)]) (g := gName 8) (tt := tYes) (by rfl) scBadB.nd (pi_row (pv 6)) (blkOk_by (N := nBadB) (sc := defScope sBadB) (by decide +kernel)) (fun _ _ _ _ _ => pg_name (i := 8) scBadB.nd rfl (.inl rfl)) (fun _ _ _ _ _ => pts_nil)
        (fun _ _ _ _ _ => pe_op (op_catAK K rfl) (pe_tupZ (pa_cons (pe_tupZ (pa_cons (pv 8) (pa_cons (pv 5) pa_nil))) pa_nil)) (pe_slice (sl_tupAK K rfl) (pv 3) (po_some pe_int) po_none)))
      (pe_lc (own := [("one", 8)]) (g := gName 8) (tt := tYes) (by rfl) scBadB.nd (pi_row (pv 6)) (blkOk_by (N := nBadB) (sc := defScope sBadB) (by decide +kernel)) (fun _ _ _ _ _ => pg_name (i := 8) scBadB.nd rfl (.inl rfl)) (fun _ _ _ _ _ => pts_nil)
        (fun _ _ _ _ _ => pe_op (op_catAK K rfl) (pe_tupZ (pa_cons (pe_tupZ (pa_cons (pv 4) (pa_cons (pv 8) pa_nil))) pa_nil)) (pe_slice (sl_tupAK K rfl) (pv 3) (po_some pe_int) po_none)))))
    (pss_cons (ps_set (i := 7) scBadB.nd rfl (.inl rfl) (pe_op op_cat (pv 7) (pe_lst (pa_cons (pe_tupZ pa_nil) (pa_cons (pe_op (op_catAK K rfl) (pv 3) (pe_slice (sl_tupAK K rfl) (pv 3) po_none (po_some pe_int)))
      (pa_cons (pe_tupZ (pa_cons (pe_tupZ (pa_cons (pv 4) (pa_cons (pv 5) pa_nil))) (pa_cons (pe_tupZ (pa_cons (pv 4) (pa_cons (pv 5) pa_nil))) pa_nil))) (pa_cons (pe_tupZ (pa_cons (pe_tupZ (pa_cons (pv 4) pa_nil)) pa_nil)) (pa_cons (pe_tupZ (pa_cons (pe_tupZ (pa_cons (pv 4) (pa_cons (pv 5) (pa_cons (pv 5) pa_nil)))) pa_nil)) pa_nil))))))))
    (pss_cons (ps_expr (pe_bm PySem.F.plainAttrs_list PySem.F.slot_list_append PySem.F.type_list_append mt_append (pv 7) (pa_cons (pe_tupZ (pa_cons (pv 4) (pa_cons (pv 5) pa_nil))) pa_nil)))
    (pss_cons (ps_set (i := 7) scBadB.nd rfl (.inl rfl) (pe_op op_cat (pv 7) (pe_lst (pa_cons (pe_tupZ (pa_cons (pv 4) pa_nil)) (pa_cons pe_non (pa_cons pe_int (pa_cons pe_bl (pa_cons (pv 4) (pa_cons pe_str (pa_cons (pe_tupZ (pa_cons pe_str pa_nil)) (pa_cons (pe_tupZ (pa_cons (pe_tupZ (pa_cons pe_str (pa_cons pe_str (pa_cons pe_str pa_nil)))) pa_nil))
      (pa_cons (pe_tupZ (pa_cons (pe_tupZ (pa_cons (pv 4) (pa_cons (pe_tupZ (pa_cons (pv 5) pa_nil)) pa_nil))) pa_nil)) pa_nil))))))))))))
    (pss_cons (ps_setLc (i := 9) (own := [("letter", 10)]) (g := gName 10) (tt := tYes) (by rfl) scBadB.nd rfl rfl (sw_true rfl rfl rfl (by decide +kernel)) (pi_str pe_str) (blkOk_by (N := nBadB) (sc := defScope sBadB) (by decide +kernel)) (fun _ _ _ _ _ => pg_name (i := 10) scBadB.nd rfl (.inl rfl)) (fun _ _ _ _ _ => pts_nil)
        (fun _ _ _ _ _ => pe_op op_add_str (pv 10) pe_str))
    (pss_cons (ps_set (i := 11) scBadB.nd rfl (.inr rfl) (pe_lc (own := [("pair", 12)]) (g := gName 12) (tt := tYes) (by rfl) scBadB.nd (pi_row (pv 1)) (blkOk_by (N := nBadB) (sc := defScope sBadB) (by decide +kernel)) (fun _ _ _ _ _ => pg_name (i := 12) scBadB.nd rfl (.inl rfl)) (fun _ _ _ _ _ => pts_nil)
        (fun _ _ _ _ _ => pe_ix (ix_both K rfl) (pv 12) pe_int (fun _ _ => rfl))))
    (pss_cons (ps_setLc (i := 13) (own := [("word", 14)]) (g := gName 14) (by rfl) scBadB.nd rfl rfl (sw_true rfl rfl rfl (by decide +kernel)) (pi_row (pv 9)) (blkOk_by (N := nBadB) (sc := defScope sBadB) (by decide +kernel)) (fun _ _ _ _ _ => pg_name (i := 14) scBadB.nd rfl (.inl rfl)) (fun _ _ _ _ _ => pts_one (pt_cmpR (op_notIn_seqK K rfl) (pv 14) (pv 11) (by with_unfolding_all rfl)))
        (fun _ _ _ _ _ => pv 14))
    (pss_cons (ps_expr (pe_bm PySem.F.plainAttrs_list PySem.F.slot_list_append PySem.F.type_list_append mt_append (pv 7) (pa_cons (pe_op (op_catAK K rfl) (pe_tupZ (pa_cons (pe_tupZ (pa_cons (pe_ix (ix_both K rfl) (pv 13) pe_int (fun _ _ => rfl)) (pa_cons (pv 5) pa_nil))) pa_nil)) (pe_slice (sl_tupAK K rfl) (pv 3) (po_some pe_int) po_none)) pa_nil)))
    (pss_cons (ps_set (i := 15) scBadB.nd rfl (.inr rfl) (pe_ix (ix_both K rfl) (pe_lc (own := [("pair", 12)]) (g := gName 12) (by rfl) scBadB.nd (pi_row (pv 1)) (blkOk_by (N := nBadB) (sc := defScope sBadB) (by decide +kernel)) (fun _ _ _ _ _ => pg_name (i := 12) scBadB.nd rfl (.inl rfl))
        (fun _ _ _ _ _ => pts_one (pt_cmpR op_eq (pe_ix (ix_both K rfl) (pv 12) pe_int (fun _ _ => rfl)) (pv 4) (nomark _))) (fun _ _ _ _ _ => pe_ix (ix_both K rfl) (pv 12) pe_int (fun _ _ => rfl))) pe_int (fun _ _ => rfl)))
    (pss_cons (ps_setLc (i := 16) (own := [("word", 14)]) (g := gName 14) (by rfl) scBadB.nd rfl rfl (sw_true rfl rfl rfl (by decide +kernel)) (pi_row (pv 9)) (blkOk_by (N := nBadB) (sc := defScope sBadB) (by decide +kernel)) (fun _ _ _ _ _ => pg_name (i := 14) scBadB.nd rfl (.inl rfl)) (fun _ _ _ _ _ => pts_one (pt_cmpR (op_notIn_seqK K rfl) (pv 14) (pv 15) (by with_unfolding_all rfl)))
        (fun _ _ _ _ _ => pv 14))
    (pss_cons (ps_expr (pe_bm PySem.F.plainAttrs_list PySem.F.slot_list_append PySem.F.type_list_append mt_append (pv 7) (pa_cons (pe_op (op_catAK K rfl) (pe_tupZ (pa_cons (pe_tupZ (pa_cons (pv 4) (pa_cons (pe_ix (ix_both K rfl) (pv 16) pe_int (fun _ _ => rfl)) pa_nil))) pa_nil)) (pe_slice (sl_tupAK K rfl) (pv 3) (po_some pe_int) po_none)) pa_nil)))
    (pss_cons (ps_set (i := 17) scBadB.nd rfl (.inl rfl) (pe_op op_cat
      (pe_lc (own := [("one", 8)]) (g := gName 8) (tt := tYes) (by rfl) scBadB.nd (pi_row (pv 7)) (blkOk_by (N := nBadB) (sc := defScope sBadB) (by decide +kernel)) (fun _ _ _ _ _ => pg_name (i := 8) scBadB.nd rfl (.inl rfl)) (fun _ _ _ _ _ => pts_nil)
        (fun _ _ _ _ _ => pe_op op_cat (pe_slice (sl_listK K rfl) (pv 2) po_none (po_some pe_int)) (pe_lst (pa_cons (pv 8) pa_nil))))
      (pe_lc (own := [("one", 8)]) (g := gName 8) (tt := tYes) (by rfl) scBadB.nd (pi_row (pv 7)) (blkOk_by (N := nBadB) (sc := defScope sBadB) (by decide +kernel)) (fun _ _ _ _ _ => pg_name (i := 8) scBadB.nd rfl (.inl rfl)) (fun _ _ _ _ _ => pts_nil)
        (fun _ _ _ _ _ => pe_op op_cat (pe_lst (pa_cons (pv 8) pa_nil)) (pe_slice (sl_listK K rfl) (pv 2) po_none (po_some pe_int))))))
    (pss_one (ps_ret (pe_op op_cat (pv 17) (pe_lst (pa_cons pe_non (pa_cons pe_int (pa_cons pe_bl (pa_cons pe_str
      (pa_cons (pe_lc (own := [("k", 18)]) (g := gName 18) (tt := tYes) (by rfl) scBadB.nd (pi_range1 rfl T2 (pa_cons pe_int pa_nil)) (blkOk_by (N := nBadB) (sc := defScope sBadB) (by decide +kernel)) (fun _ _ _ _ _ => pg_name (i := 18) scBadB.nd rfl (.inl rfl)) (fun _ _ _ _ _ => pts_nil) (fun _ _ _ _ _ => pv 3))
      (pa_cons (pe_ix (ix_both K rfl) (pv 3) pe_int (fun _ _ => rfl)) pa_nil)))))))))))))))))))))))), ?_⟩
  -- the rule
  refine ⟨_, rfl, _, rfl, a, b, p, ps, kvs, t, 4, rfl, ha, .inl (SqL.of hp), hpa, hT, G.lo, by have := G.hi; omega, G.nm.1, fun e he => ⟨(G.vs e he).2.1, by have := (G.vs e he).2.2; omega⟩, by decide, by decide, fun z r H1 hz B F1 k1 => ?_⟩
  obtain ⟨e0, r', er⟩ : ∃ e0 r', r = e0 :: r' := by
    cases h : r with
    | nil =>
      have := B.lo
      rw [h] at this
      cases this
    | cons x y => exact ⟨x, y, rfl⟩
  have e0m : e0 ∈ r := by rw [er]; exact List.mem_cons_self
  obtain ⟨wsn, m1, m2⟩ := B.of e0 e0m
  have hn : word e0.1 = true := G.nm.2 _ (List.mem_map.mpr ⟨_, m1, rfl⟩)
  have hv : word e0.2 = true := (G.vs _ m1).1.2 _ m2
  have hn8 := word_len hn
  have okR : ∀ e ∈ r, PyData.strOk e.2 = true := fun e he => by
    obtain ⟨ws, h1, h2⟩ := B.of e he
    exact word_ok ((G.vs _ h1).1.2 _ h2)
  have hr4 := B.hi
  obtain ⟨fl1, ef1⟩ := F1.lst
  have W1 : Wd K [a] H1 z r p ps kvs t q qs rs := by
    have an : ∀ {x : Addr}, x ≠ a → x ∉ [a] := fun h z => h (List.mem_singleton.mp z)
    exact ⟨F1.alive, (hz.rm ef1).td, tabR_rm ef1 (hT.flw ha k1), rules_rm ef1 (by
      have : ∀ {qs : List Addr} {rs : List (List (Str × Str))}, Paired (RuleAt K H) qs rs → Paired (RuleAt K H1) qs rs := by
        intro qs rs h
        induction h with
        | nil => exact .nil
        | cons x y ih => exact .cons (x.flw ha k1) ih
      exact this hR), by rw [rm_at (an hpa)]; exact k1 _ _ hpa hp, by rw [rm_at (an hqa)]; exact k1 _ _ hqa hq⟩
  obtain ⟨ms, hz1, hz2⟩ := hz
  rw [er] at hz2
  obtain ⟨m0, ms', ems, hm0⟩ : ∃ m0 ms', ms = m0 :: ms' ∧ SqT K H1 m0 [.str e0.1, .str e0.2] := by
    cases hz2 with
    | cons x y => exact ⟨_, _, rfl, x⟩
  refine ⟨_, rfl, ix_row (.inr hz1.sqT) (at_of (j := 0) rfl (by rw [ems] <;> rfl)) (.inl ⟨m0, _, rfl, hm0, rfl, .str e0.1, _, rfl, .str e0.2, [], rfl, rfl, ?_⟩)⟩
  clear hz1 hz2 hm0 ems ms ms' m0
  have gsR : ∀ f ∈ r.map pairD, GS f := fun f hf => by
    obtain ⟨e, he, rfl⟩ := List.mem_map.mp hf
    exact gs_pair (okR e he)
  have gsD : ∀ (x b : PyData) (f : PyData), SeqAt.shaped b = true → f ∈ [PyData.tuple [x, b]] ++ (r.map pairD).drop 1 → GS f := fun x b f hb hf => by
    rcases List.mem_append.mp hf with hf | hf
    · rw [List.mem_singleton.mp hf]
      exact gs_two hb
    · exact gsR f (List.mem_of_mem_drop hf)
  have shv : SeqAt.shaped (.str e0.2) = true := str_shaped (word_ok hv)
  have l2 : e0.1.length + ("abcdefgh" : Str).length ≤ sizeLine := le_line (by show e0.1.length + 8 ≤ 1000; omega)
  -- odd
  refine ⟨_, rfl, _, _, rfl, rfl, l2, _, rfl, ⟨_, rfl⟩, _, rfl, rfl, (by omega), _, rfl, by show 1 ≤ sizeLine; decide, fun z1 o1 hz1 _ => ⟨by show 7 ≤ sizeLine; decide, fun OD hOD => ?_⟩⟩
  have s1 := new_same hz1 (.frz o1 (.tup [V.str e0.1]))
  have dz1 := TD.dp (tup_td (K := K) (o := o1) W1.al hz1 (.cons (.str e0.1) .nil))
  have pO := PL.new (S := [a]) (P := NO) (vs := [V.str "", V.str (e0.1 ++ "abcdefgh"), V.str (Txt.upper e0.1), V.non, V.int 5, V.bl true, V.ref z1]) hOD (.cons (.str _) (.cons (.str _) (.cons (.str _) (.cons .non (.cons (.int 5) (.cons (.bl true) (.cons dz1 .nil)))))))
    (fun d hd => by
      simp only [List.mem_cons, List.not_mem_nil, or_false] at hd
      rcases hd with rfl | rfl | rfl | rfl | rfl | rfl | rfl
      · exact ⟨rfl, str_shaped (by decide +kernel)⟩
      · exact ⟨(nw_long hn).1, str_shaped (ok_app (word_small hn) (by decide +kernel))⟩
      · exact ⟨(nw_upper hn).1, str_shaped (upper_ok hn)⟩
      · exact ⟨rfl, by decide +kernel⟩
      · exact ⟨rfl, by decide +kernel⟩
      · exact ⟨rfl, by decide +kernel⟩
      · exact ⟨rfl, tup1_shaped (word_ok hn)⟩)
  have s2 := s1.trans (new_same hOD (.lst [V.str "", V.str (e0.1 ++ "abcdefgh"), V.str (Txt.upper e0.1), V.non, V.int 5, V.bl true, V.ref z1]))
  have W2 := W1.same s2
  have F2 := F1.same s2
  have k2 : Kept a H _ := k1.trans (Kept.of_same s2)
  try dsimp only
  generalize L2.upd (L2.upd H1 z1 (.frz o1 (.tup [V.str e0.1]))) OD (.lst [V.str "", V.str (e0.1 ++ "abcdefgh"), V.str (Txt.upper e0.1), V.non, V.int 5, V.bl true, V.ref z1]) = H2 at pO s2 W2 F2 k2
  -- found
  refine asg_op ?_
  refine lc_pl (P := NO) (P' := BR t) (n := 7) (S := [a]) W2.al (fun Q' z => ⟨_, rfl, z⟩) pO (by decide) (fun _ => rfl) (fun D x d H' Qc AD sH sR hx hd kQ => ?_) (fun FA H3 hFA s3 pA => ?_)
  · refine ⟨_, rfl, _, rfl, by show 2 ≤ sizeLine; decide, fun y1 q1 hy1 _ => ⟨by show 1 ≤ sizeLine; decide, fun y2 q2 hy2 _ => ⟨_, rfl, _, rfl, ?_⟩⟩⟩
    have b1 := new_same hy1 (.frz q1 (.tup [x, V.str e0.2]))
    have b2 := new_same hy2 (.frz q2 (.tup [V.ref y1]))
    have t1 := tup_td (K := K) (o := q1) AD hy1 (.cons hx (.cons (.str e0.2) .nil))
    have t2 := tup_td (K := K) (o := q2) (AD.same b1) hy2 (.cons t1.dp .nil)
    have tb' := (W2.tb.same sR).same (rm_same (b1.trans b2))
    try unfold tNoPart
    refine from_td (k := 1) (AD.same (b1.trans b2)) tb' (fun u H4 s4 td => ?_)
    refine cat_td ((AD.same (b1.trans b2)).same s4) (t2.same (rm_same s4)) td (by simp only [List.length_singleton, List.length_drop, List.length_map]; omega) (fun u2 H5 s5 td2 => ?_)
    exact kQ _ _ _ (((b1.trans b2).trans s4).trans s5) td2.dp (br_go rfl (go_name G hd.1) (fun f hf => gsD d _ f shv hf))
  refine lc_pl (P := NO) (P' := BR t) (n := 7) (S := [a]) (W2.al.same s3) (fun Q' z => ⟨_, rfl, z⟩) (pO.same s3) (by decide) (fun _ => rfl) (fun D x d H' Qc AD sH sR hx hd kQ => ?_) (fun FB H4 hFB s4 pB => ?_)
  · refine ⟨_, rfl, _, rfl, by show 2 ≤ sizeLine; decide, fun y1 q1 hy1 _ => ⟨by show 1 ≤ sizeLine; decide, fun y2 q2 hy2 _ => ⟨_, rfl, _, rfl, ?_⟩⟩⟩
    have b1 := new_same hy1 (.frz q1 (.tup [V.str e0.1, x]))
    have b2 := new_same hy2 (.frz q2 (.tup [V.ref y1]))
    have t1 := tup_td (K := K) (o := q1) AD hy1 (.cons (.str e0.1) (.cons hx .nil))
    have t2 := tup_td (K := K) (o := q2) (AD.same b1) hy2 (.cons t1.dp .nil)
    have tb' := (((W2.same s3).tb).same sR).same (rm_same (b1.trans b2))
    try unfold tNoPart
    refine from_td (k := 1) (AD.same (b1.trans b2)) tb' (fun u H4 s4 td => ?_)
    refine cat_td ((AD.same (b1.trans b2)).same s4) (t2.same (rm_same s4)) td (by simp only [List.length_singleton, List.length_drop, List.length_map]; omega) (fun u2 H5 s5 td2 => ?_)
    exact kQ _ _ _ (((b1.trans b2).trans s4).trans s5) td2.dp (br_go rfl (go_value fun ws h => stands_no G h hd.1) (fun f hf => gsD _ d f hd.2 hf))
  refine PL.cat (pA.leave.same s4) pB.leave (by decide) (fun NA H5 s5 hNA pN => ?_)
  have s25 := (s3.trans s4).trans s5
  have W5 := W2.same s25
  have F5 := F2.same s25
  have k5 : Kept a H H5 := k2.trans (Kept.of_same s25)
  clear pA pB pO
  try dsimp only
  first
    | refine st_eq (σ' := [some (V.ref a), some (V.ref p), some (V.ref q), some (V.ref z), some (V.str e0.1), some (V.str e0.2), some (V.ref OD), some (V.ref NA), none, none, none, none, none, none, none, none, none, none, none]) rfl ?_
    | refine st_gn (σ' := [some (V.ref a), some (V.ref p), some (V.ref q), some (V.ref z), some (V.str e0.1), some (V.str e0.2), some (V.ref OD), some (V.ref NA), none, none, none, none, none, none, none, none, none, none, none]) rfl ?_
  -- five more
  refine ⟨_, rfl, by show 0 ≤ sizeLine; decide, fun x1 q1 hx1 _ => ⟨_, rfl, _, rfl, _, rfl, ?_⟩⟩
  have v1 := new_same hx1 (.frz q1 (.tup []))
  have dx1 := TD.dp (tup_td (K := K) (o := q1) W5.al hx1 .nil)
  refine to_td (k := 1) (W5.al.same v1) (W5.tb.same (rm_same v1)) (fun u1 H6 v2 td1 => ?_)
  refine cat_td ((W5.al.same v1).same v2) ((W5.tb.same (rm_same v1)).same (rm_same v2)) td1 (by rw [List.length_take, List.length_map]; omega) (fun u2 H7 v3 td2 => ?_)
  have v13 := (v1.trans v2).trans v3
  have W7 := W5.same v13
  refine ⟨_, rfl, _, rfl, by show 2 ≤ sizeLine; decide, fun x2 q2 hx2 _ => ⟨_, rfl, _, rfl, by show 2 ≤ sizeLine; decide, fun x3 q3 hx3 _ => ⟨by show 2 ≤ sizeLine; decide, fun x4 q4 hx4 _ => ?_⟩⟩⟩
  have v4 := new_same hx2 (.frz q2 (.tup [V.str e0.1, V.str e0.2]))
  have v5 := new_same hx3 (.frz q3 (.tup [V.str e0.1, V.str e0.2]))
  have v6 := new_same hx4 (.frz q4 (.tup [V.ref x2, V.ref x3]))
  have dx2 := TD.dp (tup_td (K := K) (o := q2) W7.al hx2 (.cons (.str e0.1) (.cons (.str e0.2) .nil)))
  have dx3 := TD.dp (tup_td (K := K) (o := q3) (W7.al.same v4) hx3 (.cons (.str e0.1) (.cons (.str e0.2) .nil)))
  have dx4 := TD.dp (tup_td (K := K) (o := q4) ((W7.al.same v4).same v5) hx4 (.cons (dp_same (rm_same v5) dx2) (.cons dx3 .nil)))
  have v46 := (v4.trans v5).trans v6
  refine ⟨_, rfl, by show 1 ≤ sizeLine; decide, fun x5 q5 hx5 _ => ⟨by show 1 ≤ sizeLine; decide, fun x6 q6 hx6 _ => ?_⟩⟩
  have v7 := new_same hx5 (.frz q5 (.tup [V.str e0.1]))
  have v8 := new_same hx6 (.frz q6 (.tup [V.ref x5]))
  have W7' := W7.same v46
  have dx5 := TD.dp (tup_td (K := K) (o := q5) W7'.al hx5 (.cons (.str e0.1) .nil))
  have dx6 := TD.dp (tup_td (K := K) (o := q6) (W7'.al.same v7) hx6 (.cons dx5 .nil))
  have v78 := v7.trans v8
  have W8 := W7'.same v78
  refine ⟨_, rfl, _, rfl, _, rfl, by show 3 ≤ sizeLine; decide, fun x7 q7 hx7 _ => ⟨by show 1 ≤ sizeLine; decide, fun x8 q8 hx8 _ => ⟨by show 5 ≤ sizeLine; decide, fun LD hLD => ?_⟩⟩⟩
  have v9 := new_same hx7 (.frz q7 (.tup [V.str e0.1, V.str e0.2, V.str e0.2]))
  have va := new_same hx8 (.frz q8 (.tup [V.ref x7]))
  have dx7 := TD.dp (tup_td (K := K) (o := q7) W8.al hx7 (.cons (.str e0.1) (.cons (.str e0.2) (.cons (.str e0.2) .nil))))
  have dx8 := TD.dp (tup_td (K := K) (o := q8) (W8.al.same v9) hx8 (.cons dx7 .nil))
  have v9a := v9.trans va
  have pL := PL.new (S := [a]) (P := BR t) (vs := [V.ref x1, u2, V.ref x4, V.ref x6, V.ref x8]) hLD
    (.cons (dp_same (rm_same (((((v2.trans v3).trans v46).trans v78).trans v9a))) dx1) (.cons (dp_same (rm_same ((v46.trans v78).trans v9a)) td2.dp) (.cons (dp_same (rm_same (v78.trans v9a)) dx4) (.cons (dp_same (rm_same v9a) dx6) (.cons dx8 .nil)))))
    (fun d hd => by
      simp only [List.mem_cons, List.not_mem_nil, or_false] at hd
      rcases hd with rfl | rfl | rfl | rfl | rfl
      · exact br_empty rfl
      · refine br_go (fs := (r ++ [e0]).map pairD) (by rw [er, List.map_append] <;> rfl) (go_twice fun z => ?_) (fun f hf => ?_)
        · rw [List.map_append, List.nodup_append] at z
          exact z.2.2 e0.1 (List.mem_map.mpr ⟨e0, e0m, rfl⟩) e0.1 (List.mem_singleton.mpr rfl) rfl
        · obtain ⟨e, he, rfl⟩ := List.mem_map.mp hf
          rcases List.mem_append.mp he with he | he
          · exact gs_pair (okR e he)
          · rw [List.mem_singleton.mp he]
            exact gs_pair (word_ok hv)
      · refine br_go (fs := [e0, e0].map pairD) rfl (go_twice fun z => ?_) (fun f hf => ?_)
        · simp at z
        · obtain ⟨e, he, rfl⟩ := List.mem_map.mp hf
          simp only [List.mem_cons, List.not_mem_nil, or_false] at he
          rcases he with rfl | rfl <;> exact gs_pair (word_ok hv)
      · exact br_go rfl (go_none rfl) (fun f hf => by rw [List.mem_singleton.mp hf]; exact gs_none rfl)
      · exact br_go rfl (go_none rfl) (fun f hf => by rw [List.mem_singleton.mp hf]; exact gs_none rfl))
  have vb := new_same hLD (.lst [V.ref x1, u2, V.ref x4, V.ref x6, V.ref x8])
  have v1b := (((v13.trans v46).trans v78).trans v9a).trans vb
  refine PL.catIn (pN.same v1b) pL (by show 14 + 5 ≤ 1000; decide) (fun N1 H9 vc hN1 p1 => ?_)
  have v1c := v1b.trans vc
  have hN1H : H5 N1 = none := v1b.free hN1
  have N1a : N1 ≠ a := (F5.ne hN1H).1
  have N1b : N1 ≠ b := (F5.ne hN1H).2
  have hN10 : H N1 = none := by
    cases y : H N1 with
    | none => rfl
    | some o =>
      rw [k5 N1 o N1a y] at hN1H
      cases hN1H
  have F9 := F5.same v1c
  have k9 : Kept a H H9 := k5.trans (Kept.of_same v1c)
  obtain ⟨n1, u1', u1l, u1p⟩ := p1.ex
  have W9 : Wd K [N1, a] H9 z r p ps kvs t q qs rs := (W5.same v1b).enter hN1 vc (by rw [u1']; exact fun z => by cases z)
  clear dx1 dx2 dx3 dx4 dx5 dx6 dx7 dx8 pL pN td1 td2 u1p
  -- one more
  try dsimp only
  refine ⟨_, rfl, .inl ⟨rfl, _, SqL.of u1'⟩, _, rfl, _, rfl, by show 2 ≤ sizeLine; decide, fun y1 r1 hy1 _ => ?_⟩
  have a1 := new_same hy1 (.frz r1 (.tup [V.str e0.1, V.str e0.2]))
  have dy1 := TD.dp (tup_td (K := K) (o := r1) W9.al hy1 (.cons (.str e0.1) (.cons (.str e0.2) .nil)))
  have u1a := a1 _ _ u1'
  have pA := (p1.same a1).put List.mem_cons_self u1a dy1 (br_go (fs := [.str e0.1, .str e0.2]) rfl (go_none rfl) (fun f hf => by
    simp only [List.mem_cons, List.not_mem_nil, or_false] at hf
    rcases hf with rfl | rfl <;> exact gs_none rfl))
  have WA := ((W9.same a1).put (o := .lst (n1 ++ [V.ref y1])) List.mem_cons_self).leave
  have FA' := (F9.same a1).off (o := .lst (n1 ++ [V.ref y1])) N1a N1b
  have kA := (k9.trans (Kept.of_same a1)).new (o := .lst (n1 ++ [V.ref y1])) hN10
  refine ⟨N1, n1, _, rfl, rfl, u1a, small1000 (by have : n1.length ≤ 19 := u1l; omega), ?_⟩
  have pA' := pA.leave
  try dsimp only
  generalize L2.upd (L2.upd H9 y1 (.frz r1 (.tup [V.str e0.1, V.str e0.2]))) N1 (.lst (n1 ++ [V.ref y1])) = HA at pA' WA FA' kA
  try dsimp only
  first
    | refine st_eq (σ' := [some (V.ref a), some (V.ref p), some (V.ref q), some (V.ref z), some (V.str e0.1), some (V.str e0.2), some (V.ref OD), some (V.ref N1), none, none, none, none, none, none, none, none, none, none, none]) rfl ?_
    | refine st_gn (σ' := [some (V.ref a), some (V.ref p), some (V.ref q), some (V.ref z), some (V.str e0.1), some (V.str e0.2), some (V.ref OD), some (V.ref N1), none, none, none, none, none, none, none, none, none, none, none]) rfl ?_
  -- nine more
  refine ⟨_, rfl, _, rfl, by show 1 ≤ sizeLine; decide, fun x1 q1 hx1 _ => ⟨_, rfl, by show 1 ≤ sizeLine; decide, fun x2 q2 hx2 _ => ⟨by show 3 ≤ sizeLine; decide, fun x3 q3 hx3 _ => ⟨by show 1 ≤ sizeLine; decide, fun x4 q4 hx4 _ => ⟨_, rfl, _, rfl, by show 1 ≤ sizeLine; decide, fun x5 q5 hx5 _ => ⟨by show 2 ≤ sizeLine; decide, fun x6 q6 hx6 _ => ⟨by show 1 ≤ sizeLine; decide, fun x7 q7 hx7 _ => ⟨by show 9 ≤ sizeLine; decide, fun LE hLE => ?_⟩⟩⟩⟩⟩⟩⟩⟩
  have b1 := new_same hx1 (.frz q1 (.tup [V.str e0.1]))
  have b2 := new_same hx2 (.frz q2 (.tup [V.str "ab"]))
  have b3 := new_same hx3 (.frz q3 (.tup [V.str "ab", V.str "cd", V.str "ef"]))
  have b4 := new_same hx4 (.frz q4 (.tup [V.ref x3]))
  have b5 := new_same hx5 (.frz q5 (.tup [V.str e0.2]))
  have b6 := new_same hx6 (.frz q6 (.tup [V.str e0.1, V.ref x5]))
  have b7 := new_same hx7 (.frz q7 (.tup [V.ref x6]))
  have A1 := WA.al.same b1
  have A2 := A1.same b2
  have A3 := A2.same b3
  have A4 := A3.same b4
  have A5 := A4.same b5
  have A6 := A5.same b6
  have c1 := TD.dp (tup_td (K := K) (o := q1) WA.al hx1 (.cons (.str e0.1) .nil))
  have c2 := TD.dp (tup_td (K := K) (o := q2) A1 hx2 (.cons (.str "ab") .nil))
  have c3 := TD.dp (tup_td (K := K) (o := q3) A2 hx3 (.cons (.str "ab") (.cons (.str "cd") (.cons (.str "ef") .nil))))
  have c4 := TD.dp (tup_td (K := K) (o := q4) A3 hx4 (.cons c3 .nil))
  have c5 := TD.dp (tup_td (K := K) (o := q5) A4 hx5 (.cons (.str e0.2) .nil))
  have c6 := TD.dp (tup_td (K := K) (o := q6) A5 hx6 (.cons (.str e0.1) (.cons c5 .nil)))
  have c7 := TD.dp (tup_td (K := K) (o := q7) A6 hx7 (.cons c6 .nil))
  have b57 := (b5.trans b6).trans b7
  have pE := PL.new (S := [a]) (P := BR t) (vs := [V.ref x1, V.non, V.int 5, V.bl true, V.str e0.1, V.str "ab", V.ref x2, V.ref x4, V.ref x7]) hLE
    (.cons (dp_same (rm_same (((b2.trans b3).trans b4).trans b57)) c1) (.cons .non (.cons (.int 5) (.cons (.bl true) (.cons (.str e0.1) (.cons (.str "ab") (.cons (dp_same (rm_same ((b3.trans b4).trans b57)) c2) (.cons (dp_same (rm_same b57) c4) (.cons c7 .nil)))))))))
    (fun d hd => by
      simp only [List.mem_cons, List.not_mem_nil, or_false] at hd
      rcases hd with rfl | rfl | rfl | rfl | rfl | rfl | rfl | rfl | rfl
      · exact br_go rfl (go_none rfl) (fun f hf => by rw [List.mem_singleton.mp hf]; exact gs_none rfl)
      · exact br_norow rfl
      · exact br_norow rfl
      · exact br_norow rfl
      · exact br_norow rfl
      · exact br_norow rfl
      · exact br_go rfl (go_none rfl) (fun f hf => by rw [List.mem_singleton.mp hf]; exact gs_none rfl)
      · exact br_go rfl (go_none rfl) (fun f hf => by rw [List.mem_singleton.mp hf]; exact gs_none rfl)
      · exact br_go rfl (go_value fun ws h => stands_no G h rfl) (fun f hf => by rw [List.mem_singleton.mp hf]; exact gs_two (tup1_shaped (word_ok hv))))
  have b18 := ((((b1.trans b2).trans b3).trans b4).trans b57).trans (new_same hLE (.lst [V.ref x1, V.non, V.int 5, V.bl true, V.str e0.1, V.str "ab", V.ref x2, V.ref x4, V.ref x7]))
  refine PL.catIn (pA'.same b18) pE (by show 20 + 9 ≤ 1000; decide) (fun N2 HB b9 hN2 p2 => ?_)
  have b19 := b18.trans b9
  have hN2A : HA N2 = none := b18.free hN2
  obtain ⟨N2a, N2b⟩ := FA'.ne hN2A
  have hN20 : H N2 = none := by
    cases y : H N2 with
    | none => rfl
    | some o =>
      rw [kA N2 o N2a y] at hN2A
      cases hN2A
  have FB' := FA'.same b19
  have kB' : Kept a H HB := kA.trans (Kept.of_same b19)
  obtain ⟨n2, v1', v1l, v1p⟩ := p2.ex
  have WB : Wd K [N2, a] HB z r p ps kvs t q qs rs := (WA.same b18).enter hN2 b9 (by rw [v1']; exact fun z => by cases z)
  clear c1 c2 c3 c4 c5 c6 c7 pE pA' p1 v1p
  obtain ⟨w7, h7at, h7all, h7len, h7ok, h7left⟩ := w7_ex
  try dsimp only
  first
    | refine st_eq (σ' := [some (V.ref a), some (V.ref p), some (V.ref q), some (V.ref z), some (V.str e0.1), some (V.str e0.2), some (V.ref OD), some (V.ref N2), none, none, none, none, none, none, none, none, none, none, none]) rfl ?_
    | refine st_gn (σ' := [some (V.ref a), some (V.ref p), some (V.ref q), some (V.ref z), some (V.str e0.1), some (V.str e0.2), some (V.ref OD), some (V.ref N2), none, none, none, none, none, none, none, none, none, none, none]) rfl ?_
  -- words
  try dsimp only
  refine asg_lc ?_
  refine ⟨_, rfl, fun WD hWD => lc_it (walk_str (z := ("abcdefg" : Str))) (fun i H' => H' WD = some (.lst ((w7.take i).map V.str)) ∧ Same HB H') ⟨upd_same, new_same hWD _⟩ (fun _ _ _ _ => trivial) (fun i c H1' H2' hi hP hY => ?_) (fun HC hP => ?_)⟩
  · obtain ⟨hL, sL⟩ := hP
    obtain ⟨rfl, c1, hc, rfl⟩ := hY
    have hw := h7at _ _ hc
    refine ⟨rfl, ?_⟩
    unfold tYes
    refine iteT ⟨_, rfl, _, _, rfl, rfl, (by show 1 + 7 ≤ sizeLine; decide), _, hL, small1000 ?_, ?_, fun b' o y => ?_⟩
    · rw [List.length_map, List.length_take, h7len]
      omega
    · rw [upd_same, take_one hw, List.map_append] <;> rfl
    · rw [upd_ne (ne_of_none y hWD)]
      exact sL _ _ y
  obtain ⟨hWC, sC⟩ := hP
  rw [h7all] at hWC
  have WC := WB.same sC
  have FC := FB'.same sC
  have kC : Kept a H HC := kB'.trans (Kept.of_same sC)
  have pC := p2.same sC
  have vC := sC _ _ v1'
  have WDn : WD ∉ [N2, a] := fun z => WB.al WD z hWD
  try dsimp only
  first
    | refine st_eq (σ' := [some (V.ref a), some (V.ref p), some (V.ref q), some (V.ref z), some (V.str e0.1), some (V.str e0.2), some (V.ref OD), some (V.ref N2), none, some (V.ref WD), none, none, none, none, none, none, none, none, none]) rfl ?_
    | refine st_gn (σ' := [some (V.ref a), some (V.ref p), some (V.ref q), some (V.ref z), some (V.str e0.1), some (V.str e0.2), some (V.ref OD), some (V.ref N2), none, some (V.ref WD), none, none, none, none, none, none, none, none, none]) rfl ?_
  -- names
  try dsimp only
  refine asg_lc ?_
  have hpC : HC p = some (.lst (ps.map V.ref)) := (rm_of WC.pp).2
  have hpl : (ps.map V.ref).length = t.length := by rw [List.length_map, hT.flen]
  refine lc_row (ys := ps.map V.ref) (fun D i H' => H' D = some (.lst (((t.take i).map (·.1)).map V.str)) ∧ Same HC H') (fun Q' z => ⟨_, rfl, z⟩) (.inl (SqL.of hpC)) (fun D hD => ⟨upd_same, new_same hD _⟩) (fun D i H' hD hP => hP.2) (fun D i y H' hD hi hP hy => ?_) (fun ND HD hND hP => ?_)
  · obtain ⟨g1, g2⟩ := hP
    obtain ⟨q1, w1, n, ws, rfl, e1, e2, e3⟩ := (WC.tr.same (rm_same g2)).at hy
    refine ⟨rfl, ?_⟩
    unfold tYes
    refine iteT ⟨_, rfl, ix_row (.inr (seqT_same rm_le e2)) (by rfl) ⟨_, g1, small1000 ?_, ?_, fun b' o y => ?_⟩⟩
    · rw [List.length_map, List.length_map, List.length_take]
      have := G.hi
      omega
    · rw [upd_same, take_one e1, List.map_append, List.map_append] <;> rfl
    · rw [upd_ne (ne_of_none y hD)]
      exact g2 _ _ y
  obtain ⟨hNC, sD⟩ := hP
  rw [List.take_of_length_le (by omega)] at hNC
  try dsimp only
  first
    | refine st_eq (σ' := [some (V.ref a), some (V.ref p), some (V.ref q), some (V.ref z), some (V.str e0.1), some (V.str e0.2), some (V.ref OD), some (V.ref N2), none, some (V.ref WD), none, some (V.ref ND), none, none, none, none, none, none, none]) rfl ?_
    | refine st_gn (σ' := [some (V.ref a), some (V.ref p), some (V.ref q), some (V.ref z), some (V.str e0.1), some (V.str e0.2), some (V.ref OD), some (V.ref N2), none, some (V.ref WD), none, some (V.ref ND), none, none, none, none, none, none, none]) rfl ?_
  -- strange
  have hWD' := sD _ _ hWC
  refine asg_lc ?_
  refine lc_row (ys := w7.map V.str) (fun D i H' => H' D = some (.lst (((w7.take i).filter fun w => !decide (w ∈ t.map (·.1))).map V.str)) ∧ Same HD H') (fun Q' z => ⟨_, rfl, z⟩) (.inl (SqL.of hWD')) (fun D hD => ⟨upd_same, new_same hD _⟩) (fun D i H' hD hP => hP.2) (fun D i y H' hD hi hP hy => ?_) (fun SD HE hSD hP => ?_)
  · obtain ⟨g1, g2⟩ := hP
    rw [List.getElem?_map] at hy
    obtain ⟨x, hx, rfl⟩ := Option.map_eq_some_iff.mp hy
    have hnx := filt_next (f := fun w => !decide (w ∈ t.map (·.1))) hx
    refine ⟨rfl, _, rfl, _, rfl, ND, _, rfl, .inl (SqL.of (g2 _ _ hNC)), rfl, flat_words _, _, rfl, ?_⟩
    rw [notin_words]
    by_cases hin : x ∈ t.map (·.1)
    · rw [decide_eq_true hin] at hnx ⊢
      refine iteF ⟨?_, g2⟩
      rw [hnx, if_neg (by decide), List.append_nil]
      exact g1
    · rw [decide_eq_false hin] at hnx ⊢
      refine iteT ⟨_, rfl, _, g1, small1000 ?_, ?_, fun b' o y => ?_⟩
      · rw [List.length_map]
        refine Nat.le_trans (List.length_filter_le _ _) ?_
        rw [List.length_take, h7len]
        omega
      · rw [upd_same, hnx, if_pos (by decide), List.map_append] <;> rfl
      · rw [upd_ne (ne_of_none y hD)]
        exact g2 _ _ y
  obtain ⟨hSC, sE⟩ := hP
  rw [List.take_of_length_le (by rw [List.length_map]; exact Nat.le_refl _)] at hSC
  obtain ⟨st0, sl, e8, st1, st2⟩ := h7left (t.map (·.1)) (by rw [List.length_map]; have := G.hi; omega)
  rw [e8] at hSC
  have sCE := sD.trans sE
  have WE := WC.same sCE
  have FE := FC.same sCE
  have kE : Kept a H HE := kC.trans (Kept.of_same sCE)
  have pE := pC.same sCE
  have vE := sCE _ _ vC
  have hWE := sE _ _ hWD'
  try dsimp only
  first
    | refine st_eq (σ' := [some (V.ref a), some (V.ref p), some (V.ref q), some (V.ref z), some (V.str e0.1), some (V.str e0.2), some (V.ref OD), some (V.ref N2), none, some (V.ref WD), none, some (V.ref ND), none, some (V.ref SD), none, none, none, none, none]) rfl ?_
    | refine st_gn (σ' := [some (V.ref a), some (V.ref p), some (V.ref q), some (V.ref z), some (V.str e0.1), some (V.str e0.2), some (V.ref OD), some (V.ref N2), none, some (V.ref WD), none, some (V.ref ND), none, some (V.ref SD), none, none, none, none, none]) rfl ?_
  -- a strange name
  try dsimp only
  refine ⟨_, rfl, .inl ⟨rfl, _, SqL.of vE⟩, _, rfl, ix_row (.inl (SqL.of hSC)) (at_of (j := 0) rfl rfl) ⟨_, rfl, by show 2 ≤ sizeLine; decide, fun y1 r1 hy1 _ => ⟨by show 1 ≤ sizeLine; decide, fun y2 r2 hy2 _ => ⟨_, rfl, _, rfl, ?_⟩⟩⟩⟩
  have d1 := new_same hy1 (.frz r1 (.tup [V.str st0, V.str e0.2]))
  have d2 := new_same hy2 (.frz r2 (.tup [V.ref y1]))
  have t1 := tup_td (K := K) (o := r1) WE.al hy1 (.cons (.str st0) (.cons (.str e0.2) .nil))
  have t2 := tup_td (K := K) (o := r2) (WE.al.same d1) hy2 (.cons t1.dp .nil)
  have d12 := d1.trans d2
  try unfold tNoPart
  refine from_td (k := 1) (WE.al.same d12) (WE.tb.same (rm_same d12)) (fun u H1' s4 td => ?_)
  refine cat_td ((WE.al.same d12).same s4) (t2.same (rm_same s4)) td (by simp only [List.length_singleton, List.length_drop, List.length_map]; omega) (fun u2 H2' s5 td2 => ?_)
  have d15 := (d12.trans s4).trans s5
  have vE' := d15 _ _ vE
  refine ⟨N2, n2, _, rfl, rfl, vE', small1000 (by have : n2.length ≤ 29 := v1l; omega), ?_⟩
  have mN2 : N2 ∈ [N2, a] := List.mem_cons_self
  have pF := (pE.same d15).put mN2 vE' td2.dp (br_go rfl (go_strange st1) (fun f hf => gsD _ _ f shv hf))
  have WF := (WE.same d15).put (o := .lst (n2 ++ [u2])) mN2
  have FF := (FE.same d15).off (o := .lst (n2 ++ [u2])) N2a N2b
  have kF := (kE.trans (Kept.of_same d15)).new (o := .lst (n2 ++ [u2])) hN20
  have nWD : WD ≠ N2 := fun y => WDn (by rw [y]; exact List.mem_cons_self)
  have hWF : L2.upd H2' N2 (.lst (n2 ++ [u2])) WD = some (.lst (w7.map V.str)) := by
    rw [upd_ne nWD]
    exact d15 _ _ hWE
  have vF : L2.upd H2' N2 (.lst (n2 ++ [u2])) N2 = some (.lst (n2 ++ [u2])) := upd_same
  clear t1 t2 td td2 pE
  try dsimp only
  generalize L2.upd H2' N2 (.lst (n2 ++ [u2])) = HF at pF WF FF kF hWF vF
  try dsimp only
  first
    | refine st_eq (σ' := [some (V.ref a), some (V.ref p), some (V.ref q), some (V.ref z), some (V.str e0.1), some (V.str e0.2), some (V.ref OD), some (V.ref N2), none, some (V.ref WD), none, some (V.ref ND), none, some (V.ref SD), none, none, none, none, none]) rfl ?_
    | refine st_gn (σ' := [some (V.ref a), some (V.ref p), some (V.ref q), some (V.ref z), some (V.str e0.1), some (V.str e0.2), some (V.ref OD), some (V.ref N2), none, some (V.ref WD), none, some (V.ref ND), none, some (V.ref SD), none, none, none, none, none]) rfl ?_
  -- the values
  refine asg_op ?_
  have hpF : HF p = some (.lst (ps.map V.ref)) := (rm_of WF.pp).2
  refine lc_row (ys := ps.map V.ref) (fun D i H' => ∃ zs : List Addr, H' D = some (.lst (zs.map V.ref)) ∧ zs.length ≤ i ∧ (∀ x ∈ zs, ∃ ws, (e0.1, ws) ∈ t ∧ SqT K H' x (ws.map V.str)) ∧ (∀ x ∈ t.take i, x.1 = e0.1 → zs ≠ []) ∧ Same HF H') (fun Q' z => ⟨_, rfl, z⟩) (.inl (SqL.of hpF))
    (fun D hD => ⟨[], upd_same, Nat.le_refl _, fun x h => absurd h List.not_mem_nil, fun x h => absurd h List.not_mem_nil, new_same hD _⟩) (fun D i H' hD hP => by obtain ⟨_, _, _, _, _, z⟩ := hP; exact z) (fun D i y H' hD hi hP hy => ?_) (fun VD HG hVD hP => ?_)
  · obtain ⟨zs, g1, g2, g3, g4, g5⟩ := hP
    obtain ⟨q1, w1, n, ws, rfl, e1, e2, e3⟩ := (WF.tr.same (rm_same g5)).at hy
    have em := List.mem_of_getElem? e1
    refine ⟨rfl, _, rfl, ix_row (.inr (seqT_same rm_le e2)) (by rfl) ⟨_, rfl, rfl, _, rfl, ?_⟩⟩
    by_cases hin : n = e0.1
    · refine iteDT (by rw [hin]) ⟨_, rfl, ix_row (.inr (seqT_same rm_le e2)) (by rfl) ⟨_, g1, small1000 (by rw [List.length_map]; have := G.hi; omega), zs ++ [w1], ?_, ?_, fun x hx => ?_, fun x _ _ y => ?_, fun b' o y => ?_⟩⟩
      · rw [upd_same, List.map_append] <;> rfl
      · rw [List.length_append, List.length_singleton]
        omega
      · rcases List.mem_append.mp hx with hx | hx
        · obtain ⟨ws', h1, h2⟩ := g3 x hx
          exact ⟨ws', h1, seqT_off h2 g1⟩
        · rw [List.mem_singleton.mp hx]
          exact ⟨ws, by rw [← hin]; exact em, seqT_off (seqT_same rm_le e3) g1⟩
      · have := congrArg List.length y
        rw [List.length_append, List.length_singleton] at this
        cases this
      · rw [upd_ne (ne_of_none y hD)]
        exact g5 _ _ y
    · refine iteDF (fun z => hin (V.str.inj z)) ⟨zs, g1, by omega, g3, fun x hx ex => ?_, g5⟩
      rw [take_one e1] at hx
      rcases List.mem_append.mp hx with hx | hx
      · exact g4 x hx ex
      · rw [List.mem_singleton.mp hx] at ex
        exact absurd ex hin
  obtain ⟨zs, g1, g2, g3, g4, sG⟩ := hP
  rw [List.take_of_length_le (by omega)] at g4
  obtain ⟨x0, zr, ez⟩ : ∃ x0 zr, zs = x0 :: zr := by
    cases h : zs with
    | nil => exact absurd h (g4 _ m1 rfl)
    | cons x y => exact ⟨x, y, rfl⟩
  obtain ⟨wv, wv1, wv2⟩ := g3 x0 (by rw [ez]; exact List.mem_cons_self)
  refine ix_row (.inl (SqL.of g1)) (at_of (j := 0) (v := .ref x0) rfl (by rw [ez] <;> rfl)) ?_
  clear g1 g2 g3 g4 ez zr zs
  have hWG := sG _ _ hWF
  try dsimp only
  first
    | refine st_eq (σ' := [some (V.ref a), some (V.ref p), some (V.ref q), some (V.ref z), some (V.str e0.1), some (V.str e0.2), some (V.ref OD), some (V.ref N2), none, some (V.ref WD), none, some (V.ref ND), none, some (V.ref SD), none, some (V.ref x0), none, none, none]) rfl ?_
    | refine st_gn (σ' := [some (V.ref a), some (V.ref p), some (V.ref q), some (V.ref z), some (V.str e0.1), some (V.str e0.2), some (V.ref OD), some (V.ref N2), none, some (V.ref WD), none, some (V.ref ND), none, some (V.ref SD), none, some (V.ref x0), none, none, none]) rfl ?_
  -- others
  try dsimp only
  refine asg_lc ?_
  refine lc_row (ys := w7.map V.str) (fun D i H' => H' D = some (.lst (((w7.take i).filter fun w => !decide (w ∈ wv)).map V.str)) ∧ Same HG H') (fun Q' z => ⟨_, rfl, z⟩) (.inl (SqL.of hWG)) (fun D hD => ⟨upd_same, new_same hD _⟩) (fun D i H' hD hP => hP.2) (fun D i y H' hD hi hP hy => ?_) (fun OD2 HI hOD2 hP => ?_)
  · obtain ⟨g1, g2⟩ := hP
    rw [List.getElem?_map] at hy
    obtain ⟨x, hx, rfl⟩ := Option.map_eq_some_iff.mp hy
    have hnx := filt_next (f := fun w => !decide (w ∈ wv)) hx
    refine ⟨rfl, _, rfl, _, rfl, x0, _, rfl, .inr (seqT_same g2 wv2), rfl, flat_words _, _, rfl, ?_⟩
    rw [notin_words]
    by_cases hin : x ∈ wv
    · rw [decide_eq_true hin] at hnx ⊢
      refine iteF ⟨?_, g2⟩
      rw [hnx, if_neg (by decide), List.append_nil]
      exact g1
    · rw [decide_eq_false hin] at hnx ⊢
      refine iteT ⟨_, rfl, _, g1, small1000 ?_, ?_, fun b' o y => ?_⟩
      · rw [List.length_map]
        refine Nat.le_trans (List.length_filter_le _ _) ?_
        rw [List.length_take, h7len]
        omega
      · rw [upd_same, hnx, if_pos (by decide), List.map_append] <;> rfl
      · rw [upd_ne (ne_of_none y hD)]
        exact g2 _ _ y
  obtain ⟨hOC, sI⟩ := hP
  rw [List.take_of_length_le (by rw [List.length_map]; exact Nat.le_refl _)] at hOC
  obtain ⟨ot0, ol, e9, ot1, ot2⟩ := h7left wv (by have := (G.vs _ wv1).2.2; show wv.length < 7; have h3 : wv.length ≤ 5 := this; omega)
  rw [e9] at hOC
  have sGI := sG.trans sI
  have WI := WF.same sGI
  have FI := FF.same sGI
  have kI : Kept a H HI := kF.trans (Kept.of_same sGI)
  have pI := pF.same sGI
  have vI := sGI _ _ vF
  try dsimp only
  first
    | refine st_eq (σ' := [some (V.ref a), some (V.ref p), some (V.ref q), some (V.ref z), some (V.str e0.1), some (V.str e0.2), some (V.ref OD), some (V.ref N2), none, some (V.ref WD), none, some (V.ref ND), none, some (V.ref SD), none, some (V.ref x0), some (V.ref OD2), none, none]) rfl ?_
    | refine st_gn (σ' := [some (V.ref a), some (V.ref p), some (V.ref q), some (V.ref z), some (V.str e0.1), some (V.str e0.2), some (V.ref OD), some (V.ref N2), none, some (V.ref WD), none, some (V.ref ND), none, some (V.ref SD), none, some (V.ref x0), some (V.ref OD2), none, none]) rfl ?_
  -- another value
  try dsimp only
  refine ⟨_, rfl, .inl ⟨rfl, _, SqL.of vI⟩, _, rfl, _, rfl, ix_row (.inl (SqL.of hOC)) (at_of (j := 0) rfl rfl) ⟨by show 2 ≤ sizeLine; decide, fun y1 r1 hy1 _ => ⟨by show 1 ≤ sizeLine; decide, fun y2 r2 hy2 _ => ⟨_, rfl, _, rfl, ?_⟩⟩⟩⟩
  have f1 := new_same hy1 (.frz r1 (.tup [V.str e0.1, V.str ot0]))
  have f2 := new_same hy2 (.frz r2 (.tup [V.ref y1]))
  have t1 := tup_td (K := K) (o := r1) WI.al hy1 (.cons (.str e0.1) (.cons (.str ot0) .nil))
  have t2 := tup_td (K := K) (o := r2) (WI.al.same f1) hy2 (.cons t1.dp .nil)
  have f12 := f1.trans f2
  try unfold tNoPart
  refine from_td (k := 1) (WI.al.same f12) (WI.tb.same (rm_same f12)) (fun u5 H3' s6 td => ?_)
  refine cat_td ((WI.al.same f12).same s6) (t2.same (rm_same s6)) td (by simp only [List.length_singleton, List.length_drop, List.length_map]; omega) (fun u6 H4' s7 td2 => ?_)
  have f17 := (f12.trans s6).trans s7
  have vI' := f17 _ _ vI
  refine ⟨N2, n2 ++ [u2], _, rfl, rfl, vI', small1000 (by rw [List.length_append, List.length_singleton]; have : n2.length ≤ 29 := v1l; omega), ?_⟩
  have pJ := (pI.same f17).put mN2 vI' td2.dp (br_go rfl (go_value fun ws h => by
    have : ws = wv := by
      have h1 := look_of G.nm.1 h
      have h2 := look_of G.nm.1 wv1
      rw [h1] at h2
      exact Option.some.inj h2
    subst this
    cases e : stands ws (.str ot0) with
    | false => rfl
    | true =>
      obtain ⟨w, ew, hw⟩ := stands_str e
      cases ew
      exact absurd hw ot1) (fun f hf => gsD _ (.str ot0) f (str_shaped (h7ok ot0 ot2)) hf))
  have WJ := ((WI.same f17).put (o := .lst (n2 ++ [u2] ++ [u6])) mN2).leave
  have FJ := (FI.same f17).off (o := .lst (n2 ++ [u2] ++ [u6])) N2a N2b
  have kJ := (kI.trans (Kept.of_same f17)).new (o := .lst (n2 ++ [u2] ++ [u6])) hN20
  have pJ' := pJ.leave
  clear t1 t2 td td2 pI pJ
  try dsimp only
  generalize L2.upd H4' N2 (.lst (n2 ++ [u2] ++ [u6])) = HJ at pJ' WJ FJ kJ
  try dsimp only
  first
    | refine st_eq (σ' := [some (V.ref a), some (V.ref p), some (V.ref q), some (V.ref z), some (V.str e0.1), some (V.str e0.2), some (V.ref OD), some (V.ref N2), none, some (V.ref WD), none, some (V.ref ND), none, some (V.ref SD), none, some (V.ref x0), some (V.ref OD2), none, none]) rfl ?_
    | refine st_gn (σ' := [some (V.ref a), some (V.ref p), some (V.ref q), some (V.ref z), some (V.str e0.1), some (V.str e0.2), some (V.ref OD), some (V.ref N2), none, some (V.ref WD), none, some (V.ref ND), none, some (V.ref SD), none, some (V.ref x0), some (V.ref OD2), none, none]) rfl ?_
  -- rows
  have hfk : ∀ f ∈ rs.map ruleD, FOk f := fun f hf => by
    obtain ⟨x, hx, rfl⟩ := List.mem_map.mp hf
    exact rule_fok G (hB x hx) ⟨_, rfl, rule_pair x⟩
  have hqr : qs.length = rs.length := prd_len hR
  have e19 : ∀ xs : List V, cutV xs none (some 19) = xs.take 19 := fun xs => cutV_to xs 19
  refine asg_op ?_
  refine lc_pl (P := BR t) (P' := BadB t) (n := 31) (S := [a]) WJ.al (fun Q' z => ⟨_, rfl, z⟩) pJ' (by decide) (fun _ => rfl) (fun D x d H' Qc AD sH sR hx hd kQ => ?_) (fun RA HK hRA sK pA => ?_)
  · have hqH := sH _ _ (rm_of WJ.qq).2
    refine ⟨_, rfl, _, rfl, q, _, rfl, SqL.of hqH, fun y1 hy1 => ⟨_, rfl, by show 1 ≤ sizeLine; decide, fun y2 hy2 => ?_⟩⟩
    have b1 := new_same hy1 (.lst (cutV (qs.map V.ref) none (some 19)))
    have b2 := new_same hy2 (.lst [x])
    refine ⟨y1, y2, _, _, rfl, rfl, b2 _ _ upd_same, upd_same, ?_, fun y3 hy3 => ?_⟩
    · refine le_line ?_
      rw [e19, List.length_take, List.length_singleton]
      omega
    have b3 := new_same hy3 (.lst (cutV (qs.map V.ref) none (some 19) ++ [x]))
    have b13 := (b1.trans b2).trans b3
    refine kQ _ _ (.list ((rs.map ruleD).take 19 ++ [d])) b13 ?_ (badB_in rfl (List.mem_append_right _ (List.mem_singleton.mpr rfl)) hd.1 fun f hf => ?_)
    · refine .lst (SqL.of ?_) (dps_same (rm_same b13) (dps_app (dps_take 19 (rules_dps (rules_same sR WJ.rl))) (.cons hx .nil)))
      rw [rm_new (AD.same (b1.trans b2)) hy3, e19]
    · rcases List.mem_append.mp hf with hf | hf
      · exact hfk f (List.mem_of_mem_take hf)
      · rw [List.mem_singleton.mp hf]
        exact hd.2
  have WK := WJ.same sK
  refine lc_pl (P := BR t) (P' := BadB t) (n := 31) (S := [a]) WK.al (fun Q' z => ⟨_, rfl, z⟩) (pJ'.same sK) (by decide) (fun _ => rfl) (fun D x d H' Qc AD sH sR hx hd kQ => ?_) (fun RB HL hRB sL pB => ?_)
  · have hqH := sH _ _ (rm_of WK.qq).2
    refine ⟨_, rfl, by show 1 ≤ sizeLine; decide, fun y1 hy1 => ?_⟩
    have b1 := new_same hy1 (.lst [x])
    refine ⟨_, rfl, _, rfl, q, _, rfl, SqL.of (b1 _ _ hqH), fun y2 hy2 => ?_⟩
    have b2 := new_same hy2 (.lst (cutV (qs.map V.ref) none (some 19)))
    refine ⟨y1, y2, _, _, rfl, rfl, b2 _ _ upd_same, upd_same, ?_, fun y3 hy3 => ?_⟩
    · refine le_line ?_
      rw [e19, List.length_take, List.length_singleton]
      omega
    have b3 := new_same hy3 (.lst ([x] ++ cutV (qs.map V.ref) none (some 19)))
    have b13 := (b1.trans b2).trans b3
    refine kQ _ _ (.list ([d] ++ (rs.map ruleD).take 19)) b13 ?_ (badB_in rfl (List.mem_append_left _ (List.mem_singleton.mpr rfl)) hd.1 fun f hf => ?_)
    · refine .lst (SqL.of ?_) (dps_same (rm_same b13) (dps_app (.cons hx .nil) (dps_take 19 (rules_dps (rules_same sR WK.rl)))))
      rw [rm_new (AD.same (b1.trans b2)) hy3, e19]
    · rcases List.mem_append.mp hf with hf | hf
      · rw [List.mem_singleton.mp hf]
        exact hd.2
      · exact hfk f (List.mem_of_mem_take hf)
  refine PL.cat (pA.leave.same sL) pB.leave (by decide) (fun RC HM sM hRC pC' => ?_)
  have sJM := (sK.trans sL).trans sM
  have WM := WJ.same sJM
  have FM := FJ.same sJM
  have kM := kJ.trans (Kept.of_same sJM)
  try dsimp only
  -- the end
  refine ⟨_, rfl, ?_⟩
  unfold tLst tCons tC
  refine lc_rng (K := K) (S := [a]) (m := 21) (List.replicate 21 (PyData.tuple (r.map pairD))) WM.al (fun Q' z => z) (by decide) rfl (fun _ => rfl) (fun D j ed H' Qc ej AD sH sR kQ => ?_) (fun BD us HN hBD sN hus dus => ?_)
  · have hed : ed = PyData.tuple (r.map pairD) := by
      have := List.mem_of_getElem? ej
      exact List.eq_of_mem_replicate this
    exact ⟨_, rfl, kQ _ _ (Same.refl H') (by rw [hed]; exact (WM.tb.same sR).dp)⟩
  have WN := WM.same sN
  have BDn : BD ∉ [a] := fun y => WM.al BD y hBD
  have dBD : Dp K (rmL [a] HN) (.ref BD) (.list (List.replicate 21 (PyData.tuple (r.map pairD)))) := .lst (SqL.of (by rw [rm_at BDn]; exact hus)) (dps_same (rm_sub fun x hx => List.mem_cons_of_mem _ hx) dus)
  obtain ⟨z', xs, ez, hz1, hz2⟩ := WN.tb
  cases ez
  obtain ⟨y0, xs', exs, hy0⟩ : ∃ y0 xs', xs = y0 :: xs' ∧ Dp K (rmL [a] HN) y0 (pairD e0) := by
    rw [er] at hz2
    cases hz2 with
    | cons x y => exact ⟨_, _, rfl, x⟩
  refine ⟨_, rfl, ix_row (.inr (seqT_same rm_le hz1)) (at_of (j := 0) (v := y0) rfl (by rw [exs] <;> rfl)) ⟨by show 6 ≤ sizeLine; decide, fun LZ hLZ => ?_⟩⟩
  have fokT : ∀ f ∈ List.replicate 21 (PyData.tuple (r.map pairD)), FOk f := fun f hf => by
    rw [List.eq_of_mem_replicate hf]
    exact fok_of rfl gsR
  have pZ := PL.new (S := [a]) (P := BadB t) (vs := [V.non, V.int 5, V.bl true, V.str "ab", V.ref BD, y0]) hLZ (.cons .non (.cons (.int 5) (.cons (.bl true) (.cons (.str "ab") (.cons dBD (.cons hy0 .nil))))))
    (fun d hd => by
      simp only [List.mem_cons, List.not_mem_nil, or_false] at hd
      rcases hd with rfl | rfl | rfl | rfl | rfl | rfl
      · exact badB_norow rfl
      · exact badB_norow rfl
      · exact badB_norow rfl
      · exact badB_norow rfl
      · exact badB_many rfl (by rw [List.length_replicate]; decide) fokT
      · refine badB_in (f := .str e0.1) (fs := [.str e0.1, .str e0.2]) rfl List.mem_cons_self rfl (fun f hf => ?_)
        simp only [List.mem_cons, List.not_mem_nil, or_false] at hf
        rcases hf with rfl | rfl <;> exact fun fs h => by cases h)
  have sZ := sN.trans (new_same hLZ (.lst [V.non, V.int 5, V.bl true, V.str "ab", V.ref BD, y0]))
  refine PL.catN (pC'.same sZ) pZ upd_same (by show 0 < 6; decide) (by show 62 + 6 ≤ 1000; decide) (fun zz HZ s9 hzz pZZ neZ => ?_)
  have sMZ := sZ.trans s9
  refine k zz HZ (pZZ.imp (fun _ h => h) (by show 62 + 6 ≤ 200; decide)) neZ (fun y => ?_) (FM.same sMZ) (kM.trans (Kept.of_same sMZ))
  rw [y] at hzz
  exact (WM.al.same sZ) a List.mem_cons_self hzz
end
end Q
set_option Elab.async false
set_option linter.all false
set_option maxRecDepth 100000
set_option maxHeartbeats 4000000
/-! ### _law_large_right -/
namespace Q
open PySem L2 XD
theorem ways_prod (t : List (Str × List Str)) : ∀ a, waysFrom a t = (t.map fun e => e.2.length).foldl (· * ·) a := by
  induction t with
  | nil => intro a; rfl
  | cons e t ih =>
    intro a
    show waysFrom (a * e.2.length) t = _
    rw [ih]
    rfl
/-- sizes of a table -/
structure Sz (ms : List Nat) : Prop where
  lo : 1 ≤ ms.length
  hi : ms.length ≤ 6
  ea : ∀ m ∈ ms, 1 ≤ m ∧ m ≤ 5
theorem Tb.ok {t : List (Str × List Str)} {ms : List Nat} (h : Tb t ms) (z : Sz ms) : TabOk t ∧ waysFrom 1 t = ms.foldl (· * ·) 1 := by
  have hl : t.length = ms.length := by rw [← h.sz, List.length_map]
  refine ⟨⟨by rw [hl]; exact z.lo, by rw [hl]; exact z.hi, h.nm, fun e he => ?_⟩, by rw [ways_prod, h.sz]⟩
  have := z.ea e.2.length (by rw [← h.sz]; exact List.mem_map.mpr ⟨e, he, rfl⟩)
  exact ⟨h.vs e he, this.1, this.2⟩
theorem made_pack {K : PySem.W.Frag} {H : Hp} {t : List (Str × List Str)} {rs : List (List (Str × Str))} {vF vR : V} {dF dR : PyData} (T : TabOk t) (hb : ∀ r ∈ rs, Ban t 4 r) (hl : rs.length ≤ 20) (h : Hand K H t rs vF vR dF dR) :
    FShort dF ∧ ROk dR ∧ made dF dR = if 1000 < waysFrom 1 t then .many else .form t (once (rs.map (bySeq t))) :=
  ⟨(tab_fields h.ft T).2.2, (rules_rules h.fr T hb hl).2.2, made_good h.ft h.fr T hb hl⟩
/-- all that _law_made asks of good ones -/
theorem made_args {K : PySem.W.Frag} {H : Hp} {t : List (Str × List Str)} {rs : List (List (Str × Str))} {vF vR : V} {dF dR : PyData} {Q : VK} {E : XK} (T : TabOk t) (hb : ∀ r ∈ rs, Ban t 4 r) (hl : rs.length ≤ 20) (h : Hand K H t rs vF vR dF dR)
    (k : madeEnd H Q (if 1000 < waysFrom 1 t then .many else .form t (once (rs.map (bySeq t))))) : spMade K [vF, vR] H Q E := by
  obtain ⟨h1, h2, h3⟩ := tab_fields h.ft T
  obtain ⟨h4, h5, h6⟩ := rules_rules h.fr T hb hl
  refine ⟨vF, vR, dF, dR, rfl, h.dpF, h.dpR, h3, h6, fun _ _ _ => h.rz, ?_⟩
  rw [made_good h.ft h.fr T hb hl]
  exact k
theorem made_args0 {K : PySem.W.Frag} {H : Hp} {vF vR : V} {dF dR : PyData} {Q : VK} {E : XK} (h1 : Dp K H vF dF) (h2 : Dp K H vR dR) (h3 : BadT dF) (h4 : ROk dR)
    (k : ∀ p H', Same H H' → H' p = none → Q (.ref p) (L2.upd H' p (.tup [.str "value", .int 0, .bl true]))) : spMade K [vF, vR] H Q E := by
  have em := made_bad0 (dR := dR) h3.1
  refine ⟨vF, vR, dF, dR, rfl, h1, h2, h3.2, h4, (fun t rs e => by rw [em] at e; cases e), ?_⟩
  rw [em]
  exact k
theorem made_args1 {K : PySem.W.Frag} {H : Hp} {t : List (Str × List Str)} {vF vR : V} {dF dR : PyData} {Q : VK} {E : XK} (T : TabOk t) (h1 : Dp K H vF dF) (hf : FTab t dF) (h2 : Dp K H vR dR) (h3 : BadB t dR)
    (k : ∀ p H', Same H H' → H' p = none → Q (.ref p) (L2.upd H' p (.tup [.str "value", .int 1, .bl true]))) : spMade K [vF, vR] H Q E := by
  have em := made_bad1 hf T h3.1
  refine ⟨vF, vR, dF, dR, rfl, h1, h2, (tab_fields hf T).2.2, h3.2, (fun t rs e => by rw [em] at e; cases e), ?_⟩
  rw [em]
  exact k
theorem tri_dp {K : PySem.W.Frag} {H : Hp} {p : Addr} {x y : V} {a b : PyData} (h1 : Dp K H x a) (h2 : Dp K H y b) (h : SqT K H p [x, y, .bl true]) : Dp K H (.ref p) (.tuple [a, b, .bool true]) :=
  .tup h (.cons h1 (.cons h2 (.cons (.bl true) .nil)))
theorem ds_tri {a b : PyData} (h1 : rowOf a = none) (h2 : rowOf b = none) : Ds 5 (.tuple [a, b, .bool true]) := fun xs e => by
  cases e
  refine ⟨by show 3 ≤ 1000; decide, fun x hx => ?_⟩
  simp only [List.mem_cons, List.not_mem_nil, or_false] at hx
  rcases hx with rfl | rfl | rfl
  · exact fun xs e => by rw [h1] at e; cases e
  · exact fun xs e => by rw [h2] at e; cases e
  · exact fun xs e => by cases e
/-- _law_same of such two -/
theorem same_tri {K : PySem.W.Frag} {H : Hp} {p q : Addr} {x y : V} {a b : PyData} {Q : VK} {E : XK} (e1 : rowOf a = none) (e2 : rowOf b = none) (h1 : Dp K H x a) (h2 : Dp K H y b) (hp : SqT K H p [x, y, .bl true]) (hq : SqT K H q [x, y, .bl true]) (k : ∀ H', Same H H' → Q (.bl true) H') : spSame K 5 [.ref p, .ref q] H Q E :=
  ⟨.ref p, .ref q, _, rfl, tri_dp h1 h2 hp, tri_dp h1 h2 hq, ds_tri e1 e2, k⟩
theorem badT_again {d : PyData} {t : List (Str × List Str)} (e : rowOf d = some (t.map entryD ++ (t.map entryD).take 1)) (T : TabOk t) : BadT d := by
  have fs : ∀ f ∈ t.map entryD, FS f := fun f hf => by
    obtain ⟨x, hx, rfl⟩ := List.mem_map.mp hf
    exact entry_fs (T.nm.2 _ (List.mem_map.mpr ⟨x, hx, rfl⟩)) (T.vs x hx).1.2
  refine ⟨?_, bad_short e fun f hf => ?_⟩
  · unfold areFields
    rw [e]
    show (_ && (_ && (_ && unlike ((t.map entryD ++ (t.map entryD).take 1).map firstOf)))) = false
    have : unlike ((t.map entryD ++ (t.map entryD).take 1).map firstOf) = false := by
      unfold unlike
      have : decide (textsOf ((t.map entryD ++ (t.map entryD).take 1).map firstOf)).Nodup = false := by
        refine decide_eq_false fun z => ?_
        have ht := T.lo
        cases t with
        | nil => cases ht
        | cons x t =>
          have e2 : textsOf (((x :: t).map entryD ++ ((x :: t).map entryD).take 1).map firstOf) = x.1 :: (textsOf ((t.map entryD).map firstOf) ++ [x.1]) := by
            unfold textsOf
            simp [firstOf, entryD, pairOf, rowOf, strOf]
          rw [e2, List.nodup_cons] at z
          exact z.1 (List.mem_append_right _ (List.mem_singleton.mpr rfl))
      rw [this, Bool.and_false]
    rw [this, Bool.and_false, Bool.and_false, Bool.and_false]
  · rcases List.mem_append.mp hf with hf | hf
    · exact fs f hf
    · exact fs f (List.mem_of_mem_take hf)
theorem hand_nil {K : PySem.W.Frag} {H : Hp} {p q : Addr} {ps : List Addr} {kvs : List (Key × V)} {t : List (Str × List Str)} (hp : TabIn K H p ps kvs t) (hq : SqL K H q [] ∨ SqT K H q []) : ∃ dF dR, isTab t dF ∧ Hand K H t [] (.ref p) (.ref q) dF dR := by
  obtain ⟨dF, dR, h1, _, h3⟩ := hand_of hp (show BansIn K H q [] [] from ⟨hq, .nil⟩)
  exact ⟨dF, dR, h1, h3⟩
theorem sz1000 : ∀ (i : Nat) (x : List Nat), ([[5, 5, 5, 4, 2], [2, 4, 5, 5, 5], [1, 5, 5, 5, 4, 2]] : List (List Nat))[i]? = some x → Sz x ∧ x.foldl (· * ·) 1 ≤ 1000 := fun i x h => by
  match i, h with
  | 0, e => cases e; exact ⟨⟨by decide, by decide, by decide⟩, by decide⟩
  | 1, e => cases e; exact ⟨⟨by decide, by decide, by decide⟩, by decide⟩
  | 2, e => cases e; exact ⟨⟨by decide, by decide, by decide⟩, by decide⟩
theorem sz1001 : ∀ (i : Nat) (x : List Nat), ([[5, 5, 5, 3, 3], [5, 5, 5, 5, 2], [5, 5, 5, 5, 5, 5], [3, 3, 3, 4, 5, 2]] : List (List Nat))[i]? = some x → Sz x ∧ 1000 < x.foldl (· * ·) 1 := fun i x h => by
  match i, h with
  | 0, e => cases e; exact ⟨⟨by decide, by decide, by decide⟩, by decide⟩
  | 1, e => cases e; exact ⟨⟨by decide, by decide, by decide⟩, by decide⟩
  | 2, e => cases e; exact ⟨⟨by decide, by decide, by decide⟩, by decide⟩
  | 3, e => cases e; exact ⟨⟨by decide, by decide, by decide⟩, by decide⟩
abbrev iLst (ms : List Nat) : List V := ms.map fun (m : Nat) => V.int m
def spLarge : Sp := fun vs H Q _ => ∃ a b, vs = [.ref a] ∧ Flw b H a ∧ ∀ H', Q (.bl true) H'
section
variable {P : Program} {w : World} {K : PySem.W.Frag} {mg : Str → Option Value} {base : Heap}
theorem scLarge : FnScope ["flow", "sizes", "great", "table", "ban", "bans"] ["flow"] (defScope sLarge) := ⟨rfl, rfl, rfl, by decide +kernel, rfl, by decide +kernel, by decide +kernel⟩
theorem ok_large {f fI C CV CM : Addr} {fd fdI : FuncData} (F : Fun K "_law_large_right" "_law_large_right" sLarge f fd) (T : Fc K mg C) (M : Mk K C fI) (GI : FnOk P w K mg base (L2N.CX P w) 6 fI fdI ["self", "fields", "rules"] (spInit K C CV CM)) (bI : Binds K fdI ["self", "fields", "rules"] []) (T1 : mg "tuple" = none)
    (KP : Kn P w K mg base 3 "_law_pick" ["flow", "things"] (spPickB K)) (KT : Kn P w K mg base 6 "_law_table" ["flow", "sizes"] (spTable K)) (KM : Kn P w K mg base 8 "_law_made" ["table", "bans"] (spMade K)) (KR : Kn P w K mg base 6 "_law_right" ["made", "table", "bans"] (spRight K C))
    (KB : Kn P w K mg base 4 "_law_ban" ["flow", "table", "most"] (spBan K)) (KS : Kn P w K mg base 5 "_law_same" ["actual", "due"] (spSame K 5)) : FnOk P w K mg base CX0 9 f fd ["flow"] spLarge := by
  obtain ⟨fP, fdP, GP, kP, bP, mP⟩ := KP.ex
  obtain ⟨fT, fdT, GT, kT, bT, mT⟩ := KT.ex
  obtain ⟨fM, fdM, GM, kM, bM, mM⟩ := KM.ex
  obtain ⟨fR, fdR, GR, kR, bR, mR⟩ := KR.ex
  obtain ⟨fB, fdB, GB, kB, bB, mB⟩ := KB.ex
  obtain ⟨fS, fdS, GS, kS, bS, mS⟩ := KS.ex
  refine F.ok scLarge (fun vs H Q E h => ?_) (fun cdv A outer s H vs Q E hr h => ?_)
  · obtain ⟨a, b, rfl, _⟩ := h
    rfl
  obtain ⟨a, b, rfl, ha, k⟩ := h
  have vt_ : PySem.bootBuiltins "tuple" = some (.type "tuple") := by decide +kernel
  refine ⟨_, pss_cons (ps_set (i := 1) scLarge.nd rfl (.inl rfl) (pe_call GP (hr.mono (by decide)) rfl mP kP bP .nil pass0 (pa_cons (pv 0) (pa_cons (pe_lst (pa_cons (pe_lst (pa_cons pe_int (pa_cons pe_int (pa_cons pe_int (pa_cons pe_int (pa_cons pe_int pa_nil)))))) (pa_cons (pe_lst (pa_cons pe_int (pa_cons pe_int (pa_cons pe_int (pa_cons pe_int (pa_cons pe_int pa_nil))))))
      (pa_cons (pe_lst (pa_cons pe_int (pa_cons pe_int (pa_cons pe_int (pa_cons pe_int (pa_cons pe_int (pa_cons pe_int pa_nil))))))) pa_nil)))) pa_nil))))
    (pss_cons (ps_set (i := 2) scLarge.nd rfl (.inl rfl) (pe_call GP (hr.mono (by decide)) rfl mP kP bP .nil pass0 (pa_cons (pv 0) (pa_cons (pe_lst (pa_cons (pe_lst (pa_cons pe_int (pa_cons pe_int (pa_cons pe_int (pa_cons pe_int (pa_cons pe_int pa_nil)))))) (pa_cons (pe_lst (pa_cons pe_int (pa_cons pe_int (pa_cons pe_int (pa_cons pe_int (pa_cons pe_int pa_nil))))))
      (pa_cons (pe_lst (pa_cons pe_int (pa_cons pe_int (pa_cons pe_int (pa_cons pe_int (pa_cons pe_int (pa_cons pe_int pa_nil))))))) (pa_cons (pe_lst (pa_cons pe_int (pa_cons pe_int (pa_cons pe_int (pa_cons pe_int (pa_cons pe_int (pa_cons pe_int pa_nil))))))) pa_nil))))) pa_nil))))
    (pss_cons (ps_set (i := 3) scLarge.nd rfl (.inl rfl) (pe_call GT (hr.mono (by decide)) rfl mT kT bT .nil pass0 (pa_cons (pv 0) (pa_cons (pv 1) pa_nil))))
    (pss_cons (ps_if (PW.pt (pw_or (pt_cmp (pc_notN (pe_call GM (hr.mono (by decide)) rfl mM kM bM .nil pass0 (pa_cons (pv 3) (pa_cons (pe_tupZ pa_nil) pa_nil))))) (pw_or1 (pt_not (pt_val (pe_call GR (hr.mono (by decide)) rfl mR kR bR .nil pass0 (pa_cons (pe_make M GI (hr.mono (by decide)) rfl T.gF bI .nil passF (pa_cons (pe_callTy (call_tupK K rfl) rfl T1 vt_ (pa_cons (pv 3) pa_nil)) (pa_cons (pe_lst pa_nil) pa_nil))) (pa_cons (pv 3) (pa_cons (pe_lst pa_nil) pa_nil)))))))))
        (pss_one (ps_ret pe_bl)) pss_nil)
    (pss_cons (ps_set (i := 3) scLarge.nd rfl (.inl rfl) (pe_call GT (hr.mono (by decide)) rfl mT kT bT .nil pass0 (pa_cons (pv 0) (pa_cons (pv 2) pa_nil))))
    (pss_cons (ps_set (i := 4) scLarge.nd rfl (.inl rfl) (pe_call GB (hr.mono (by decide)) rfl mB kB bB .nil pass0 (pa_cons (pv 0) (pa_cons (pv 3) (pa_cons pe_int pa_nil)))))
    (pss_cons (ps_for PassesOwn.never rfl (pi_list (pe_lst (pa_cons (pe_tupZ pa_nil) (pa_cons (pe_lst (pa_cons (pv 4) pa_nil)) pa_nil)))) (pg_name (i := 5) scLarge.nd rfl (.inl rfl))
      (pss_one (ps_if (pt_not (pt_val (pe_call GS (hr.mono (by decide)) rfl mS kS bS .nil pass0 (pa_cons (pe_call GM (hr.mono (by decide)) rfl mM kM bM .nil pass0 (pa_cons (pv 3) (pa_cons (pv 5) pa_nil))) (pa_cons (pe_tupZ (pa_cons pe_str (pa_cons pe_str (pa_cons pe_bl pa_nil)))) pa_nil))))) (pss_one (ps_ret pe_bl)) pss_nil)))
    (pss_cons (ps_if (pt_not (pt_val (pe_call GS (hr.mono (by decide)) rfl mS kS bS .nil pass0 (pa_cons (pe_call GM (hr.mono (by decide)) rfl mM kM bM .nil pass0 (pa_cons (pv 3) (pa_cons (pe_lst (pa_cons (pv 4) (pa_cons (pe_tupZ pa_nil) pa_nil))) pa_nil))) (pa_cons (pe_tupZ (pa_cons pe_str (pa_cons pe_int (pa_cons pe_bl pa_nil)))) pa_nil))))) (pss_one (ps_ret pe_bl)) pss_nil)
    (pss_one (ps_ret (pe_call GS (hr.mono (by decide)) rfl mS kS bS .nil pass0 (pa_cons (pe_call GM (hr.mono (by decide)) rfl mM kM bM .nil pass0 (pa_cons (pe_op op_cat (pv 3) (pe_slice sl_list (pv 3) po_none (po_some pe_int))) (pa_cons (pe_lst (pa_cons (pe_tupZ pa_nil) pa_nil)) pa_nil))) (pa_cons (pe_tupZ (pa_cons pe_str (pa_cons pe_int (pa_cons pe_bl pa_nil)))) pa_nil)))))))))))), ?_⟩
  -- sizes
  refine ⟨_, rfl, by show 5 ≤ sizeLine; decide, fun l1 h1 => ⟨by show 5 ≤ sizeLine; decide, fun l2 h2 => ⟨by show 6 ≤ sizeLine; decide, fun l3 h3 => ⟨by show 3 ≤ sizeLine; decide, fun L hL => ?_⟩⟩⟩⟩
  have s1 := new_same h1 (.lst (iLst [5, 5, 5, 4, 2]))
  have s2 := new_same h2 (.lst (iLst [2, 4, 5, 5, 5]))
  have s3 := new_same h3 (.lst (iLst [1, 5, 5, 5, 4, 2]))
  have s4 := new_same hL (.lst [V.ref l1, V.ref l2, V.ref l3])
  have g1 := s4 _ _ (s3 _ _ (s2 _ _ (upd_same (H := H) (a := l1) (o := .lst (iLst [5, 5, 5, 4, 2])))))
  have g2 := s4 _ _ (s3 _ _ (upd_same (H := L2.upd H l1 (.lst (iLst [5, 5, 5, 4, 2]))) (a := l2) (o := .lst (iLst [2, 4, 5, 5, 5]))))
  have g3 := s4 _ _ (upd_same (H := L2.upd (L2.upd H l1 (.lst (iLst [5, 5, 5, 4, 2]))) l2 (.lst (iLst [2, 4, 5, 5, 5]))) (a := l3) (o := .lst (iLst [1, 5, 5, 5, 4, 2])))
  have F1 := ha.same s1
  have F2 := F1.same s2
  have F3 := F2.same s3
  have F4 := F3.same s4
  have n1 := (ha.ne h1).1
  have n2 := (F1.ne h2).1
  have n3 := (F2.ne h3).1
  have nL := (F3.ne hL).1
  refine ⟨a, b, L, _, rfl, F4, .inl ⟨SqL.of upd_same, nL⟩, by show 0 < 3; decide, by show 3 ≤ 1000; decide, fun i x H1 hx F5 k5 => ?_⟩
  obtain ⟨p1, ms1, rfl, hp1, np1, sz1, wz1⟩ : ∃ p1 ms1, x = .ref p1 ∧ H1 p1 = some (.lst (iLst ms1)) ∧ p1 ≠ a ∧ Sz ms1 ∧ ms1.foldl (· * ·) 1 ≤ 1000 := by
    match i, hx with
    | 0, e => cases e; exact ⟨l1, _, rfl, k5 _ _ n1 g1, n1, (sz1000 0 _ rfl).1, (sz1000 0 _ rfl).2⟩
    | 1, e => cases e; exact ⟨l2, _, rfl, k5 _ _ n2 g2, n2, (sz1000 1 _ rfl).1, (sz1000 1 _ rfl).2⟩
    | 2, e => cases e; exact ⟨l3, _, rfl, k5 _ _ n3 g3, n3, (sz1000 2 _ rfl).1, (sz1000 2 _ rfl).2⟩
  try dsimp only
  -- great
  refine ⟨_, rfl, by show 5 ≤ sizeLine; decide, fun l1 h1 => ⟨by show 5 ≤ sizeLine; decide, fun l2 h2 => ⟨by show 6 ≤ sizeLine; decide, fun l3 h3 => ⟨by show 6 ≤ sizeLine; decide, fun l4 h4 => ⟨by show 4 ≤ sizeLine; decide, fun L hL => ?_⟩⟩⟩⟩⟩
  have s1 := new_same h1 (.lst (iLst [5, 5, 5, 3, 3]))
  have s2 := new_same h2 (.lst (iLst [5, 5, 5, 5, 2]))
  have s3 := new_same h3 (.lst (iLst [5, 5, 5, 5, 5, 5]))
  have s3' := new_same h4 (.lst (iLst [3, 3, 3, 4, 5, 2]))
  have s4 := new_same hL (.lst [V.ref l1, V.ref l2, V.ref l3, V.ref l4])
  have g1 := s4 _ _ (s3' _ _ (s3 _ _ (s2 _ _ (upd_same (H := H1) (a := l1) (o := .lst (iLst [5, 5, 5, 3, 3]))))))
  have g2 := s4 _ _ (s3' _ _ (s3 _ _ (upd_same (H := L2.upd H1 l1 (.lst (iLst [5, 5, 5, 3, 3]))) (a := l2) (o := .lst (iLst [5, 5, 5, 5, 2])))))
  have g3 := s4 _ _ (s3' _ _ (upd_same (H := L2.upd (L2.upd H1 l1 (.lst (iLst [5, 5, 5, 3, 3]))) l2 (.lst (iLst [5, 5, 5, 5, 2]))) (a := l3) (o := .lst (iLst [5, 5, 5, 5, 5, 5]))))
  have g4 := s4 _ _ (upd_same (H := L2.upd (L2.upd (L2.upd H1 l1 (.lst (iLst [5, 5, 5, 3, 3]))) l2 (.lst (iLst [5, 5, 5, 5, 2]))) l3 (.lst (iLst [5, 5, 5, 5, 5, 5]))) (a := l4) (o := .lst (iLst [3, 3, 3, 4, 5, 2])))
  have F1 := F5.same s1
  have F2 := F1.same s2
  have F3 := F2.same s3
  have F3' := F3.same s3'
  have F4 := F3'.same s4
  have n1 := (F5.ne h1).1
  have n2 := (F1.ne h2).1
  have n3 := (F2.ne h3).1
  have n4 := (F3.ne h4).1
  have nL := (F3'.ne hL).1
  have hp1' := s4 _ _ (s3' _ _ (s3 _ _ (s2 _ _ (s1 _ _ hp1))))
  refine ⟨a, b, L, _, rfl, F4, .inl ⟨SqL.of upd_same, nL⟩, by show 0 < 4; decide, by show 4 ≤ 1000; decide, fun i x H2 hx F6 k6 => ?_⟩
  obtain ⟨p2, ms2, rfl, hp2, np2, sz2, wz2⟩ : ∃ p2 ms2, x = .ref p2 ∧ H2 p2 = some (.lst (iLst ms2)) ∧ p2 ≠ a ∧ Sz ms2 ∧ 1000 < ms2.foldl (· * ·) 1 := by
    match i, hx with
    | 0, e => cases e; exact ⟨l1, _, rfl, k6 _ _ n1 g1, n1, (sz1001 0 _ rfl).1, (sz1001 0 _ rfl).2⟩
    | 1, e => cases e; exact ⟨l2, _, rfl, k6 _ _ n2 g2, n2, (sz1001 1 _ rfl).1, (sz1001 1 _ rfl).2⟩
    | 2, e => cases e; exact ⟨l3, _, rfl, k6 _ _ n3 g3, n3, (sz1001 2 _ rfl).1, (sz1001 2 _ rfl).2⟩
    | 3, e => cases e; exact ⟨l4, _, rfl, k6 _ _ n4 g4, n4, (sz1001 3 _ rfl).1, (sz1001 3 _ rfl).2⟩
  have hp1'' := k6 _ _ np1 hp1'
  try dsimp only
  refine ⟨_, rfl, _, rfl, a, b, p1, ms1, rfl, F6, hp1'', np1, by have := sz1.hi; omega, fun m hm => by have := (sz1.ea m hm).2; omega, fun D ps kvs t H3 hD hD' hT tb F7 k7 => ?_⟩
  obtain ⟨T1', w1⟩ := tb.ok sz1
  have hp2' := k7 _ _ np2 hp2
  have G1 : Good t [] := ⟨T1', fun r h => absurd h List.not_mem_nil, by decide, by rw [w1]; exact wz1⟩
  have tin : TabIn K H3 D ps kvs t := ⟨.inl (SqL.of hD'), hT⟩
  try dsimp only
  -- a table of just 1,000
  refine ⟨_, rfl, by show 0 ≤ sizeLine; decide, fun z1 o1 hz1 _ => ?_⟩
  have c1 := new_same hz1 (.frz o1 (.tup []))
  have T1in := tin.same c1
  obtain ⟨dF, dR, iF, hand⟩ := hand_nil (q := z1) T1in (.inr (.inl (.inr ⟨o1, upd_same⟩)))
  obtain ⟨m1, m2, m3⟩ := made_pack G1.tb G1.bs (by decide) hand
  rw [if_neg (by have := G1.ws; omega)] at m3
  refine ⟨.ref D, .ref z1, dF, dR, rfl, hand.dpF, hand.dpR, m1, m2, fun _ _ _ => hand.rz, ?_⟩
  rw [m3]
  intro H4 c2
  refine ⟨_, rfl, iteNS (by simp) ?_⟩
  have c12 := c1.trans c2
  refine ⟨_, rfl, D, _, rfl, .inl ⟨SqL.of (c12 _ _ hD'), fun z2 o2 hz2 _ => ⟨by show 0 ≤ sizeLine; decide, fun z3 hz3 => ?_⟩⟩⟩
  have c3 := new_same hz2 (.frz o2 (.tup (ps.map V.ref)))
  have c4 := new_same hz3 (.lst [])
  have c14 := (c12.trans c3).trans c4
  have T2in : TabIn K (L2.upd (L2.upd H4 z2 (.frz o2 (.tup (ps.map V.ref)))) z3 (.lst [])) z2 ps kvs t := ⟨.inr (.inl (.inr ⟨o2, c4 _ _ upd_same⟩)), hT.same c14⟩
  obtain ⟨dF2, dR2, iF2, hand2⟩ := hand_nil (q := z3) T2in (.inl (SqL.of upd_same))
  refine fun x dx hx hdx hne => init_good G1 hand2 hx hdx hne fun pf pr H5 c5 f1 f2 f3 => ⟨rfl, ?_⟩
  have c15 := c14.trans c5
  refine ⟨_, rfl, by show 0 ≤ sizeLine; decide, fun z4 hz4 => ?_⟩
  have c6 := new_same hz4 (.lst [])
  have c16 := c15.trans c6
  have T3in := tin.same c16
  obtain ⟨g1, g2, g3, g4, g5⟩ := good_right G1
  refine ⟨x, pf, pr, D, z4, ps, kvs, t, [], [], rfl, form_same c6 f1, TabAt.same c6 f2, rulesAt_same c6 f3, T3in.at_, T3in.rw_, .inl (SqL.of upd_same), .nil, g1, g2, g3, g4, g5, fun H6 c7 => ⟨_, rfl, iteNS rfl ?_⟩⟩
  have c17 := c16.trans c7
  have F8 := F7.same c17
  have hp2c := c17 _ _ hp2'
  clear T1in T2in T3in hand hand2 m1 m2 m3 g1 g2 g3 g4 g5
  try dsimp only
  -- a table of more
  refine ⟨_, rfl, _, rfl, a, b, p2, ms2, rfl, F8, hp2c, np2, by have := sz2.hi; omega, fun m hm => by have := (sz2.ea m hm).2; omega, fun D2 ps2 kvs2 t2 H7 hD2 hD2' hT2 tb2 F9 k9 => ?_⟩
  obtain ⟨T2', w2⟩ := tb2.ok sz2
  have hw2 : 1000 < waysFrom 1 t2 := by rw [w2]; exact wz2
  have D2a : D2 ≠ a := (F8.ne hD2).1
  try dsimp only
  refine ⟨_, rfl, _, rfl, a, b, D2, ps2, kvs2, t2, 4, rfl, F9, .inl (SqL.of hD2'), D2a, hT2, T2'.lo, by have := T2'.hi; omega, T2'.nm.1, fun e he => ⟨(T2'.vs e he).2.1, by have := (T2'.vs e he).2.2; omega⟩, by decide, by decide, fun z r H8 hz B Fa ka => ?_⟩
  have hD8 := ka _ _ D2a hD2'
  have hT8 := hT2.flw F9 ka
  have tin2 : TabIn K H8 D2 ps2 kvs2 t2 := ⟨.inl (SqL.of hD8), hT8⟩
  try dsimp only
  refine ⟨by show 0 ≤ sizeLine; decide, fun z5 o5 hz5 _ => ⟨_, rfl, by show 1 ≤ sizeLine; decide, fun z6 hz6 => ⟨by show 2 ≤ sizeLine; decide, fun LL hLL => ⟨LL, rfl, ⟨_, SqL.of upd_same⟩, ?_⟩⟩⟩⟩
  have d1 := new_same hz5 (.frz o5 (.tup []))
  have d2 := new_same hz6 (.lst [V.ref z])
  have d3 := new_same hLL (.lst [V.ref z5, V.ref z6])
  have d23 := d2.trans d3
  have d13 := d1.trans d23
  have r5 := d23 _ _ (upd_same (H := H8) (a := z5) (o := .frz o5 (.tup [])))
  have r6 := d3 _ _ (upd_same (H := L2.upd H8 z5 (.frz o5 (.tup []))) (a := z6) (o := .lst [V.ref z]))
  have rL : (L2.upd (L2.upd (L2.upd H8 z5 (.frz o5 (.tup []))) z6 (.lst [V.ref z])) LL (.lst [V.ref z5, V.ref z6])) LL = some (.lst [V.ref z5, V.ref z6]) := upd_same
  have tin3 := tin2.same d13
  have hz3' := hz.same d13
  have hD9 := d13 _ _ hD8
  generalize L2.upd (L2.upd (L2.upd H8 z5 (.frz o5 (.tup []))) z6 (.lst [V.ref z])) LL (.lst [V.ref z5, V.ref z6]) = H9 at r5 r6 rL tin3 hz3' hD9
  have many : ∀ (j : Nat) (u : V) (HC : Hp), [V.ref z5, V.ref z6][j]? = some u → Same H9 HC → ∃ (rs : List (List (Str × Str))) (dF dR : PyData), Hand K HC t2 rs (.ref D2) u dF dR ∧ (∀ r ∈ rs, Ban t2 4 r) ∧ rs.length ≤ 20 := fun j u HC hu sC => by
    match j, hu with
    | 0, e =>
      cases e
      obtain ⟨dF, dR, _, h⟩ := hand_nil (q := z5) (tin3.same sC) (.inr (.inl (.inr ⟨o5, sC _ _ r5⟩)))
      exact ⟨[], dF, dR, h, fun r h => absurd h List.not_mem_nil, by decide⟩
    | 1, e =>
      cases e
      obtain ⟨dF, dR, _, _, h⟩ := hand_of (tin3.same sC) (show BansIn K HC z6 [z] [r] from ⟨.inl (SqL.of (sC _ _ r6)), .cons (hz3'.same sC) .nil⟩)
      exact ⟨[r], dF, dR, h, fun r' h' => by rw [List.mem_singleton.mp h']; exact B, by show 1 ≤ 20; decide⟩
  refine for_list (K := K) (a := LL) (xs := [V.ref z5, V.ref z6]) (fun j σ HC => ∃ f5 : Option V, σ = [some (.ref a), some (.ref p1), some (.ref p2), some (.ref D2), some (.ref z), f5] ∧ Same H9 HC) ⟨none, rfl, Same.refl H9⟩ (fun j σ HC _ ⟨_, _, y⟩ => SqL.of (y _ _ rL)) ?_ ?_
  · rintro j u σ HC hu ⟨f5, rfl, sC⟩
    obtain ⟨rs, dF, dR, hand, hb, hl⟩ := many j u HC hu sC
    obtain ⟨m1, m2, m3⟩ := made_pack T2' hb hl hand
    rw [if_pos hw2] at m3
    refine ⟨_, rfl, _, rfl, .ref D2, u, dF, dR, rfl, hand.dpF, hand.dpR, m1, m2, fun _ _ _ => hand.rz, ?_⟩
    rw [m3]
    intro w1 HD sD hw1
    refine ⟨by show 3 ≤ sizeLine; decide, fun w2' q2 hw2' _ => ?_⟩
    have e1 := new_same hw1 (.tup [V.str "many", V.str "fillings", V.bl true])
    have e2 := new_same hw2' (.frz q2 (.tup [V.str "many", V.str "fillings", V.bl true]))
    refine ⟨.ref w1, .ref w2', _, rfl, tri_dp (.str "many") (.str "fillings") (.inl (.inl (e2 _ _ upd_same))), tri_dp (.str _) (.str _) (.inl (.inr ⟨q2, upd_same⟩)), ds_tri rfl rfl, fun HE sE => ⟨_, rfl, iteNS rfl ⟨_, rfl, ((sC.trans sD).trans (e1.trans e2)).trans sE⟩⟩⟩
  rintro σ HC ⟨f5, rfl, sC⟩
  have tin4 := tin3.same sC
  obtain ⟨dF4, iF4, hF4⟩ := tin4.dp
  try dsimp only
  -- a wrong rule
  refine ⟨_, rfl, _, rfl, by show 0 ≤ sizeLine; decide, fun x1 q1 hx1 _ => ⟨by show 2 ≤ sizeLine; decide, fun x2 hx2 => ?_⟩⟩
  have e1 := new_same hx1 (.frz q1 (.tup []))
  have e2 := new_same hx2 (.lst [V.ref z, V.ref x1])
  have e12 := e1.trans e2
  have dR4 : Dp K (L2.upd (L2.upd HC x1 (.frz q1 (.tup []))) x2 (.lst [V.ref z, V.ref x1])) (.ref x2) (.list [ruleD r, .tuple []]) :=
    .lst (SqL.of upd_same) (.cons (((hz3'.same sC).same e12).dp) (.cons (.tup (.inl (.inr ⟨q1, e2 _ _ upd_same⟩)) .nil) .nil))
  have bad1 : BadB t2 (.list [ruleD r, .tuple []]) := by
    refine badB_in (f := .tuple []) rfl (List.mem_cons_of_mem _ List.mem_cons_self) (br_empty (t := t2) rfl).1 fun f hf => ?_
    simp only [List.mem_cons, List.not_mem_nil, or_false] at hf
    rcases hf with rfl | rfl
    · exact rule_fok T2' B ⟨_, rfl, rule_pair r⟩
    · exact (br_empty (t := t2) rfl).2
  have em1 := made_bad1 iF4.ft T2' bad1.1
  refine ⟨.ref D2, .ref x2, dF4, _, rfl, dp_same e12 hF4, dR4, (tab_fields iF4.ft T2').2.2, bad1.2, (fun t rs e => by rw [em1] at e; cases e), ?_⟩
  rw [em1]
  intro w1 HD sD hw1
  refine ⟨by show 3 ≤ sizeLine; decide, fun w2' q2 hw2' _ => ?_⟩
  have e3 := new_same hw1 (.tup [V.str "value", V.int 1, V.bl true])
  have e4 := new_same hw2' (.frz q2 (.tup [V.str "value", V.int 1, V.bl true]))
  refine ⟨.ref w1, .ref w2', _, rfl, tri_dp (.str "value") (.int 1) (.inl (.inl (e4 _ _ upd_same))), tri_dp (.str _) (.int _) (.inl (.inr ⟨q2, upd_same⟩)), ds_tri rfl rfl, fun HE sE => ⟨_, rfl, iteNS rfl ?_⟩⟩
  have e14 := ((e12.trans sD).trans (e3.trans e4)).trans sE
  have tin5 := tin4.same e14
  have hDE := e14 _ _ (sC _ _ hD9)
  try dsimp only
  -- both wrong
  refine ⟨_, rfl, _, rfl, _, rfl, D2, _, rfl, SqL.of hDE, fun y1 hy1 => ?_⟩
  have f1' := new_same hy1 (.lst (cutV (ps2.map V.ref) none (some 1)))
  refine ⟨D2, y1, _, _, rfl, rfl, f1' _ _ hDE, upd_same, ?_, fun y2 hy2 => ⟨by show 0 ≤ sizeLine; decide, fun y3 q3 hy3 _ => ⟨by show 1 ≤ sizeLine; decide, fun y4 hy4 => ?_⟩⟩⟩
  · have e1' : cutV (ps2.map V.ref) none (some 1) = (ps2.map V.ref).take 1 := cutV_to _ 1
    refine le_line ?_
    rw [e1', List.length_take, List.length_map, hT2.flen]
    have := T2'.hi
    omega
  have f2' := new_same hy2 (.lst (ps2.map V.ref ++ cutV (ps2.map V.ref) none (some 1)))
  have f3' := new_same hy3 (.frz q3 (.tup []))
  have f4' := new_same hy4 (.lst [V.ref y3])
  have f34 := f3'.trans f4'
  have f14 := (f1'.trans f2').trans f34
  have ec : cutV (ps2.map V.ref) none (some 1) = (ps2.map V.ref).take 1 := cutV_to _ 1
  have tE := tabR_dps (tin5.rw_.same f14)
  have dF5 : Dp K (L2.upd (L2.upd (L2.upd (L2.upd HE y1 (.lst (cutV (ps2.map V.ref) none (some 1)))) y2 (.lst (ps2.map V.ref ++ cutV (ps2.map V.ref) none (some 1)))) y3 (.frz q3 (.tup []))) y4 (.lst [V.ref y3])) (.ref y2) (.list (t2.map entryD ++ (t2.map entryD).take 1)) := by
    refine .lst (SqL.of (f34 _ _ upd_same)) ?_
    have eL : ps2.map V.ref ++ cutV (ps2.map V.ref) none (some 1) = ps2.map V.ref ++ (ps2.map V.ref).take 1 := by rw [ec]
    have := dps_app tE (dps_take 1 tE)
    rw [← eL] at this
    exact this
  have dR5 : Dp K (L2.upd (L2.upd (L2.upd (L2.upd HE y1 (.lst (cutV (ps2.map V.ref) none (some 1)))) y2 (.lst (ps2.map V.ref ++ cutV (ps2.map V.ref) none (some 1)))) y3 (.frz q3 (.tup []))) y4 (.lst [V.ref y3])) (.ref y4) (.list [.tuple []]) :=
    .lst (SqL.of upd_same) (.cons (.tup (.inl (.inr ⟨q3, f4' _ _ upd_same⟩)) .nil) .nil)
  have bad0 : BadT (.list (t2.map entryD ++ (t2.map entryD).take 1)) := badT_again rfl T2'
  have em0 := made_bad0 (dR := .list [.tuple []]) bad0.1
  refine ⟨.ref y2, .ref y4, _, _, rfl, dF5, dR5, bad0.2, (fun gs eg f hf => by cases eg; rw [List.mem_singleton.mp hf]; exact (br_empty (t := t2) rfl).2), (fun t rs e => by rw [em0] at e; cases e), ?_⟩
  rw [em0]
  intro v1 HF sF hv1
  refine ⟨by show 3 ≤ sizeLine; decide, fun v2 q4 hv2 _ => ?_⟩
  have e5 := new_same hv2 (.frz q4 (.tup [V.str "value", V.int 0, V.bl true]))
  exact ⟨.ref v1, .ref v2, _, rfl, tri_dp (.str "value") (.int 0) (.inl (.inl (e5 _ _ upd_same))), tri_dp (.str _) (.int _) (.inl (.inr ⟨q4, upd_same⟩)), ds_tri rfl rfl, fun HG sG => k HG⟩
end
end Q
set_option Elab.async false
set_option linter.all false
set_option maxRecDepth 100000
set_option maxHeartbeats 4000000
/-! ### the law -/
namespace Q
open PySem L2 XD
def spLaw (K : PySem.W.Frag) : Sp := fun vs H Q _ => ∃ (a : Addr) (ns : List Int), vs = [.ref a] ∧ SqL K H a (ns.map V.int) ∧ ns.length ≤ 63 ∧ ∀ H', Q (.bl true) H'
/-- an if whose branches come to one -/
theorem if_join {c : TT} {t u v : TS} {D : Ends} {σ : L2.St} {H : Hp} (R : Hp → Prop) (h2 : ∀ H', R H' → v D σ H') (h : ∀ D' : Ends, (∀ H', R H' → D'.nx σ H') → tIfS c t u D' σ H) : tSeq (tIfS c t u) v D σ H :=
  h { D with nx := v D } h2
theorem rules_flw {K : PySem.W.Frag} {H H' : Hp} {a b : Addr} (F : Flw b H a) (s : Kept a H H') : ∀ {qs : List Addr} {rs : List (List (Str × Str))}, Paired (RuleAt K H) qs rs → Paired (RuleAt K H') qs rs
  | _, _, .nil => .nil
  | _, _, .cons x y => .cons (x.flw F s) (rules_flw F s y)
/-- the sizes drawn -/
def Szs (ms : List Nat) : Prop := ∀ j m, ms[j]? = some m → 1 ≤ m ∧ m ≤ 5 ∧ (2 < j → m ≤ 2)
theorem szs_sz {ms : List Nat} (h : Szs ms) (h1 : 1 ≤ ms.length) (h5 : ms.length ≤ 5) : Sz ms := by
  refine ⟨h1, by omega, fun m hm => ?_⟩
  obtain ⟨j, hj, rfl⟩ := List.mem_iff_getElem.mp hm
  have := h j _ (List.getElem?_eq_getElem hj)
  exact ⟨this.1, this.2.1⟩
theorem szs_ways {ms : List Nat} (h : Szs ms) (h5 : ms.length ≤ 5) : ms.foldl (· * ·) 1 ≤ 1000 := by
  match ms, h, h5 with
  | [], _, _ => show 1 ≤ 1000; decide
  | [x], h, _ =>
    have a := (h 0 x rfl).2.1
    show 1 * x ≤ 1000
    omega
  | [x, y], h, _ =>
    have a := (h 0 x rfl).2.1
    have b := (h 1 y rfl).2.1
    show 1 * x * y ≤ 1000
    have := Nat.mul_le_mul (Nat.mul_le_mul (Nat.le_refl 1) a) b
    omega
  | [x, y, z], h, _ =>
    have a := (h 0 x rfl).2.1
    have b := (h 1 y rfl).2.1
    have c := (h 2 z rfl).2.1
    show 1 * x * y * z ≤ 1000
    have := Nat.mul_le_mul (Nat.mul_le_mul (Nat.mul_le_mul (Nat.le_refl 1) a) b) c
    omega
  | [x, y, z, u], h, _ =>
    have a := (h 0 x rfl).2.1
    have b := (h 1 y rfl).2.1
    have c := (h 2 z rfl).2.1
    have d := (h 3 u rfl).2.2 (by decide)
    show 1 * x * y * z * u ≤ 1000
    have := Nat.mul_le_mul (Nat.mul_le_mul (Nat.mul_le_mul (Nat.mul_le_mul (Nat.le_refl 1) a) b) c) d
    omega
  | [x, y, z, u, v], h, _ =>
    have a := (h 0 x rfl).2.1
    have b := (h 1 y rfl).2.1
    have c := (h 2 z rfl).2.1
    have d := (h 3 u rfl).2.2 (by decide)
    have e := (h 4 v rfl).2.2 (by decide)
    show 1 * x * y * z * u * v ≤ 1000
    have := Nat.mul_le_mul (Nat.mul_le_mul (Nat.mul_le_mul (Nat.mul_le_mul (Nat.mul_le_mul (Nat.le_refl 1) a) b) c) d) e
    omega
  | _ :: _ :: _ :: _ :: _ :: _ :: _, _, h5 => simp only [List.length_cons] at h5; omega
theorem szs_snoc {ms : List Nat} {m : Nat} (h : Szs ms) (h1 : 1 ≤ m) (h5 : m ≤ 5) (h2 : 2 < ms.length → m ≤ 2) : Szs (ms ++ [m]) := fun j x e => by
  by_cases hj : j < ms.length
  · rw [List.getElem?_append_left hj] at e
    exact h j x e
  · rw [List.getElem?_append_right (by omega)] at e
    have hj2 : j = ms.length := by
      have := (List.getElem?_eq_some_iff.mp e).1
      rw [List.length_singleton] at this
      omega
    subst hj2
    rw [Nat.sub_self] at e
    cases e
    exact ⟨h1, h5, h2⟩
theorem prd_drop {α β : Type} {R : α → β → Prop} : ∀ {xs : List α} {ys : List β} (k : Nat), Paired R xs ys → Paired R (xs.drop k) (ys.drop k)
  | _, _, 0, h => h
  | _, _, k + 1, .nil => .nil
  | _, _, k + 1, .cons _ b => prd_drop k b
abbrev nLaw : List Str := ["script", "flow", "sizes", "k", "table", "bans", "first", "second", "bad_first", "bad_second", "bad", "both"]
/-- where the law stands: flow, table, bans -/
structure LawAt (K : PySem.W.Frag) (H : Hp) (a b D B : Addr) (ps : List Addr) (kvs : List (Key × V)) (t : List (Str × List Str)) (qs : List Addr) (rs : List (List (Str × Str))) : Prop where
  fl : Flw b H a
  Da : D ≠ a
  Ba : B ≠ a
  DB : D ≠ B
  hD : H D = some (.lst (ps.map V.ref))
  hT : TabR K H ps kvs t
  hB : H B = some (.lst (qs.map V.ref))
  hR : Paired (RuleAt K H) qs rs
  G : Good t rs
  ln : rs.length ≤ 18
theorem LawAt.same {K : PySem.W.Frag} {H H' : Hp} {a b D B : Addr} {ps : List Addr} {kvs : List (Key × V)} {t : List (Str × List Str)} {qs : List Addr} {rs : List (List (Str × Str))} (s : Same H H') (h : LawAt K H a b D B ps kvs t qs rs) : LawAt K H' a b D B ps kvs t qs rs :=
  ⟨h.fl.same s, h.Da, h.Ba, h.DB, s _ _ h.hD, h.hT.same s, s _ _ h.hB, rules_same s h.hR, h.G, h.ln⟩
theorem LawAt.kept {K : PySem.W.Frag} {H H' : Hp} {a b D B : Addr} {ps : List Addr} {kvs : List (Key × V)} {t : List (Str × List Str)} {qs : List Addr} {rs : List (List (Str × Str))} (k : Kept a H H') (f : Flw b H' a) (h : LawAt K H a b D B ps kvs t qs rs) : LawAt K H' a b D B ps kvs t qs rs :=
  ⟨f, h.Da, h.Ba, h.DB, k _ _ h.Da h.hD, h.hT.flw h.fl k, k _ _ h.Ba h.hB, rules_flw h.fl k h.hR, h.G, h.ln⟩
theorem LawAt.tin {K : PySem.W.Frag} {H : Hp} {a b D B : Addr} {ps : List Addr} {kvs : List (Key × V)} {t : List (Str × List Str)} {qs : List Addr} {rs : List (List (Str × Str))} (h : LawAt K H a b D B ps kvs t qs rs) : TabIn K H D ps kvs t := ⟨.inl (SqL.of h.hD), h.hT⟩
theorem LawAt.bin {K : PySem.W.Frag} {H : Hp} {a b D B : Addr} {ps : List Addr} {kvs : List (Key × V)} {t : List (Str × List Str)} {qs : List Addr} {rs : List (List (Str × Str))} (h : LawAt K H a b D B ps kvs t qs rs) : BansIn K H B qs rs := ⟨.inl (SqL.of h.hB), h.hR⟩
section
variable {P : Program} {w : World} {K : PySem.W.Frag} {mg : Str → Option Value} {base : Heap}
theorem scLaw : FnScope nLaw ["script"] (defScope sLaw) := ⟨rfl, rfl, rfl, by decide +kernel, rfl, by decide +kernel, by decide +kernel⟩
theorem ok_law {f fI C CV CM : Addr} {fd fdI : FuncData} (F : Fun K "law" "law" sLaw f fd) (T : Fc K mg C) (M : Mk K C fI) (GI : FnOk P w K mg base (L2N.CX P w) 6 fI fdI ["self", "fields", "rules"] (spInit K C CV CM)) (bI : Binds K fdI ["self", "fields", "rules"] []) (T1 : mg "tuple" = none) (Tr : mg "range" = none) (Ti : mg "int" = none) (Tl : mg "len" = none)
    (KF : Kn P w K mg base 1 "_law_flow" ["script"] (spFlow K)) (KD : Kn P w K mg base 2 "_law_draw" ["flow", "many"] spDraw) (KP : Kn P w K mg base 3 "_law_pick" ["flow", "things"] (spPickB K)) (KT : Kn P w K mg base 6 "_law_table" ["flow", "sizes"] (spTable K)) (KB : Kn P w K mg base 4 "_law_ban" ["flow", "table", "most"] (spBan K))
    (KL : Kn P w K mg base 5 "_law_lists" ["thing"] (spLists K 5)) (KR : Kn P w K mg base 6 "_law_right" ["made", "table", "bans"] (spRight K C)) (KC : Kn P w K mg base 8 "_law_changed_right" ["table", "bans"] (spChanged K)) (KE : Kn P w K mg base 8 "_law_equal_right" ["flow", "table", "bans"] (spEqual K))
    (KX : Kn P w K mg base 3 "_law_bad_tables" ["flow", "table"] (spBadT K)) (KY : Kn P w K mg base 5 "_law_bad_bans" ["flow", "table", "bans"] (spBadB K)) (KM : Kn P w K mg base 8 "_law_made" ["table", "bans"] (spMade K)) (KS : Kn P w K mg base 5 "_law_same" ["actual", "due"] (spSame K 5)) (KG : Kn P w K mg base 9 "_law_large_right" ["flow"] spLarge) :
    FnOk P w K mg base CX0 10 f fd ["script"] (spLaw K) := by
  obtain ⟨fF, fdF, GF, kF, bF, mF⟩ := KF.ex
  obtain ⟨fD, fdD, GD, kD, bD, mD⟩ := KD.ex
  obtain ⟨fP, fdP, GP, kP, bP, mP⟩ := KP.ex
  obtain ⟨fT, fdT, GT, kT, bT, mT⟩ := KT.ex
  obtain ⟨fB, fdB, GB, kB, bB, mB⟩ := KB.ex
  obtain ⟨fL, fdL, GL, kL, bL, mL⟩ := KL.ex
  obtain ⟨fR, fdR, GR, kR, bR, mR⟩ := KR.ex
  obtain ⟨fC, fdC, GC, kC, bC, mC⟩ := KC.ex
  obtain ⟨fE, fdE, GE, kE, bE, mE⟩ := KE.ex
  obtain ⟨fX, fdX, GX, kX, bX, mX⟩ := KX.ex
  obtain ⟨fY, fdY, GY, kY, bY, mY⟩ := KY.ex
  obtain ⟨fM, fdM, GM, kM, bM, mM⟩ := KM.ex
  obtain ⟨fS, fdS, GS, kS, bS, mS⟩ := KS.ex
  obtain ⟨fG, fdG, GG, kG, bG, mG⟩ := KG.ex
  refine F.ok scLaw (fun vs H Q E h => ?_) (fun cdv A outer s H vs Q E hr h => ?_)
  · obtain ⟨a, ns, rfl, _⟩ := h
    rfl
  obtain ⟨sc, ns, rfl, hS, _, kq⟩ := h
  have vt_ : PySem.bootBuiltins "tuple" = some (.type "tuple") := by decide +kernel
  refine ⟨_, pss_cons (ps_set (i := 1) scLaw.nd rfl (.inr rfl) (pe_call GF (hr.mono (by decide)) rfl mF kF bF .nil pass0 (pa_cons (pv 0) pa_nil)))
    (pss_cons (ps_setLc (i := 2) (own := [("k", 3)]) (g := gName 3) (tt := tYes) (by rfl) scLaw.nd rfl rfl (sw_true rfl rfl rfl (by decide +kernel)) (pi_range1 rfl Tr (pa_cons (pe_op op_add pe_int (pe_call GD (hr.mono (by decide)) rfl mD kD bD .nil pass0 (pa_cons (pv 1) (pa_cons pe_int pa_nil)))) pa_nil)) (blkOk_by (N := nLaw) (sc := defScope sLaw) (by decide +kernel))
      (fun _ _ _ _ _ => pg_name (i := 3) scLaw.nd rfl (.inl rfl)) (fun _ _ _ _ _ => pts_nil)
      (fun _ _ _ _ _ => pe_op op_add pe_int (pe_call GD (hr.mono (by decide)) rfl mD kD bD .nil pass0 (pa_cons (pv 1) (pa_cons (pe_ix (ix_both K rfl) (pe_lst (pa_cons pe_int (pa_cons pe_int pa_nil))) (pe_callTy call_int1 rfl Ti (by decide +kernel) (pa_cons (pe_cmpR op_gt (pv 3) pe_int (nomark _)) pa_nil)) (fun _ _ => rfl)) pa_nil)))))
    (pss_cons (ps_set (i := 4) scLaw.nd rfl (.inr rfl) (pe_call GT (hr.mono (by decide)) rfl mT kT bT .nil pass0 (pa_cons (pv 1) (pa_cons (pv 2) pa_nil))))
    (pss_cons (ps_setLc (i := 5) (own := [("k", 3)]) (g := gName 3) (tt := tYes) (by rfl) scLaw.nd rfl rfl (sw_true rfl rfl rfl (by decide +kernel)) (pi_range1 rfl Tr (pa_cons (pe_call GD (hr.mono (by decide)) rfl mD kD bD .nil pass0 (pa_cons (pv 1) (pa_cons (pe_ix (ix_both K rfl) (pe_lst (pa_cons pe_int (pa_cons pe_int (pa_cons pe_int pa_nil)))) (pe_call GD (hr.mono (by decide)) rfl mD kD bD .nil pass0 (pa_cons (pv 1) (pa_cons pe_int pa_nil))) (fun _ _ => rfl)) pa_nil))) pa_nil)) (blkOk_by (N := nLaw) (sc := defScope sLaw) (by decide +kernel))
      (fun _ _ _ _ _ => pg_name (i := 3) scLaw.nd rfl (.inl rfl)) (fun _ _ _ _ _ => pts_nil)
      (fun _ _ _ _ _ => pe_call GB (hr.mono (by decide)) rfl mB kB bB .nil pass0 (pa_cons (pv 1) (pa_cons (pv 4) (pa_cons pe_int pa_nil)))))
    (pss_cons (ps_if (PW.pt (pw_and (pt_truth (pv 5) (fun _ => rfl)) (pw_and1 (pt_cmpR op_eq (pe_call GD (hr.mono (by decide)) rfl mD kD bD .nil pass0 (pa_cons (pv 1) (pa_cons pe_int pa_nil))) pe_int (nomark _)))))
      (pss_one (ps_expr (pe_bm PySem.F.plainAttrs_list PySem.F.slot_list_insert PySem.F.type_list_insert mt_insert (pv 5) (pa_cons (pe_call GD (hr.mono (by decide)) rfl mD kD bD .nil pass0 (pa_cons (pv 1) (pa_cons (pe_op op_add (pe_callB call_len_seq rfl Tl PySem.boot_len (pa_cons (pv 5) pa_nil)) pe_int) pa_nil)))
        (pa_cons (XR.pe_revTK K rfl (pe_call GP (hr.mono (by decide)) rfl mP kP bP .nil pass0 (pa_cons (pv 1) (pa_cons (pv 5) pa_nil)))) pa_nil))))) pss_nil)
    (pss_cons (ps_for PassesOwn.never rfl (pi_list (pe_lst (pa_cons (pe_tupZ (pa_cons (pv 4) (pa_cons (pv 5) pa_nil))) (pa_cons (pe_tupZ (pa_cons (pe_callTy (call_tupK K rfl) rfl T1 vt_ (pa_cons (pv 4) pa_nil)) (pa_cons (pe_callTy (call_tupK K rfl) rfl T1 vt_ (pa_cons (pv 5) pa_nil)) pa_nil)))
        (pa_cons (pe_tupZ (pa_cons (pe_call GL (hr.mono (by decide)) rfl mL kL bL .nil pass0 (pa_cons (pv 4) pa_nil)) (pa_cons (pe_call GL (hr.mono (by decide)) rfl mL kL bL .nil pass0 (pa_cons (pv 5) pa_nil)) pa_nil))) pa_nil))))) (pg_row rfl (pgs_cons (pg_name (i := 6) scLaw.nd rfl (.inl rfl)) (pgs_cons (pg_name (i := 7) scLaw.nd rfl (.inl rfl)) pgs_nil)))
      (pss_one (ps_if (pt_not (pt_val (pe_call GR (hr.mono (by decide)) rfl mR kR bR .nil pass0 (pa_cons (pe_make M GI (hr.mono (by decide)) rfl T.gF bI .nil passF (pa_cons (pv 6) (pa_cons (pv 7) pa_nil))) (pa_cons (pv 4) (pa_cons (pv 5) pa_nil)))))) (pss_one (ps_ret pe_bl)) pss_nil)))
    (pss_cons (ps_if (PW.pt (pw_or (pt_not (pt_val (pe_call GC (hr.mono (by decide)) rfl mC kC bC .nil pass0 (pa_cons (pv 4) (pa_cons (pv 5) pa_nil))))) (pw_or1 (pt_not (pt_val (pe_call GE (hr.mono (by decide)) rfl mE kE bE .nil pass0 (pa_cons (pv 1) (pa_cons (pv 4) (pa_cons (pv 5) pa_nil))))))))) (pss_one (ps_ret pe_bl)) pss_nil)
    (pss_cons (ps_set (i := 8) scLaw.nd rfl (.inl rfl) (pe_call GX (hr.mono (by decide)) rfl mX kX bX .nil pass0 (pa_cons (pv 1) (pa_cons (pv 4) pa_nil))))
    (pss_cons (ps_set (i := 9) scLaw.nd rfl (.inl rfl) (pe_call GY (hr.mono (by decide)) rfl mY kY bY .nil pass0 (pa_cons (pv 1) (pa_cons (pv 4) (pa_cons (pv 5) pa_nil)))))
    (pss_cons (ps_for PassesOwn.never rfl (pi_list (pv 8)) (pg_name (i := 10) scLaw.nd rfl (.inl rfl))
      (pss_one (ps_if (pt_not (pt_val (pe_call GS (hr.mono (by decide)) rfl mS kS bS .nil pass0 (pa_cons (pe_call GM (hr.mono (by decide)) rfl mM kM bM .nil pass0 (pa_cons (pv 10) (pa_cons (pv 5) pa_nil))) (pa_cons (pe_tupZ (pa_cons pe_str (pa_cons pe_int (pa_cons pe_bl pa_nil)))) pa_nil))))) (pss_one (ps_ret pe_bl)) pss_nil)))
    (pss_cons (ps_for PassesOwn.never rfl (pi_list (pv 9)) (pg_name (i := 10) scLaw.nd rfl (.inl rfl))
      (pss_one (ps_if (pt_not (pt_val (pe_call GS (hr.mono (by decide)) rfl mS kS bS .nil pass0 (pa_cons (pe_call GM (hr.mono (by decide)) rfl mM kM bM .nil pass0 (pa_cons (pv 4) (pa_cons (pv 10) pa_nil))) (pa_cons (pe_tupZ (pa_cons pe_str (pa_cons pe_int (pa_cons pe_bl pa_nil)))) pa_nil))))) (pss_one (ps_ret pe_bl)) pss_nil)))
    (pss_cons (ps_set (i := 11) scLaw.nd rfl (.inl rfl) (pe_call GM (hr.mono (by decide)) rfl mM kM bM .nil pass0 (pa_cons (pe_call GP (hr.mono (by decide)) rfl mP kP bP .nil pass0 (pa_cons (pv 1) (pa_cons (pv 8) pa_nil))) (pa_cons (pe_call GP (hr.mono (by decide)) rfl mP kP bP .nil pass0 (pa_cons (pv 1) (pa_cons (pv 9) pa_nil))) pa_nil))))
    (pss_one (ps_ret (pe_and (pe_call GS (hr.mono (by decide)) rfl mS kS bS .nil pass0 (pa_cons (pv 11) (pa_cons (pe_tupZ (pa_cons pe_str (pa_cons pe_int (pa_cons pe_bl pa_nil)))) pa_nil))) (pe_one (pe_call GG (hr.mono (by decide)) rfl mG kG bG .nil pass0 (pa_cons (pv 1) pa_nil))))))))))))))))), ?_⟩
  -- flow, sizes
  refine ⟨_, rfl, sc, ns, rfl, hS, fun a b H1 s1 F1 _ _ => ?_⟩
  dsimp only
  refine asg_lc ?_
  refine ⟨_, rfl, a, b, 5, rfl, F1, by decide, fun r H2 h0 h1 F2 k2 => ?_⟩
  have h5 : r < 5 := by
    have : (if (5 : Int) > 1 then (5 : Int) else 1) = 5 := by decide
    omega
  obtain ⟨n, rfl⟩ : ∃ n : Nat, r = (n : Int) := ⟨r.toNat, by omega⟩
  refine ⟨_, _, rfl, rfl, _, rfl, ?_, ?_, fun S hS0 => ?_⟩
  · have : -(2 ^ 62 : Int) ≤ 0 := by decide
    omega
  · have : (16 : Int) < 2 ^ 62 := by decide
    omega
  have en : ((1 : Int) + (n : Int)).toNat = n + 1 := by omega
  rw [en]
  obtain ⟨Sa, Sb⟩ := F2.ne hS0
  refine lc_range (lo := 0) (n := n + 1) (fun i H' => ∃ ms : List Nat, H' S = some (.lst (ms.map fun (m : Nat) => V.int m)) ∧ ms.length = i ∧ Szs ms ∧ Flw b H' a) ⟨[], upd_same, rfl, (fun j m e => by simp at e), F2.same (new_same hS0 _)⟩ (fun i H' hi hP => ?_) (fun H3 hP => ?_)
  · obtain ⟨ms, g1, g2, g3, g4⟩ := hP
    refine ⟨rfl, ?_⟩
    unfold tYes
    refine iteT ⟨_, rfl, by show 2 ≤ sizeLine; decide, fun L hL => ⟨_, rfl, _, _, rfl, rfl, .inr ⟨_, rfl, ?_⟩⟩⟩
    have sL := new_same hL (.lst [V.int 5, V.int 2])
    have F4 := g4.same sL
    obtain ⟨La, Lb⟩ := g4.ne hL
    obtain ⟨lm, hlm, l1, l5, l2⟩ : ∃ lm : Nat, atI [V.int 5, V.int 2] (if decide ((2 : Int) < 0 + (i : Int)) = true then 1 else 0) = some (.int lm) ∧ 1 ≤ lm ∧ lm ≤ 5 ∧ (2 < i → lm ≤ 2) := by
      by_cases h : (2 : Int) < 0 + (i : Int)
      · rw [decide_eq_true h]
        exact ⟨2, rfl, by decide, by decide, fun _ => Nat.le_refl 2⟩
      · rw [decide_eq_false h]
        exact ⟨5, rfl, by decide, by decide, fun h2 => by omega⟩
    refine ix_row (.inl (SqL.of upd_same)) hlm ⟨a, b, lm, rfl, F4, ?_, fun r2 H4 z0 z1 F5 k5 => ⟨_, _, rfl, rfl, ?_⟩⟩
    · have h8 : (8 : Nat) < 2 ^ 200 := by decide
      omega
    have hr2 : r2 < lm := by
      split at z1 <;> omega
    obtain ⟨m2, rfl⟩ : ∃ m2 : Nat, r2 = (m2 : Int) := ⟨r2.toNat, by omega⟩
    refine ⟨_, k5 _ _ Sa (sL _ _ g1), small1000 (by rw [List.length_map]; omega), ms ++ [1 + m2], ?_, by rw [List.length_append, g2] <;> rfl, szs_snoc g3 (by omega) (by omega) (fun h => by omega), F5.off Sa Sb⟩
    rw [upd_same, List.map_append]
    show some (HO.lst (_ ++ [V.int (1 + (m2 : Int))])) = some (HO.lst (_ ++ [V.int ((1 + m2 : Nat) : Int)]))
    rw [Int.natCast_add] <;> rfl
  obtain ⟨ms, g1, g2, g3, F3⟩ := hP
  -- the table
  have zs := szs_sz g3 (by omega) (by omega)
  refine ⟨_, rfl, _, rfl, a, b, S, ms, rfl, F3, g1, Sa, by omega, fun m hm => by have := (zs.ea m hm).2; omega, fun D ps kvs t H4 hD0 hD hT tb F4 k4 => ?_⟩
  obtain ⟨TO, hways⟩ := tb.ok zs
  have Da : D ≠ a := (F3.ne hD0).1
  -- the rules
  dsimp only
  refine asg_lc ?_
  refine ⟨_, rfl, by show 3 ≤ sizeLine; decide, fun L hL => ⟨_, rfl, a, b, 3, rfl, F4.same (new_same hL _), by decide, fun r H5 h0 h1 F5 k5 => ?_⟩⟩
  have sL := new_same hL (.lst [V.int 3, V.int 6, V.int 18])
  have La : L ≠ a := (F4.ne hL).1
  have h3 : r < 3 := by
    have : (if (3 : Int) > 1 then (3 : Int) else 1) = 3 := by decide
    omega
  obtain ⟨n3, rfl⟩ : ∃ n3 : Nat, r = (n3 : Int) := ⟨r.toNat, by omega⟩
  obtain ⟨lm, hlm, l18⟩ : ∃ lm : Nat, [V.int 3, V.int 6, V.int 18][n3]? = some (.int lm) ∧ lm ≤ 18 := by
    match n3, h3 with
    | 0, _ => exact ⟨3, rfl, by decide⟩
    | 1, _ => exact ⟨6, rfl, by decide⟩
    | 2, _ => exact ⟨18, rfl, by decide⟩
    | n + 3, h => omega
  refine ix_row (.inl (SqL.of (k5 _ _ La upd_same))) (at_of rfl hlm) ⟨a, b, lm, rfl, F5, ?_, fun r2 H6 z0 z1 F6 k6 => ?_⟩
  · have h18 : (18 : Nat) < 2 ^ 200 := by decide
    omega
  have hr2 : r2 < 18 := by
    split at z1 <;> omega
  obtain ⟨nb, rfl⟩ : ∃ nb : Nat, r2 = (nb : Int) := ⟨r2.toNat, by omega⟩
  have k46 : Kept a H4 H6 := ((Kept.of_same sL).trans k5).trans k6
  refine ⟨_, rfl, ?_, ?_, fun B hB0 => ?_⟩
  · have : -(2 ^ 62 : Int) ≤ 0 := by decide
    omega
  · have : (18 : Int) < 2 ^ 62 := by decide
    omega
  rw [Int.toNat_natCast]
  obtain ⟨Ba, Bb⟩ := F6.ne hB0
  have hD6 := k46 _ _ Da hD
  have hT6 := hT.flw F4 k46
  refine lc_range (lo := 0) (n := nb) (fun i H' => ∃ (qs : List Addr) (rs : List (List (Str × Str))), H' B = some (.lst (qs.map V.ref)) ∧ Paired (RuleAt K H') qs rs ∧ rs.length = i ∧ (∀ r ∈ rs, Ban t 4 r) ∧ Flw b H' a ∧ Kept a H6 H') ⟨[], [], upd_same, .nil, rfl, (fun r h => absurd h List.not_mem_nil), F6.same (new_same hB0 _), Kept.of_same (new_same hB0 _)⟩ (fun i H' hi hP => ?_) (fun H7 hP => ?_)
  · obtain ⟨qs, rs, g1, g2, g3, g4, g5, g6⟩ := hP
    refine ⟨rfl, ?_⟩
    unfold tYes
    refine iteT ⟨_, rfl, _, rfl, a, b, D, ps, kvs, t, 4, rfl, g5, .inl (SqL.of (g6 _ _ Da hD6)), Da, hT6.flw F6 g6, TO.lo, by have := TO.hi; omega, TO.nm.1, fun e he => ⟨(TO.vs e he).2.1, by have := (TO.vs e he).2.2; omega⟩, by decide, by decide, fun z r H8 hz Bn F8 k8 => ?_⟩
    have g1' := k8 _ _ Ba g1
    have hql : qs.length = rs.length := prd_len g2
    refine ⟨_, g1', small1000 (by rw [List.length_map]; omega), qs ++ [z], rs ++ [r], ?_, ?_, by rw [List.length_append, g3] <;> rfl, ?_, F8.off Ba Bb, ?_⟩
    · rw [upd_same, List.map_append] <;> rfl
    · exact rules_off g1' (prd_snoc (rules_flw g5 k8 g2) hz)
    · intro x hx
      rcases List.mem_append.mp hx with hx | hx
      · exact g4 x hx
      · rw [List.mem_singleton.mp hx]
        exact Bn
    · intro x o nx e
      rw [upd_ne (ne_of_none e hB0)]
      exact k8 _ _ nx (g6 _ _ nx e)
  obtain ⟨qs0, rs0, g1, g2, g3, g4, g5, g6⟩ := hP
  have hD7 := g6 _ _ Da hD6
  have hT7 := hT6.flw F6 g6
  have hways' : waysFrom 1 t ≤ 1000 := by
    rw [hways]
    exact szs_ways (by assumption) (by omega)
  have LA0 : LawAt K H7 a b D B ps kvs t qs0 rs0 := ⟨g5, Da, Ba, (fun e => by rw [← e, hD6] at hB0; cases hB0), hD7, hT7, g1, g2, ⟨TO, g4, by omega, hways'⟩, by omega⟩
  have hrs0 : rs0.length ≤ 17 := by omega
  clear g1 g2 g3 g4 g5 g6 hD7 hT7 hD6 hT6 k46 hlm sL
  -- one more rule
  try dsimp only
  refine if_join (fun H' => ∃ qs rs, LawAt K H' a b D B ps kvs t qs rs) ?_ (fun D' hn => ?_)
  rotate_left
  · refine ⟨_, rfl, _, .inl ⟨_, SqL.of LA0.hB, rfl⟩, ite2 (fun hne => ?_) (fun _ => ?_)⟩
    rotate_left
    · exact hn _ ⟨qs0, rs0, LA0⟩
    refine ⟨_, rfl, a, b, 2, rfl, LA0.fl, by decide, fun r H8 _ _ F8 k8 => ⟨rfl, _, rfl, ite2 (fun _ => ?_) (fun _ => ?_)⟩⟩
    rotate_left
    · exact hn _ ⟨qs0, rs0, LA0.kept k8 F8⟩
    have LA1 := LA0.kept k8 F8
    have hql : qs0.length = rs0.length := prd_len LA1.hR
    have hpos : 0 < (qs0.map V.ref).length := by
      cases hq : qs0 with
      | nil =>
        rw [hq] at hne
        cases hne
      | cons x y => exact Nat.succ_pos _
    refine ⟨_, rfl, .inl ⟨rfl, _, SqL.of LA1.hB⟩, _, rfl, _, rfl, B, _, rfl, .inl (SqL.of LA1.hB), _, _, rfl, rfl, a, b, _, rfl, F8, ?_, fun i H9 i0 i1 F9 k9 => ?_⟩
    · rw [List.length_map]
      have h8 : (20 : Nat) < 2 ^ 200 := by decide
      omega
    have LA2 := LA1.kept k9 F9
    refine ⟨_, rfl, _, rfl, a, b, B, _, rfl, F9, .inl ⟨SqL.of LA2.hB, Ba⟩, hpos, by rw [List.length_map]; omega, fun j x H10 hx F10 k10 => ?_⟩
    have LA3 := LA2.kept k10 F10
    rw [List.getElem?_map] at hx
    obtain ⟨z, hz, rfl⟩ := Option.map_eq_some_iff.mp hx
    obtain ⟨r0, hr0, ms0, m1, m2⟩ := prd_at LA3.hR hz
    refine ⟨z, _, rfl, m1.sqT, fun u o hu0 ho => ?_⟩
    have su : Same H10 (upd H10 u (.frz o (.tup (ms0.map V.ref).reverse))) := new_same hu0 _
    have LA4 := LA3.same su
    have hu : RuleAt K (upd H10 u (.frz o (.tup (ms0.map V.ref).reverse))) u r0.reverse := ⟨ms0.reverse, ⟨o, by rw [upd_same, List.map_reverse], ho⟩, prd_rev (prd_same su m2)⟩
    have hi : i ≤ 20 := by
      rw [List.length_map] at i1
      split at i1 <;> omega
    refine ⟨B, _, i, _, rfl, rfl, LA4.hB, small1000 (by rw [List.length_map]; omega), i0, Int.lt_of_le_of_lt hi (by decide), ?_⟩
    refine hn _ ⟨qs0.take i.toNat ++ [u] ++ qs0.drop i.toNat, rs0.take i.toNat ++ [r0.reverse] ++ rs0.drop i.toNat, LA4.fl.off Ba Bb, Da, Ba, LA0.DB, ?_, LA4.hT.off LA4.hB, ?_, ?_, ⟨TO, ?_, ?_, hways'⟩, ?_⟩
    · rw [upd_ne LA0.DB]
      exact LA4.hD
    · rw [upd_same, List.map_append, List.map_append, List.map_take, List.map_drop] <;> rfl
    · exact rules_off LA4.hB (prd_app (prd_app (prd_take _ LA4.hR) (.cons hu .nil)) (prd_drop _ LA4.hR))
    · intro r hr
      rcases List.mem_append.mp hr with hr | hr
      · rcases List.mem_append.mp hr with hr | hr
        · exact LA0.G.bs r (List.mem_of_mem_take hr)
        · rw [List.mem_singleton.mp hr]
          exact ban_rev (LA0.G.bs r0 (List.mem_of_getElem? hr0))
      · exact LA0.G.bs r (List.mem_of_mem_drop hr)
    · rw [List.length_append, List.length_append, List.length_take, List.length_drop, List.length_singleton]
      omega
    · rw [List.length_append, List.length_append, List.length_take, List.length_drop, List.length_singleton]
      omega
  rintro H8 ⟨qs, rs, LA⟩
  clear LA0 hrs0
  have G := LA.G
  have ln18 := LA.ln
  -- three ways to hand them in
  refine ⟨_, rfl, _, rfl, by show 2 ≤ sizeLine; decide, fun p1 o1 hp1 _ => ?_⟩
  have s1 := new_same hp1 (.frz o1 (.tup [.ref D, .ref B]))
  have LA1 := LA.same s1
  refine ⟨_, rfl, D, _, rfl, .inl ⟨SqL.of LA1.hD, fun p2a o2 hp2a _ => ?_⟩⟩
  have s2 := new_same hp2a (.frz o2 (.tup (ps.map V.ref)))
  have LA2 := LA1.same s2
  refine ⟨_, rfl, B, _, rfl, .inl ⟨SqL.of LA2.hB, fun p2b o3 hp2b _ => ?_⟩⟩
  have s3 := new_same hp2b (.frz o3 (.tup (qs.map V.ref)))
  have LA3 := LA2.same s3
  refine ⟨by show 2 ≤ sizeLine; decide, fun p2 o4 hp2 _ => ?_⟩
  have s4 := new_same hp2 (.frz o4 (.tup [.ref p2a, .ref p2b]))
  have LA4 := LA3.same s4
  have w1 := s4 _ _ (s3 _ _ (s2 _ _ (upd_same (H := H8) (a := p1) (o := .frz o1 (.tup [V.ref D, V.ref B])))))
  have w2a := s4 _ _ (s3 _ _ (upd_same (H := L2.upd H8 p1 (.frz o1 (.tup [V.ref D, V.ref B]))) (a := p2a) (o := .frz o2 (.tup (ps.map V.ref)))))
  have w2b := s4 _ _ (upd_same (H := L2.upd (L2.upd H8 p1 (.frz o1 (.tup [V.ref D, V.ref B]))) p2a (.frz o2 (.tup (ps.map V.ref)))) (a := p2b) (o := .frz o3 (.tup (qs.map V.ref))))
  have w2 := upd_same (H := L2.upd (L2.upd (L2.upd H8 p1 (.frz o1 (.tup [V.ref D, V.ref B]))) p2a (.frz o2 (.tup (ps.map V.ref)))) p2b (.frz o3 (.tup (qs.map V.ref)))) (a := p2) (o := .frz o4 (.tup [V.ref p2a, V.ref p2b]))
  clear LA1 LA2 LA3 s1 s2 s3 s4 hp1 hp2a hp2b hp2
  generalize L2.upd (L2.upd (L2.upd (L2.upd H8 p1 (.frz o1 (.tup [V.ref D, V.ref B]))) p2a (.frz o2 (.tup (ps.map V.ref)))) p2b (.frz o3 (.tup (qs.map V.ref)))) p2 (.frz o4 (.tup [V.ref p2a, V.ref p2b])) = H9 at LA4 w1 w2a w2b w2
  obtain ⟨dF, iF, hF⟩ := LA4.tin.dp
  refine ⟨_, rfl, .ref D, dF, rfl, hF, ds_tab' iF G.tb, fun v1 H10 sa l1 => ?_⟩
  rw [toL_tab iF] at l1
  obtain ⟨dR, iR, hR⟩ := (LA4.same sa).bin.dp
  refine ⟨_, rfl, .ref B, dR, rfl, hR, ds_bans' iR (by omega) (fun r hr => by have := (G.bs r hr).hi; omega), fun v2 H11 sb l2 => ?_⟩
  rw [toL_bans iR] at l2
  have hand3 := handL_of (K := K) (l1.same sb) l2
  have LA5 := (LA4.same sa).same sb
  have sab := sa.trans sb
  refine ⟨by show 2 ≤ sizeLine; decide, fun p3 o5 hp3 _ => ⟨by show 3 ≤ sizeLine; decide, fun LL hLL => ⟨LL, rfl, ⟨_, SqL.of upd_same⟩, ?_⟩⟩⟩
  have s5 := new_same hp3 (.frz o5 (.tup [v1, v2]))
  have s6 := new_same hLL (.lst [V.ref p1, V.ref p2, V.ref p3])
  have s56 := s5.trans s6
  have w3 := s6 _ _ (upd_same (H := H11) (a := p3) (o := .frz o5 (.tup [v1, v2])))
  have wL := upd_same (H := L2.upd H11 p3 (.frz o5 (.tup [v1, v2]))) (a := LL) (o := .lst [V.ref p1, V.ref p2, V.ref p3])
  have LA6 := LA5.same s56
  have hand3' := hand3.same s56
  have w1' := s56 _ _ (sab _ _ w1)
  have w2' := s56 _ _ (sab _ _ w2)
  have w2a' := s56 _ _ (sab _ _ w2a)
  have w2b' := s56 _ _ (sab _ _ w2b)
  clear LA4 LA5 hand3 w1 w2 w2a w2b s5 s6 s56 sab hp3 hLL l1 l2 hF hR LA
  generalize L2.upd (L2.upd H11 p3 (.frz o5 (.tup [v1, v2]))) LL (.lst [V.ref p1, V.ref p2, V.ref p3]) = H12 at LA6 hand3' w1' w2' w2a' w2b' w3 wL
  have ways3 : ∀ (j : Nat) (u : V) (HC : Hp), [V.ref p1, V.ref p2, V.ref p3][j]? = some u → Same H12 HC → ∃ (z : Addr) (x y : V) (dF dR : PyData), u = .ref z ∧ SqT K HC z [x, y] ∧ Hand K HC t rs x y dF dR := fun j u HC hu sC => by
    match j, hu with
    | 0, e =>
      cases e
      obtain ⟨dF, dR, _, _, h⟩ := hand_of (LA6.same sC).tin (LA6.same sC).bin
      exact ⟨p1, _, _, dF, dR, rfl, .inl (.inr ⟨o1, sC _ _ w1'⟩), h⟩
    | 1, e =>
      cases e
      obtain ⟨dF, dR, _, _, h⟩ := hand_of (show TabIn K HC p2a ps kvs t from ⟨.inr (.inl (.inr ⟨o2, sC _ _ w2a'⟩)), (LA6.same sC).hT⟩) (show BansIn K HC p2b qs rs from ⟨.inr (.inl (.inr ⟨o3, sC _ _ w2b'⟩)), (LA6.same sC).hR⟩)
      exact ⟨p2, _, _, dF, dR, rfl, .inl (.inr ⟨o4, sC _ _ w2'⟩), h⟩
    | 2, e =>
      cases e
      exact ⟨p3, _, _, _, _, rfl, .inl (.inr ⟨o5, sC _ _ w3⟩), hand3'.same sC⟩
  refine for_list (K := K) (a := LL) (xs := [V.ref p1, V.ref p2, V.ref p3]) (fun j σ HC => ∃ f6 f7 : Option V, σ = [some (.ref sc), some (.ref a), some (.ref S), none, some (.ref D), some (.ref B), f6, f7, none, none, none, none] ∧ Same H12 HC) ⟨none, none, rfl, Same.refl H12⟩ (fun j σ HC _ ⟨_, _, _, y⟩ => SqL.of (y _ _ wL)) ?_ ?_
  · rintro j u σ HC hu ⟨f6, f7, rfl, sC⟩
    obtain ⟨z, x, y, dF, dR, rfl, hz, hand⟩ := ways3 j u HC hu sC
    refine .inl ⟨z, _, rfl, hz, rfl, x, _, rfl, y, [], rfl, rfl, ?_⟩
    refine ⟨_, rfl, _, rfl, fun x0 dx hx hdx hne => init_good G hand hx hdx hne fun pf pr HD sD f1 f2 f3 => ⟨rfl, ?_⟩⟩
    have LA7 := LA6.same (sC.trans sD)
    refine ⟨_, rfl, _, rfl, ?_⟩
    dsimp only [tNil, List.append_nil]
    refine right_of (E := E0) G LA7.tin LA7.bin f1 f2 f3 fun HE sE => ?_
    exact ⟨_, rfl, iteNS rfl ⟨_, _, rfl, (sC.trans sD).trans sE⟩⟩
  rintro σ HC ⟨f6, f7, rfl, sC⟩
  have LA7 := LA6.same sC
  clear ways3 hand3' w1' w2' w2a' w2b' w3 wL LA6
  try dsimp only
  -- changed behind the making; equal ones
  refine ⟨_, rfl, _, rfl, D, B, ps, kvs, t, qs, rs, rfl, LA7.tin, LA7.bin, G, fun HD sD => ⟨_, rfl, iteNS rfl ?_⟩⟩
  have LA8 := LA7.same sD
  refine ⟨_, rfl, _, rfl, _, rfl, .ref a, D, B, ps, kvs, t, qs, rs, rfl, LA8.hD, LA8.hT, LA8.hB, LA8.hR, G, by omega, fun HE sE => ⟨_, rfl, iteNS rfl ?_⟩⟩
  have LA9 := LA8.same sE
  try dsimp only
  -- wrong ones
  refine ⟨_, rfl, _, rfl, a, b, D, ps, kvs, t, rfl, LA9.fl, LA9.Da, LA9.hD, LA9.hT, G.tb, fun DX HF pX nX DXa FF kF => ?_⟩
  have LA10 := LA9.kept kF FF
  try dsimp only
  refine ⟨_, rfl, _, rfl, _, rfl, a, b, D, B, ps, kvs, t, qs, rs, rfl, LA10.fl, LA10.Da, LA10.hD, LA10.hT, G.tb, LA10.Ba, LA10.hB, LA10.hR, G.bs, by omega, fun DY HG pY nY DYa FG kG => ?_⟩
  have LA11 := LA10.kept kG FG
  have pX' := pX.kept List.mem_cons_self DXa kG
  obtain ⟨xs, x1, x2, x3⟩ := pX'.ex
  obtain ⟨ys, y1, y2, y3⟩ := pY.ex
  have xpos : 0 < xs.length := by
    obtain ⟨us, u1, u2⟩ := nX
    have := kG _ _ DXa u1
    rw [x1] at this
    cases this
    exact u2
  have ypos : 0 < ys.length := by
    obtain ⟨us, u1, u2⟩ := nY
    rw [y1] at u1
    cases u1
    exact u2
  clear LA7 LA8 LA9 LA10 pX pX' pY nX nY
  try dsimp only
  refine ⟨_, rfl, DX, rfl, ⟨_, SqL.of x1⟩, ?_⟩
  refine for_list (K := K) (a := DX) (xs := xs) (fun j σ HC => ∃ f6 f7 f10 : Option V, σ = [some (.ref sc), some (.ref a), some (.ref S), none, some (.ref D), some (.ref B), f6, f7, some (.ref DX), some (.ref DY), f10, none] ∧ Same HG HC) ⟨f6, f7, none, rfl, Same.refl HG⟩ (fun j σ HC _ ⟨_, _, _, _, y⟩ => SqL.of (y _ _ x1)) ?_ ?_
  · rintro j u σ HC hu ⟨g6, g7, g10, rfl, sC⟩
    obtain ⟨d, hd, bd⟩ := x3 u (List.mem_of_getElem? hu)
    have LC := LA11.same sC
    obtain ⟨dR, iR, hR⟩ := LC.bin.dp
    refine ⟨_, rfl, _, rfl, made_args0 (E := E0) (dp_same (Same.trans rm_le sC) hd) hR bd (rules_rules iR.fr G.tb G.bs (by omega)).2.2 ?_⟩
    intro w1 HD2 sD2 hw1
    refine ⟨by show 3 ≤ sizeLine; decide, fun w2 q2 hw2 _ => ?_⟩
    have e1 := new_same hw1 (.tup [V.str "value", V.int 0, V.bl true])
    have e2 := new_same hw2 (.frz q2 (.tup [V.str "value", V.int 0, V.bl true]))
    exact ⟨.ref w1, .ref w2, _, rfl, tri_dp (.str "value") (.int 0) (.inl (.inl (e2 _ _ upd_same))), tri_dp (.str _) (.int _) (.inl (.inr ⟨q2, upd_same⟩)), ds_tri rfl rfl, fun HE sE => ⟨_, rfl, iteNS rfl ⟨_, _, _, rfl, ((sC.trans sD2).trans (e1.trans e2)).trans sE⟩⟩⟩
  rintro σ HX ⟨g6, g7, g10, rfl, sX⟩
  have LA12 := LA11.same sX
  try dsimp only
  refine ⟨_, rfl, DY, rfl, ⟨_, SqL.of (sX _ _ y1)⟩, ?_⟩
  refine for_list (K := K) (a := DY) (xs := ys) (fun j σ HC => ∃ f6 f7 f10 : Option V, σ = [some (.ref sc), some (.ref a), some (.ref S), none, some (.ref D), some (.ref B), f6, f7, some (.ref DX), some (.ref DY), f10, none] ∧ Same HX HC) ⟨g6, g7, g10, rfl, Same.refl HX⟩ (fun j σ HC _ ⟨_, _, _, _, y⟩ => SqL.of (y _ _ (sX _ _ y1))) ?_ ?_
  · rintro j u σ HC hu ⟨i6, i7, i10, rfl, sC⟩
    obtain ⟨d, hd, bd⟩ := y3 u (List.mem_of_getElem? hu)
    have LC := LA12.same sC
    obtain ⟨dF, iF, hF⟩ := LC.tin.dp
    refine ⟨_, rfl, _, rfl, made_args1 (E := E0) G.tb hF iF.ft (dp_same (Same.trans rm_le (sX.trans sC)) hd) bd ?_⟩
    intro w1 HD2 sD2 hw1
    refine ⟨by show 3 ≤ sizeLine; decide, fun w2 q2 hw2 _ => ?_⟩
    have e1 := new_same hw1 (.tup [V.str "value", V.int 1, V.bl true])
    have e2 := new_same hw2 (.frz q2 (.tup [V.str "value", V.int 1, V.bl true]))
    exact ⟨.ref w1, .ref w2, _, rfl, tri_dp (.str "value") (.int 1) (.inl (.inl (e2 _ _ upd_same))), tri_dp (.str _) (.int _) (.inl (.inr ⟨q2, upd_same⟩)), ds_tri rfl rfl, fun HE sE => ⟨_, rfl, iteNS rfl ⟨_, _, _, rfl, ((sC.trans sD2).trans (e1.trans e2)).trans sE⟩⟩⟩
  rintro σ HY ⟨i6, i7, i10, rfl, sY⟩
  have LA13 := LA12.same sY
  try dsimp only
  -- both wrong
  refine ⟨_, rfl, _, rfl, a, b, DX, xs, rfl, LA13.fl, .inl ⟨SqL.of (sY _ _ (sX _ _ x1)), DXa⟩, xpos, by omega, fun i u HH hu FH kH => ?_⟩
  refine ⟨_, rfl, _, rfl, a, b, DY, ys, rfl, FH, .inl ⟨SqL.of (kH _ _ DYa (sY _ _ (sX _ _ y1))), DYa⟩, ypos, by omega, fun i2 u2 HI hu2 FI kI => ?_⟩
  obtain ⟨d, hd, bd⟩ := x3 u (List.mem_of_getElem? hu)
  obtain ⟨d2, hd2, bd2⟩ := y3 u2 (List.mem_of_getElem? hu2)
  have up : Same (rmL [a] HG) HI := (rm_same (sX.trans sY)).trans ((rm_kept List.mem_cons_self (kH.trans kI)).trans rm_le)
  refine made_args0 (E := E0) (dp_same up hd) (dp_same up hd2) bd bd2.2 ?_
  intro w1 HJ sJ hw1
  try dsimp only
  refine ⟨_, rfl, by show 3 ≤ sizeLine; decide, fun w2 q2 hw2 _ => ?_⟩
  have e1 := new_same hw1 (.tup [V.str "value", V.int 0, V.bl true])
  have e2 := new_same hw2 (.frz q2 (.tup [V.str "value", V.int 0, V.bl true]))
  refine ⟨.ref w1, .ref w2, _, rfl, tri_dp (.str "value") (.int 0) (.inl (.inl (e2 _ _ upd_same))), tri_dp (.str _) (.int _) (.inl (.inr ⟨q2, upd_same⟩)), ds_tri rfl rfl, fun HK sK => ?_⟩
  have FK := (FI.same sJ).same ((e1.trans e2).trans sK)
  exact ⟨_, rfl, iteT ⟨_, rfl, a, b, rfl, FK, fun HL => kq HL⟩⟩
end
end Q
set_option Elab.async false
set_option linter.all false
set_option maxRecDepth 100000
set_option maxHeartbeats 8000000
namespace Q
open PySem L2 XD
theorem kit_own {K : PySem.W.Frag} {C D : Addr} {b : Bool} (hc : PySem.W.isClsIn K D = true) (ht : PySem.W.typeIn K (.ref D) = some (.type "type")) (s : PySem.W.subIn K (.ref C) (.ref D) = some b) (o : PySem.W.subIn K (.ref D) (.ref D) = some true) :
    PySem.W.kitOne K (.ref C) (.ref D) = some b := by
  unfold PySem.W.kitOne
  by_cases e : (Value.ref C == Value.ref D) = true
  · rw [if_pos e]
    have q : C = D := Value.ref.inj (beq_iff_eq.mp e)
    subst q
    rw [s] at o
    exact o.symm
  · rw [if_neg e]
    have hc' : (PySem.W.clsIn K D).isSome = true := hc
    show (if ((PySem.W.clsIn K D).isSome && PySem.W.typeIn K (.ref D) == some (.type "type")) = true then PySem.W.subIn K (.ref C) (.ref D) else none) = some b
    rw [hc', ht]
    exact s
theorem kit_data {K : PySem.W.Frag} {D : Addr} {T : String} {b : Bool} (hc : PySem.W.isClsIn K D = true) (ht : PySem.W.typeIn K (.ref D) = some (.type "type")) (s : PySem.W.subIn K (.type T) (.ref D) = some b) : PySem.W.kitOne K (.type T) (.ref D) = some b := by
  unfold PySem.W.kitOne
  rw [if_neg (show ¬ ((Value.type T == Value.ref D) = true) from fun e => by cases beq_iff_eq.mp e)]
  have hc' : (PySem.W.clsIn K D).isSome = true := hc
  show (if ((PySem.W.clsIn K D).isSome && PySem.W.typeIn K (.ref D) == some (.type "type")) = true then PySem.W.subIn K (.type T) (.ref D) else none) = some b
  rw [hc', ht]
  exact s
theorem not_first {K : PySem.W.Frag} {D : Addr} {T : String} (s : PySem.W.subIn K (.type T) (.ref D) = some false) : PySem.W.notFirst K D (.type T) = true := by
  unfold PySem.W.notFirst
  rw [s]
  simp
theorem fn_of_ty {K : PySem.W.Frag} {f : Addr} (h : PySem.W.typeIn K (.ref f) = some (.type "function")) : PySem.W.isFn K (.ref f) = true := by
  unfold PySem.W.isFn
  rw [h]
  simp
theorem data_all {p : PyData → Prop} (h1 : p .none) (h2 : ∀ b, p (.bool b)) (h3 : ∀ i, p (.int i)) (h4 : ∀ s, p (.str s)) (h5 : ∀ xs, p (.list xs)) (h6 : ∀ xs, p (.tuple xs)) : ∀ d : PyData, (∀ kvs, d ≠ .dict kvs) → p d := fun d h => by
  cases d with
  | dict kvs => exact absurd rfl (h kvs)
  | none => exact h1
  | bool b => exact h2 b
  | int i => exact h3 i
  | str s => exact h4 s
  | list xs => exact h5 xs
  | tuple xs => exact h6 xs
theorem all_mk {l : PySem.W.OpenLaw} {w : World} {K : PySem.W.Frag} {h : Heap} {mg : Str → Option Value} {fa c0 i0 c1 i1 cB cF fInit fFieldsM fRulesM fEqM fIsRow fIsPair fIsSmall fIsWord fUnlike fAreFacts fInSeq fAreFields fAreValues fAreRules fWays fEach fFlow fLoad fDraw fPick fSame fLetter fName fNear fWords fTable fBan fSorted fMade fTold fRight fLists fChanged fBadT fBadB fEqual fLarge fLaw : Addr} (X : K.In h) (G : h.Ns mainGlobals mg) (hfa : mg "law" = some (.ref fa))
    {odc0 anc0 odc1 anc1 odInit anInit odFieldsM anFieldsM odRulesM anRulesM odEqM anEqM odIsRow anIsRow odIsPair anIsPair odIsSmall anIsSmall odIsWord anIsWord odUnlike anUnlike odAreFacts anAreFacts odInSeq anInSeq odAreFields anAreFields odAreValues anAreValues odAreRules anAreRules odWays anWays odEach anEach odFlow anFlow odLoad anLoad odDraw anDraw odPick anPick odSame anSame odLetter anLetter odName anName odNear anNear odWords anWords odTable anTable odBan anBan odSorted anSorted odMade anMade odTold anTold odRight anRight odLists anLists odChanged anChanged odBadT anBadT odBadB anBadB odEqual anEqual odLarge anLarge odLaw anLaw : Option Addr} {slc0 slc1 slInit slFieldsM slRulesM slEqM slIsRow slIsPair slIsSmall slIsWord slUnlike slAreFacts slInSeq slAreFields slAreValues slAreRules slWays slEach slFlow slLoad slDraw slPick slSame slLetter slName slNear slWords slTable slBan slSorted slMade slTold slRight slLists slChanged slBadT slBadB slEqual slLarge slLaw : Array (Option Value)} {occ0 dcc0 pmc0 cdc0 ctc0 occ1 dcc1 pmc1 cdc1 ctc1 ocInit kVInit dcInit pmInit cdInit ctInit ocFieldsM kVFieldsM dcFieldsM pmFieldsM cdFieldsM ctFieldsM ocRulesM kVRulesM dcRulesM pmRulesM cdRulesM ctRulesM ocEqM kVEqM dcEqM pmEqM cdEqM ctEqM ocIsRow kVIsRow dcIsRow pmIsRow cdIsRow ctIsRow ocIsPair kVIsPair dcIsPair pmIsPair cdIsPair ctIsPair ocIsSmall kVIsSmall dcIsSmall pmIsSmall cdIsSmall ctIsSmall ocIsWord kVIsWord dcIsWord pmIsWord cdIsWord ctIsWord ocUnlike kVUnlike dcUnlike pmUnlike cdUnlike ctUnlike ocAreFacts kVAreFacts dcAreFacts pmAreFacts cdAreFacts ctAreFacts ocInSeq kVInSeq dcInSeq pmInSeq cdInSeq ctInSeq ocAreFields kVAreFields dcAreFields pmAreFields cdAreFields ctAreFields ocAreValues kVAreValues dcAreValues pmAreValues cdAreValues ctAreValues ocAreRules kVAreRules dcAreRules pmAreRules cdAreRules ctAreRules ocWays kVWays dcWays pmWays cdWays ctWays ocEach kVEach dcEach pmEach cdEach ctEach ocFlow kVFlow dcFlow pmFlow cdFlow ctFlow ocLoad kVLoad dcLoad pmLoad cdLoad ctLoad ocDraw kVDraw dcDraw pmDraw cdDraw ctDraw ocPick kVPick dcPick pmPick cdPick ctPick ocSame kVSame dcSame pmSame cdSame ctSame ocLetter kVLetter dcLetter pmLetter cdLetter ctLetter ocName kVName dcName pmName cdName ctName ocNear kVNear dcNear pmNear cdNear ctNear ocWords kVWords dcWords pmWords cdWords ctWords ocTable kVTable dcTable pmTable cdTable ctTable ocBan kVBan dcBan pmBan cdBan ctBan ocSorted kVSorted dcSorted pmSorted cdSorted ctSorted ocMade kVMade dcMade pmMade cdMade ctMade ocTold kVTold dcTold pmTold cdTold ctTold ocRight kVRight dcRight pmRight cdRight ctRight ocLists kVLists dcLists pmLists cdLists ctLists ocChanged kVChanged dcChanged pmChanged cdChanged ctChanged ocBadT kVBadT dcBadT pmBadT cdBadT ctBadT ocBadB kVBadB dcBadB pmBadB cdBadB ctBadB ocEqual kVEqual dcEqual pmEqual cdEqual ctEqual ocLarge kVLarge dcLarge pmLarge cdLarge ctLarge ocLaw kVLaw dcLaw pmLaw cdLaw ctLaw : Value}
    (g0 : PySem.W.nsIn K mainGlobals "BadValue" = some (some (.ref c0)))
    (ini0 : PySem.W.excInitIn K c0 XM.exTail "Exception.__new__" = true)
    (ovr0 : PySem.W.excOver K c0 XM.exTail = true)
    (tkn0 : PySem.W.takerIn K c0 "at" = some none)
    (sa0 : PySem.W.findIn K (.ref c0) "__setattr__" = some (some (.builtin "object.__setattr__")))
    (ga0 : PySem.W.findIn K (.ref c0) "__getattribute__" = some (some (.builtin "BaseException.__getattribute__")))
    (gg0 : PySem.W.findIn K (.ref c0) "__getattr__" = some none)
    (no0 : PySem.W.findIn K (.ref c0) "at" = some none)
    (ic0 : PySem.W.findIn K (.ref c0) "__init__" = some (some (.ref i0)))
    (tc0 : PySem.W.typeIn K (.ref i0) = some (.type "function"))
    (kc0 : PySem.W.keepIn K (.ref c0) = true)
    (ex0 : PySem.W.subIn K (.ref c0) (.type "BaseException") = some true)
    (ty0 : PySem.W.typeIn K (.ref c0) = some (.type "type"))
    (hd0 : PySem.W.hasDictIn K c0 = true)
    (is0 : PySem.W.isClsIn K c0 = true)
    (cc0 : PySem.W.findIn K (.ref c0) "__class__" = some (some (.builtin "object.__class__")))
    (mo0 : PySem.W.mroIn K c0 (.type "object") = some true)
    (lc0 : K.lookup i0 = some ⟨occ0, odc0, .func (PySem.W.fnOf "__init__" "BadValue.__init__" (defArgs (inClass (sEBadValue) 0)) (defBody (inClass (sEBadValue) 0)) (defScope (inClass (sEBadValue) 0)) .none .none dcc0 pmc0 anc0 cdc0 ctc0), slc0⟩)
    (cc0X : PySem.W.codeIn K cdc0 "BadValue.__init__" = true)
    (s00 : PySem.W.subIn K (.ref c0) (.ref c0) = some true)
    (s01 : PySem.W.subIn K (.ref c0) (.ref c1) = some false)
    (sB0 : PySem.W.subIn K (.ref c0) (.ref cB) = some true)
    (g1 : PySem.W.nsIn K mainGlobals "TooMany" = some (some (.ref c1)))
    (ini1 : PySem.W.excInitIn K c1 XM.exTail "Exception.__new__" = true)
    (ovr1 : PySem.W.excOver K c1 XM.exTail = true)
    (tkn1 : PySem.W.takerIn K c1 "word" = some none)
    (sa1 : PySem.W.findIn K (.ref c1) "__setattr__" = some (some (.builtin "object.__setattr__")))
    (ga1 : PySem.W.findIn K (.ref c1) "__getattribute__" = some (some (.builtin "BaseException.__getattribute__")))
    (gg1 : PySem.W.findIn K (.ref c1) "__getattr__" = some none)
    (no1 : PySem.W.findIn K (.ref c1) "word" = some none)
    (ic1 : PySem.W.findIn K (.ref c1) "__init__" = some (some (.ref i1)))
    (tc1 : PySem.W.typeIn K (.ref i1) = some (.type "function"))
    (kc1 : PySem.W.keepIn K (.ref c1) = true)
    (ex1 : PySem.W.subIn K (.ref c1) (.type "BaseException") = some true)
    (ty1 : PySem.W.typeIn K (.ref c1) = some (.type "type"))
    (hd1 : PySem.W.hasDictIn K c1 = true)
    (is1 : PySem.W.isClsIn K c1 = true)
    (cc1 : PySem.W.findIn K (.ref c1) "__class__" = some (some (.builtin "object.__class__")))
    (mo1 : PySem.W.mroIn K c1 (.type "object") = some true)
    (lc1 : K.lookup i1 = some ⟨occ1, odc1, .func (PySem.W.fnOf "__init__" "TooMany.__init__" (defArgs (inClass (sETooMany) 0)) (defBody (inClass (sETooMany) 0)) (defScope (inClass (sETooMany) 0)) .none .none dcc1 pmc1 anc1 cdc1 ctc1), slc1⟩)
    (cc1X : PySem.W.codeIn K cdc1 "TooMany.__init__" = true)
    (s10 : PySem.W.subIn K (.ref c1) (.ref c0) = some false)
    (s11 : PySem.W.subIn K (.ref c1) (.ref c1) = some true)
    (sB1 : PySem.W.subIn K (.ref c1) (.ref cB) = some true)
    (gB : PySem.W.nsIn K mainGlobals "TalkError" = some (some (.ref cB)))
    (exB : PySem.W.subIn K (.ref cB) (.type "BaseException") = some true)
    (tyB : PySem.W.typeIn K (.ref cB) = some (.type "type"))
    (hdB : PySem.W.hasDictIn K cB = true)
    (isB : PySem.W.isClsIn K cB = true)
    (sBB : PySem.W.subIn K (.ref cB) (.ref cB) = some true)
    (spG : PySem.W.specialIn K (.builtin "object.__class__") "__get__" = some (some (.builtin "getset_descriptor.__get__")))
    (tkG : PySem.W.takesIn K (.builtin "object.__class__") = some true)
    (gF : PySem.W.nsIn K mainGlobals "Form" = some (some (.ref cF)))
    (pgF : PySem.W.plainGet K cF Str.empty = true)
    (hdF : PySem.W.hasDictIn K cF = true)
    (poF : PySem.W.plainOver K cF = true)
    (saF : PySem.W.findIn K (.ref cF) "__setattr__" = some (some (.builtin "object.__setattr__")))
    (nfF : PySem.W.findIn K (.ref cF) "_fields" = some none)
    (nrF : PySem.W.findIn K (.ref cF) "_rules" = some none)
    (ccF : PySem.W.findIn K (.ref cF) "__class__" = some (some (.builtin "object.__class__")))
    (moF : PySem.W.mroIn K cF (.type "object") = some true)
    (isF : PySem.W.isClsIn K cF = true)
    (tyF : PySem.W.typeIn K (.ref cF) = some (.type "type"))
    (sFF : PySem.W.subIn K (.ref cF) (.ref cF) = some true)
    (mkF : PySem.W.makesIn K cF = true)
    (kF : PySem.W.keepIn K (.ref cF) = true)
    (aInit : PySem.W.findIn K (.ref cF) "__init__" = some (some (.ref fInit)))
    (tInit : PySem.W.typeIn K (.ref fInit) = some (.type "function"))
    (lInit : K.lookup fInit = some ⟨ocInit, odInit, .func (PySem.W.fnOf "__init__" "Form.__init__" (defArgs sInit) (defBody sInit) (defScope sInit) .none kVInit dcInit pmInit anInit cdInit ctInit), slInit⟩)
    (cInit : PySem.W.codeIn K cdInit "Form.__init__" = true)
    (kInit : PySem.W.keepIn K (.ref fInit) = true)
    (aFieldsM : PySem.W.findIn K (.ref cF) "fields" = some (some (.ref fFieldsM)))
    (tFieldsM : PySem.W.typeIn K (.ref fFieldsM) = some (.type "function"))
    (lFieldsM : K.lookup fFieldsM = some ⟨ocFieldsM, odFieldsM, .func (PySem.W.fnOf "fields" "Form.fields" (defArgs sFieldsM) (defBody sFieldsM) (defScope sFieldsM) .none kVFieldsM dcFieldsM pmFieldsM anFieldsM cdFieldsM ctFieldsM), slFieldsM⟩)
    (cFieldsM : PySem.W.codeIn K cdFieldsM "Form.fields" = true)
    (kFieldsM : PySem.W.keepIn K (.ref fFieldsM) = true)
    (aRulesM : PySem.W.findIn K (.ref cF) "rules" = some (some (.ref fRulesM)))
    (tRulesM : PySem.W.typeIn K (.ref fRulesM) = some (.type "function"))
    (lRulesM : K.lookup fRulesM = some ⟨ocRulesM, odRulesM, .func (PySem.W.fnOf "rules" "Form.rules" (defArgs sRulesM) (defBody sRulesM) (defScope sRulesM) .none kVRulesM dcRulesM pmRulesM anRulesM cdRulesM ctRulesM), slRulesM⟩)
    (cRulesM : PySem.W.codeIn K cdRulesM "Form.rules" = true)
    (kRulesM : PySem.W.keepIn K (.ref fRulesM) = true)
    (aEqM : PySem.W.findIn K (.ref cF) "__eq__" = some (some (.ref fEqM)))
    (tEqM : PySem.W.typeIn K (.ref fEqM) = some (.type "function"))
    (lEqM : K.lookup fEqM = some ⟨ocEqM, odEqM, .func (PySem.W.fnOf "__eq__" "Form.__eq__" (defArgs sEqM) (defBody sEqM) (defScope sEqM) .none kVEqM dcEqM pmEqM anEqM cdEqM ctEqM), slEqM⟩)
    (cEqM : PySem.W.codeIn K cdEqM "Form.__eq__" = true)
    (kEqM : PySem.W.keepIn K (.ref fEqM) = true)
    (nNoneType : PySem.W.subIn K (.type "NoneType") (.ref cF) = some false)
    (nbool : PySem.W.subIn K (.type "bool") (.ref cF) = some false)
    (nint : PySem.W.subIn K (.type "int") (.ref cF) = some false)
    (nstr : PySem.W.subIn K (.type "str") (.ref cF) = some false)
    (nlist : PySem.W.subIn K (.type "list") (.ref cF) = some false)
    (ntuple : PySem.W.subIn K (.type "tuple") (.ref cF) = some false)
    (aIsRow : PySem.W.nsIn K mainGlobals "is_row" = some (some (.ref fIsRow)))
    (lIsRow : K.lookup fIsRow = some ⟨ocIsRow, odIsRow, .func (PySem.W.fnOf "is_row" "is_row" (defArgs sIsRow) (defBody sIsRow) (defScope sIsRow) .none kVIsRow dcIsRow pmIsRow anIsRow cdIsRow ctIsRow), slIsRow⟩)
    (cIsRow : PySem.W.codeIn K cdIsRow "is_row" = true)
    (kIsRow : PySem.W.keepIn K (.ref fIsRow) = true)
    (aIsPair : PySem.W.nsIn K mainGlobals "is_pair" = some (some (.ref fIsPair)))
    (lIsPair : K.lookup fIsPair = some ⟨ocIsPair, odIsPair, .func (PySem.W.fnOf "is_pair" "is_pair" (defArgs sIsPair) (defBody sIsPair) (defScope sIsPair) .none kVIsPair dcIsPair pmIsPair anIsPair cdIsPair ctIsPair), slIsPair⟩)
    (cIsPair : PySem.W.codeIn K cdIsPair "is_pair" = true)
    (kIsPair : PySem.W.keepIn K (.ref fIsPair) = true)
    (aIsSmall : PySem.W.nsIn K mainGlobals "is_small" = some (some (.ref fIsSmall)))
    (lIsSmall : K.lookup fIsSmall = some ⟨ocIsSmall, odIsSmall, .func (PySem.W.fnOf "is_small" "is_small" (defArgs sIsSmall) (defBody sIsSmall) (defScope sIsSmall) .none kVIsSmall dcIsSmall pmIsSmall anIsSmall cdIsSmall ctIsSmall), slIsSmall⟩)
    (cIsSmall : PySem.W.codeIn K cdIsSmall "is_small" = true)
    (kIsSmall : PySem.W.keepIn K (.ref fIsSmall) = true)
    (aIsWord : PySem.W.nsIn K mainGlobals "is_word" = some (some (.ref fIsWord)))
    (lIsWord : K.lookup fIsWord = some ⟨ocIsWord, odIsWord, .func (PySem.W.fnOf "is_word" "is_word" (defArgs sIsWord) (defBody sIsWord) (defScope sIsWord) .none kVIsWord dcIsWord pmIsWord anIsWord cdIsWord ctIsWord), slIsWord⟩)
    (cIsWord : PySem.W.codeIn K cdIsWord "is_word" = true)
    (kIsWord : PySem.W.keepIn K (.ref fIsWord) = true)
    (aUnlike : PySem.W.nsIn K mainGlobals "are_unlike_words" = some (some (.ref fUnlike)))
    (lUnlike : K.lookup fUnlike = some ⟨ocUnlike, odUnlike, .func (PySem.W.fnOf "are_unlike_words" "are_unlike_words" (defArgs sUnlike) (defBody sUnlike) (defScope sUnlike) .none kVUnlike dcUnlike pmUnlike anUnlike cdUnlike ctUnlike), slUnlike⟩)
    (cUnlike : PySem.W.codeIn K cdUnlike "are_unlike_words" = true)
    (kUnlike : PySem.W.keepIn K (.ref fUnlike) = true)
    (aAreFacts : PySem.W.nsIn K mainGlobals "are_facts" = some (some (.ref fAreFacts)))
    (lAreFacts : K.lookup fAreFacts = some ⟨ocAreFacts, odAreFacts, .func (PySem.W.fnOf "are_facts" "are_facts" (defArgs sAreFacts) (defBody sAreFacts) (defScope sAreFacts) .none kVAreFacts dcAreFacts pmAreFacts anAreFacts cdAreFacts ctAreFacts), slAreFacts⟩)
    (cAreFacts : PySem.W.codeIn K cdAreFacts "are_facts" = true)
    (kAreFacts : PySem.W.keepIn K (.ref fAreFacts) = true)
    (aInSeq : PySem.W.nsIn K mainGlobals "in_sequence" = some (some (.ref fInSeq)))
    (lInSeq : K.lookup fInSeq = some ⟨ocInSeq, odInSeq, .func (PySem.W.fnOf "in_sequence" "in_sequence" (defArgs sInSeq) (defBody sInSeq) (defScope sInSeq) .none kVInSeq dcInSeq pmInSeq anInSeq cdInSeq ctInSeq), slInSeq⟩)
    (cInSeq : PySem.W.codeIn K cdInSeq "in_sequence" = true)
    (kInSeq : PySem.W.keepIn K (.ref fInSeq) = true)
    (aAreFields : PySem.W.nsIn K mainGlobals "_are_fields" = some (some (.ref fAreFields)))
    (lAreFields : K.lookup fAreFields = some ⟨ocAreFields, odAreFields, .func (PySem.W.fnOf "_are_fields" "_are_fields" (defArgs sAreFields) (defBody sAreFields) (defScope sAreFields) .none kVAreFields dcAreFields pmAreFields anAreFields cdAreFields ctAreFields), slAreFields⟩)
    (cAreFields : PySem.W.codeIn K cdAreFields "_are_fields" = true)
    (kAreFields : PySem.W.keepIn K (.ref fAreFields) = true)
    (aAreValues : PySem.W.nsIn K mainGlobals "_are_values" = some (some (.ref fAreValues)))
    (lAreValues : K.lookup fAreValues = some ⟨ocAreValues, odAreValues, .func (PySem.W.fnOf "_are_values" "_are_values" (defArgs sAreValues) (defBody sAreValues) (defScope sAreValues) .none kVAreValues dcAreValues pmAreValues anAreValues cdAreValues ctAreValues), slAreValues⟩)
    (cAreValues : PySem.W.codeIn K cdAreValues "_are_values" = true)
    (kAreValues : PySem.W.keepIn K (.ref fAreValues) = true)
    (aAreRules : PySem.W.nsIn K mainGlobals "_are_rules" = some (some (.ref fAreRules)))
    (lAreRules : K.lookup fAreRules = some ⟨ocAreRules, odAreRules, .func (PySem.W.fnOf "_are_rules" "_are_rules" (defArgs sAreRules) (defBody sAreRules) (defScope sAreRules) .none kVAreRules dcAreRules pmAreRules anAreRules cdAreRules ctAreRules), slAreRules⟩)
    (cAreRules : PySem.W.codeIn K cdAreRules "_are_rules" = true)
    (kAreRules : PySem.W.keepIn K (.ref fAreRules) = true)
    (aWays : PySem.W.nsIn K mainGlobals "_ways_to_fill" = some (some (.ref fWays)))
    (lWays : K.lookup fWays = some ⟨ocWays, odWays, .func (PySem.W.fnOf "_ways_to_fill" "_ways_to_fill" (defArgs sWays) (defBody sWays) (defScope sWays) .none kVWays dcWays pmWays anWays cdWays ctWays), slWays⟩)
    (cWays : PySem.W.codeIn K cdWays "_ways_to_fill" = true)
    (kWays : PySem.W.keepIn K (.ref fWays) = true)
    (aEach : PySem.W.nsIn K mainGlobals "_each_once" = some (some (.ref fEach)))
    (lEach : K.lookup fEach = some ⟨ocEach, odEach, .func (PySem.W.fnOf "_each_once" "_each_once" (defArgs sEach) (defBody sEach) (defScope sEach) .none kVEach dcEach pmEach anEach cdEach ctEach), slEach⟩)
    (cEach : PySem.W.codeIn K cdEach "_each_once" = true)
    (kEach : PySem.W.keepIn K (.ref fEach) = true)
    (aFlow : PySem.W.nsIn K mainGlobals "_law_flow" = some (some (.ref fFlow)))
    (lFlow : K.lookup fFlow = some ⟨ocFlow, odFlow, .func (PySem.W.fnOf "_law_flow" "_law_flow" (defArgs sFlow) (defBody sFlow) (defScope sFlow) .none kVFlow dcFlow pmFlow anFlow cdFlow ctFlow), slFlow⟩)
    (cFlow : PySem.W.codeIn K cdFlow "_law_flow" = true)
    (kFlow : PySem.W.keepIn K (.ref fFlow) = true)
    (aLoad : PySem.W.nsIn K mainGlobals "_law_load" = some (some (.ref fLoad)))
    (lLoad : K.lookup fLoad = some ⟨ocLoad, odLoad, .func (PySem.W.fnOf "_law_load" "_law_load" (defArgs sLoad) (defBody sLoad) (defScope sLoad) .none kVLoad dcLoad pmLoad anLoad cdLoad ctLoad), slLoad⟩)
    (cLoad : PySem.W.codeIn K cdLoad "_law_load" = true)
    (kLoad : PySem.W.keepIn K (.ref fLoad) = true)
    (aDraw : PySem.W.nsIn K mainGlobals "_law_draw" = some (some (.ref fDraw)))
    (lDraw : K.lookup fDraw = some ⟨ocDraw, odDraw, .func (PySem.W.fnOf "_law_draw" "_law_draw" (defArgs sDraw) (defBody sDraw) (defScope sDraw) .none kVDraw dcDraw pmDraw anDraw cdDraw ctDraw), slDraw⟩)
    (cDraw : PySem.W.codeIn K cdDraw "_law_draw" = true)
    (kDraw : PySem.W.keepIn K (.ref fDraw) = true)
    (aPick : PySem.W.nsIn K mainGlobals "_law_pick" = some (some (.ref fPick)))
    (lPick : K.lookup fPick = some ⟨ocPick, odPick, .func (PySem.W.fnOf "_law_pick" "_law_pick" (defArgs sPick) (defBody sPick) (defScope sPick) .none kVPick dcPick pmPick anPick cdPick ctPick), slPick⟩)
    (cPick : PySem.W.codeIn K cdPick "_law_pick" = true)
    (kPick : PySem.W.keepIn K (.ref fPick) = true)
    (aSame : PySem.W.nsIn K mainGlobals "_law_same" = some (some (.ref fSame)))
    (lSame : K.lookup fSame = some ⟨ocSame, odSame, .func (PySem.W.fnOf "_law_same" "_law_same" (defArgs sSame) (defBody sSame) (defScope sSame) .none kVSame dcSame pmSame anSame cdSame ctSame), slSame⟩)
    (cSame : PySem.W.codeIn K cdSame "_law_same" = true)
    (kSame : PySem.W.keepIn K (.ref fSame) = true)
    (aLetter : PySem.W.nsIn K mainGlobals "_law_letter" = some (some (.ref fLetter)))
    (lLetter : K.lookup fLetter = some ⟨ocLetter, odLetter, .func (PySem.W.fnOf "_law_letter" "_law_letter" (defArgs sLetter) (defBody sLetter) (defScope sLetter) .none kVLetter dcLetter pmLetter anLetter cdLetter ctLetter), slLetter⟩)
    (cLetter : PySem.W.codeIn K cdLetter "_law_letter" = true)
    (kLetter : PySem.W.keepIn K (.ref fLetter) = true)
    (aName : PySem.W.nsIn K mainGlobals "_law_name" = some (some (.ref fName)))
    (lName : K.lookup fName = some ⟨ocName, odName, .func (PySem.W.fnOf "_law_name" "_law_name" (defArgs sName) (defBody sName) (defScope sName) .none kVName dcName pmName anName cdName ctName), slName⟩)
    (cName : PySem.W.codeIn K cdName "_law_name" = true)
    (kName : PySem.W.keepIn K (.ref fName) = true)
    (aNear : PySem.W.nsIn K mainGlobals "_law_near" = some (some (.ref fNear)))
    (lNear : K.lookup fNear = some ⟨ocNear, odNear, .func (PySem.W.fnOf "_law_near" "_law_near" (defArgs sNear) (defBody sNear) (defScope sNear) .none kVNear dcNear pmNear anNear cdNear ctNear), slNear⟩)
    (cNear : PySem.W.codeIn K cdNear "_law_near" = true)
    (kNear : PySem.W.keepIn K (.ref fNear) = true)
    (aWords : PySem.W.nsIn K mainGlobals "_law_words" = some (some (.ref fWords)))
    (lWords : K.lookup fWords = some ⟨ocWords, odWords, .func (PySem.W.fnOf "_law_words" "_law_words" (defArgs sWords) (defBody sWords) (defScope sWords) .none kVWords dcWords pmWords anWords cdWords ctWords), slWords⟩)
    (cWords : PySem.W.codeIn K cdWords "_law_words" = true)
    (kWords : PySem.W.keepIn K (.ref fWords) = true)
    (aTable : PySem.W.nsIn K mainGlobals "_law_table" = some (some (.ref fTable)))
    (lTable : K.lookup fTable = some ⟨ocTable, odTable, .func (PySem.W.fnOf "_law_table" "_law_table" (defArgs sTable) (defBody sTable) (defScope sTable) .none kVTable dcTable pmTable anTable cdTable ctTable), slTable⟩)
    (cTable : PySem.W.codeIn K cdTable "_law_table" = true)
    (kTable : PySem.W.keepIn K (.ref fTable) = true)
    (aBan : PySem.W.nsIn K mainGlobals "_law_ban" = some (some (.ref fBan)))
    (lBan : K.lookup fBan = some ⟨ocBan, odBan, .func (PySem.W.fnOf "_law_ban" "_law_ban" (defArgs sBan) (defBody sBan) (defScope sBan) .none kVBan dcBan pmBan anBan cdBan ctBan), slBan⟩)
    (cBan : PySem.W.codeIn K cdBan "_law_ban" = true)
    (kBan : PySem.W.keepIn K (.ref fBan) = true)
    (aSorted : PySem.W.nsIn K mainGlobals "_law_sorted" = some (some (.ref fSorted)))
    (lSorted : K.lookup fSorted = some ⟨ocSorted, odSorted, .func (PySem.W.fnOf "_law_sorted" "_law_sorted" (defArgs sSorted) (defBody sSorted) (defScope sSorted) .none kVSorted dcSorted pmSorted anSorted cdSorted ctSorted), slSorted⟩)
    (cSorted : PySem.W.codeIn K cdSorted "_law_sorted" = true)
    (kSorted : PySem.W.keepIn K (.ref fSorted) = true)
    (aMade : PySem.W.nsIn K mainGlobals "_law_made" = some (some (.ref fMade)))
    (lMade : K.lookup fMade = some ⟨ocMade, odMade, .func (PySem.W.fnOf "_law_made" "_law_made" (defArgs sMade) (defBody sMade) (defScope sMade) .none kVMade dcMade pmMade anMade cdMade ctMade), slMade⟩)
    (cMade : PySem.W.codeIn K cdMade "_law_made" = true)
    (kMade : PySem.W.keepIn K (.ref fMade) = true)
    (aTold : PySem.W.nsIn K mainGlobals "_law_told" = some (some (.ref fTold)))
    (lTold : K.lookup fTold = some ⟨ocTold, odTold, .func (PySem.W.fnOf "_law_told" "_law_told" (defArgs sTold) (defBody sTold) (defScope sTold) .none kVTold dcTold pmTold anTold cdTold ctTold), slTold⟩)
    (cTold : PySem.W.codeIn K cdTold "_law_told" = true)
    (kTold : PySem.W.keepIn K (.ref fTold) = true)
    (aRight : PySem.W.nsIn K mainGlobals "_law_right" = some (some (.ref fRight)))
    (lRight : K.lookup fRight = some ⟨ocRight, odRight, .func (PySem.W.fnOf "_law_right" "_law_right" (defArgs sRight) (defBody sRight) (defScope sRight) .none kVRight dcRight pmRight anRight cdRight ctRight), slRight⟩)
    (cRight : PySem.W.codeIn K cdRight "_law_right" = true)
    (kRight : PySem.W.keepIn K (.ref fRight) = true)
    (aLists : PySem.W.nsIn K mainGlobals "_law_lists" = some (some (.ref fLists)))
    (lLists : K.lookup fLists = some ⟨ocLists, odLists, .func (PySem.W.fnOf "_law_lists" "_law_lists" (defArgs sLists) (defBody sLists) (defScope sLists) .none kVLists dcLists pmLists anLists cdLists ctLists), slLists⟩)
    (cLists : PySem.W.codeIn K cdLists "_law_lists" = true)
    (kLists : PySem.W.keepIn K (.ref fLists) = true)
    (aChanged : PySem.W.nsIn K mainGlobals "_law_changed_right" = some (some (.ref fChanged)))
    (lChanged : K.lookup fChanged = some ⟨ocChanged, odChanged, .func (PySem.W.fnOf "_law_changed_right" "_law_changed_right" (defArgs sChanged) (defBody sChanged) (defScope sChanged) .none kVChanged dcChanged pmChanged anChanged cdChanged ctChanged), slChanged⟩)
    (cChanged : PySem.W.codeIn K cdChanged "_law_changed_right" = true)
    (kChanged : PySem.W.keepIn K (.ref fChanged) = true)
    (aBadT : PySem.W.nsIn K mainGlobals "_law_bad_tables" = some (some (.ref fBadT)))
    (lBadT : K.lookup fBadT = some ⟨ocBadT, odBadT, .func (PySem.W.fnOf "_law_bad_tables" "_law_bad_tables" (defArgs sBadT) (defBody sBadT) (defScope sBadT) .none kVBadT dcBadT pmBadT anBadT cdBadT ctBadT), slBadT⟩)
    (cBadT : PySem.W.codeIn K cdBadT "_law_bad_tables" = true)
    (kBadT : PySem.W.keepIn K (.ref fBadT) = true)
    (aBadB : PySem.W.nsIn K mainGlobals "_law_bad_bans" = some (some (.ref fBadB)))
    (lBadB : K.lookup fBadB = some ⟨ocBadB, odBadB, .func (PySem.W.fnOf "_law_bad_bans" "_law_bad_bans" (defArgs sBadB) (defBody sBadB) (defScope sBadB) .none kVBadB dcBadB pmBadB anBadB cdBadB ctBadB), slBadB⟩)
    (cBadB : PySem.W.codeIn K cdBadB "_law_bad_bans" = true)
    (kBadB : PySem.W.keepIn K (.ref fBadB) = true)
    (aEqual : PySem.W.nsIn K mainGlobals "_law_equal_right" = some (some (.ref fEqual)))
    (lEqual : K.lookup fEqual = some ⟨ocEqual, odEqual, .func (PySem.W.fnOf "_law_equal_right" "_law_equal_right" (defArgs sEqual) (defBody sEqual) (defScope sEqual) .none kVEqual dcEqual pmEqual anEqual cdEqual ctEqual), slEqual⟩)
    (cEqual : PySem.W.codeIn K cdEqual "_law_equal_right" = true)
    (kEqual : PySem.W.keepIn K (.ref fEqual) = true)
    (aLarge : PySem.W.nsIn K mainGlobals "_law_large_right" = some (some (.ref fLarge)))
    (lLarge : K.lookup fLarge = some ⟨ocLarge, odLarge, .func (PySem.W.fnOf "_law_large_right" "_law_large_right" (defArgs sLarge) (defBody sLarge) (defScope sLarge) .none kVLarge dcLarge pmLarge anLarge cdLarge ctLarge), slLarge⟩)
    (cLarge : PySem.W.codeIn K cdLarge "_law_large_right" = true)
    (kLarge : PySem.W.keepIn K (.ref fLarge) = true)
    (aLaw : PySem.W.nsIn K mainGlobals "law" = some (some (.ref fLaw)))
    (lLaw : K.lookup fLaw = some ⟨ocLaw, odLaw, .func (PySem.W.fnOf "law" "law" (defArgs sLaw) (defBody sLaw) (defScope sLaw) .none kVLaw dcLaw pmLaw anLaw cdLaw ctLaw), slLaw⟩)
    (cLaw : PySem.W.codeIn K cdLaw "law" = true)
    (kLaw : PySem.W.keepIn K (.ref fLaw) = true)
    (v_MOST_LETTERS : ∃ t, PySem.W.nsIn K mainGlobals "MOST_LETTERS" = some (some (.int 8 t)))
    (v_MOST_FIELDS : ∃ t, PySem.W.nsIn K mainGlobals "MOST_FIELDS" = some (some (.int 6 t)))
    (v_MOST_VALUES : ∃ t, PySem.W.nsIn K mainGlobals "MOST_VALUES" = some (some (.int 5 t)))
    (v_MOST_RULES : ∃ t, PySem.W.nsIn K mainGlobals "MOST_RULES" = some (some (.int 20 t)))
    (v_MOST_PAIRS : ∃ t, PySem.W.nsIn K mainGlobals "MOST_PAIRS" = some (some (.int 4 t)))
    (v_MOST_FILLINGS : ∃ t, PySem.W.nsIn K mainGlobals "MOST_FILLINGS" = some (some (.int 1000 t)))
    (z_isinstance : PySem.W.nsIn K mainGlobals "isinstance" = some none)
    (z_list : PySem.W.nsIn K mainGlobals "list" = some none)
    (z_tuple : PySem.W.nsIn K mainGlobals "tuple" = some none)
    (z_str : PySem.W.nsIn K mainGlobals "str" = some none)
    (z_len : PySem.W.nsIn K mainGlobals "len" = some none)
    (z_all : PySem.W.nsIn K mainGlobals "all" = some none)
    (z_set : PySem.W.nsIn K mainGlobals "set" = some none)
    (z_dict : PySem.W.nsIn K mainGlobals "dict" = some none)
    (z_int : PySem.W.nsIn K mainGlobals "int" = some none)
    (z_abs : PySem.W.nsIn K mainGlobals "abs" = some none)
    (z_max : PySem.W.nsIn K mainGlobals "max" = some none)
    (z_range : PySem.W.nsIn K mainGlobals "range" = some none)
    (z_bool : PySem.W.nsIn K mainGlobals "bool" = some none)
    (z_min : PySem.W.nsIn K mainGlobals "min" = some none) :
    ∃ fd : FuncData, (∀ (s : Shared) (v : Value), BindsTo s fd ⟨[v], []⟩ [("script", v)]) ∧ ∀ base : Heap, K.In base → base.Ns mainGlobals mg → FnOk l.prog w K mg base CX0 10 fa fd ["script"] (spLaw K) := by
  have e := hfa.symm.trans (PySem.W.mg_of X G aLaw)
  cases e
  have t0 : XM.XcT K c0 i0 "at" "BadValue.__init__" := ⟨.inl rfl, ini0, ovr0, tkn0, sa0, ga0, gg0, no0, ic0, tc0, kc0, ex0, ty0, hd0, ⟨_, _, _, _, _, _, _, _, _, _, _, _, _, _, lc0, cc0X⟩⟩
  have q0 : XH.ClsQ K c0 := ⟨ga0, gg0, ex0, hd0, cc0, spG, tkG, mo0⟩
  have m_g0 := PySem.W.mg_of X G g0
  have t1 : XM.XcT K c1 i1 "word" "TooMany.__init__" := ⟨.inr (.inr rfl), ini1, ovr1, tkn1, sa1, ga1, gg1, no1, ic1, tc1, kc1, ex1, ty1, hd1, ⟨_, _, _, _, _, _, _, _, _, _, _, _, _, _, lc1, cc1X⟩⟩
  have q1 : XH.ClsQ K c1 := ⟨ga1, gg1, ex1, hd1, cc1, spG, tkG, mo1⟩
  have m_g1 := PySem.W.mg_of X G g1
  have m_gB := PySem.W.mg_of X G gB
  have m_gF := PySem.W.mg_of X G gF
  have clF : Cls K cF := ⟨pgF, hdF, poF, saF⟩
  have mkF' : Mk K cF fInit := ⟨mkF, aInit, fn_of_ty tInit, kF⟩
  have FInit := fun_mk (st := sInit) lInit cInit kInit
  have bInit := FInit.binds (ps := ["self", "fields", "rules"]) fun _ _ _ _ _ _ us hl => match us, hl with | [_, _, _], _ => rfl
  have meInit : Meth K cF "__init__" fInit := ⟨aInit, fn_of_ty tInit, kInit⟩
  have FFieldsM := fun_mk (st := sFieldsM) lFieldsM cFieldsM kFieldsM
  have bFieldsM := FFieldsM.binds (ps := ["self"]) fun _ _ _ _ _ _ us hl => match us, hl with | [_], _ => rfl
  have meFieldsM : Meth K cF "fields" fFieldsM := ⟨aFieldsM, fn_of_ty tFieldsM, kFieldsM⟩
  have FRulesM := fun_mk (st := sRulesM) lRulesM cRulesM kRulesM
  have bRulesM := FRulesM.binds (ps := ["self"]) fun _ _ _ _ _ _ us hl => match us, hl with | [_], _ => rfl
  have meRulesM : Meth K cF "rules" fRulesM := ⟨aRulesM, fn_of_ty tRulesM, kRulesM⟩
  have FEqM := fun_mk (st := sEqM) lEqM cEqM kEqM
  have bEqM := FEqM.binds (ps := ["self", "other"]) fun _ _ _ _ _ _ us hl => match us, hl with | [_, _], _ => rfl
  have meEqM : Meth K cF "__eq__" fEqM := ⟨aEqM, fn_of_ty tEqM, kEqM⟩
  have FIsRow := fun_mk (st := sIsRow) lIsRow cIsRow kIsRow
  have bIsRow := FIsRow.binds (ps := ["thing"]) fun _ _ _ _ _ _ us hl => match us, hl with | [_], _ => rfl
  have mIsRow := PySem.W.mg_of X G aIsRow
  have FIsPair := fun_mk (st := sIsPair) lIsPair cIsPair kIsPair
  have bIsPair := FIsPair.binds (ps := ["thing"]) fun _ _ _ _ _ _ us hl => match us, hl with | [_], _ => rfl
  have mIsPair := PySem.W.mg_of X G aIsPair
  have FIsSmall := fun_mk (st := sIsSmall) lIsSmall cIsSmall kIsSmall
  have bIsSmall := FIsSmall.binds (ps := ["string"]) fun _ _ _ _ _ _ us hl => match us, hl with | [_], _ => rfl
  have mIsSmall := PySem.W.mg_of X G aIsSmall
  have FIsWord := fun_mk (st := sIsWord) lIsWord cIsWord kIsWord
  have bIsWord := FIsWord.binds (ps := ["thing"]) fun _ _ _ _ _ _ us hl => match us, hl with | [_], _ => rfl
  have mIsWord := PySem.W.mg_of X G aIsWord
  have FUnlike := fun_mk (st := sUnlike) lUnlike cUnlike kUnlike
  have bUnlike := FUnlike.binds (ps := ["things"]) fun _ _ _ _ _ _ us hl => match us, hl with | [_], _ => rfl
  have mUnlike := PySem.W.mg_of X G aUnlike
  have FAreFacts := fun_mk (st := sAreFacts) lAreFacts cAreFacts kAreFacts
  have bAreFacts := FAreFacts.binds (ps := ["fields", "facts"]) fun _ _ _ _ _ _ us hl => match us, hl with | [_, _], _ => rfl
  have mAreFacts := PySem.W.mg_of X G aAreFacts
  have FInSeq := fun_mk (st := sInSeq) lInSeq cInSeq kInSeq
  have bInSeq := FInSeq.binds (ps := ["fields", "facts"]) fun _ _ _ _ _ _ us hl => match us, hl with | [_, _], _ => rfl
  have mInSeq := PySem.W.mg_of X G aInSeq
  have FAreFields := fun_mk (st := sAreFields) lAreFields cAreFields kAreFields
  have bAreFields := FAreFields.binds (ps := ["fields"]) fun _ _ _ _ _ _ us hl => match us, hl with | [_], _ => rfl
  have mAreFields := PySem.W.mg_of X G aAreFields
  have FAreValues := fun_mk (st := sAreValues) lAreValues cAreValues kAreValues
  have bAreValues := FAreValues.binds (ps := ["values"]) fun _ _ _ _ _ _ us hl => match us, hl with | [_], _ => rfl
  have mAreValues := PySem.W.mg_of X G aAreValues
  have FAreRules := fun_mk (st := sAreRules) lAreRules cAreRules kAreRules
  have bAreRules := FAreRules.binds (ps := ["fields", "rules"]) fun _ _ _ _ _ _ us hl => match us, hl with | [_, _], _ => rfl
  have mAreRules := PySem.W.mg_of X G aAreRules
  have FWays := fun_mk (st := sWays) lWays cWays kWays
  have bWays := FWays.binds (ps := ["fields"]) fun _ _ _ _ _ _ us hl => match us, hl with | [_], _ => rfl
  have mWays := PySem.W.mg_of X G aWays
  have FEach := fun_mk (st := sEach) lEach cEach kEach
  have bEach := FEach.binds (ps := ["rules"]) fun _ _ _ _ _ _ us hl => match us, hl with | [_], _ => rfl
  have mEach := PySem.W.mg_of X G aEach
  have FFlow := fun_mk (st := sFlow) lFlow cFlow kFlow
  have bFlow := FFlow.binds (ps := ["script"]) fun _ _ _ _ _ _ us hl => match us, hl with | [_], _ => rfl
  have mFlow := PySem.W.mg_of X G aFlow
  have FLoad := fun_mk (st := sLoad) lLoad cLoad kLoad
  have bLoad := FLoad.binds (ps := ["flow"]) fun _ _ _ _ _ _ us hl => match us, hl with | [_], _ => rfl
  have mLoad := PySem.W.mg_of X G aLoad
  have FDraw := fun_mk (st := sDraw) lDraw cDraw kDraw
  have bDraw := FDraw.binds (ps := ["flow", "many"]) fun _ _ _ _ _ _ us hl => match us, hl with | [_, _], _ => rfl
  have mDraw := PySem.W.mg_of X G aDraw
  have FPick := fun_mk (st := sPick) lPick cPick kPick
  have bPick := FPick.binds (ps := ["flow", "things"]) fun _ _ _ _ _ _ us hl => match us, hl with | [_, _], _ => rfl
  have mPick := PySem.W.mg_of X G aPick
  have FSame := fun_mk (st := sSame) lSame cSame kSame
  have bSame := FSame.binds (ps := ["actual", "due"]) fun _ _ _ _ _ _ us hl => match us, hl with | [_, _], _ => rfl
  have mSame := PySem.W.mg_of X G aSame
  have FLetter := fun_mk (st := sLetter) lLetter cLetter kLetter
  have bLetter := FLetter.binds (ps := ["flow"]) fun _ _ _ _ _ _ us hl => match us, hl with | [_], _ => rfl
  have mLetter := PySem.W.mg_of X G aLetter
  have FName := fun_mk (st := sName) lName cName kName
  have bName := FName.binds (ps := ["flow"]) fun _ _ _ _ _ _ us hl => match us, hl with | [_], _ => rfl
  have mName := PySem.W.mg_of X G aName
  have FNear := fun_mk (st := sNear) lNear cNear kNear
  have bNear := FNear.binds (ps := ["flow", "name"]) fun _ _ _ _ _ _ us hl => match us, hl with | [_, _], _ => rfl
  have mNear := PySem.W.mg_of X G aNear
  have FWords := fun_mk (st := sWords) lWords cWords kWords
  have bWords := FWords.binds (ps := ["flow", "many", "pool"]) fun _ _ _ _ _ _ us hl => match us, hl with | [_, _, _], _ => rfl
  have mWords := PySem.W.mg_of X G aWords
  have FTable := fun_mk (st := sTable) lTable cTable kTable
  have bTable := FTable.binds (ps := ["flow", "sizes"]) fun _ _ _ _ _ _ us hl => match us, hl with | [_, _], _ => rfl
  have mTable := PySem.W.mg_of X G aTable
  have FBan := fun_mk (st := sBan) lBan cBan kBan
  have bBan := FBan.binds (ps := ["flow", "table", "most"]) fun _ _ _ _ _ _ us hl => match us, hl with | [_, _, _], _ => rfl
  have mBan := PySem.W.mg_of X G aBan
  have FSorted := fun_mk (st := sSorted) lSorted cSorted kSorted
  have bSorted := FSorted.binds (ps := ["table", "ban"]) fun _ _ _ _ _ _ us hl => match us, hl with | [_, _], _ => rfl
  have mSorted := PySem.W.mg_of X G aSorted
  have FMade := fun_mk (st := sMade) lMade cMade kMade
  have bMade := FMade.binds (ps := ["table", "bans"]) fun _ _ _ _ _ _ us hl => match us, hl with | [_, _], _ => rfl
  have mMade := PySem.W.mg_of X G aMade
  have FTold := fun_mk (st := sTold) lTold cTold kTold
  have bTold := FTold.binds (ps := ["table", "bans"]) fun _ _ _ _ _ _ us hl => match us, hl with | [_, _], _ => rfl
  have mTold := PySem.W.mg_of X G aTold
  have FRight := fun_mk (st := sRight) lRight cRight kRight
  have bRight := FRight.binds (ps := ["made", "table", "bans"]) fun _ _ _ _ _ _ us hl => match us, hl with | [_, _, _], _ => rfl
  have mRight := PySem.W.mg_of X G aRight
  have FLists := fun_mk (st := sLists) lLists cLists kLists
  have bLists := FLists.binds (ps := ["thing"]) fun _ _ _ _ _ _ us hl => match us, hl with | [_], _ => rfl
  have mLists := PySem.W.mg_of X G aLists
  have FChanged := fun_mk (st := sChanged) lChanged cChanged kChanged
  have bChanged := FChanged.binds (ps := ["table", "bans"]) fun _ _ _ _ _ _ us hl => match us, hl with | [_, _], _ => rfl
  have mChanged := PySem.W.mg_of X G aChanged
  have FBadT := fun_mk (st := sBadT) lBadT cBadT kBadT
  have bBadT := FBadT.binds (ps := ["flow", "table"]) fun _ _ _ _ _ _ us hl => match us, hl with | [_, _], _ => rfl
  have mBadT := PySem.W.mg_of X G aBadT
  have FBadB := fun_mk (st := sBadB) lBadB cBadB kBadB
  have bBadB := FBadB.binds (ps := ["flow", "table", "bans"]) fun _ _ _ _ _ _ us hl => match us, hl with | [_, _, _], _ => rfl
  have mBadB := PySem.W.mg_of X G aBadB
  have FEqual := fun_mk (st := sEqual) lEqual cEqual kEqual
  have bEqual := FEqual.binds (ps := ["flow", "table", "bans"]) fun _ _ _ _ _ _ us hl => match us, hl with | [_, _, _], _ => rfl
  have mEqual := PySem.W.mg_of X G aEqual
  have FLarge := fun_mk (st := sLarge) lLarge cLarge kLarge
  have bLarge := FLarge.binds (ps := ["flow"]) fun _ _ _ _ _ _ us hl => match us, hl with | [_], _ => rfl
  have mLarge := PySem.W.mg_of X G aLarge
  have FLaw := fun_mk (st := sLaw) lLaw cLaw kLaw
  have bLaw := FLaw.binds (ps := ["script"]) fun _ _ _ _ _ _ us hl => match us, hl with | [_], _ => rfl
  have mLaw := PySem.W.mg_of X G aLaw
  have m_MOST_LETTERS : ∃ t, mg "MOST_LETTERS" = some (.int 8 t) := by
    obtain ⟨t, h⟩ := v_MOST_LETTERS
    exact ⟨t, PySem.W.mg_of X G h⟩
  have m_MOST_FIELDS : ∃ t, mg "MOST_FIELDS" = some (.int 6 t) := by
    obtain ⟨t, h⟩ := v_MOST_FIELDS
    exact ⟨t, PySem.W.mg_of X G h⟩
  have m_MOST_VALUES : ∃ t, mg "MOST_VALUES" = some (.int 5 t) := by
    obtain ⟨t, h⟩ := v_MOST_VALUES
    exact ⟨t, PySem.W.mg_of X G h⟩
  have m_MOST_RULES : ∃ t, mg "MOST_RULES" = some (.int 20 t) := by
    obtain ⟨t, h⟩ := v_MOST_RULES
    exact ⟨t, PySem.W.mg_of X G h⟩
  have m_MOST_PAIRS : ∃ t, mg "MOST_PAIRS" = some (.int 4 t) := by
    obtain ⟨t, h⟩ := v_MOST_PAIRS
    exact ⟨t, PySem.W.mg_of X G h⟩
  have m_MOST_FILLINGS : ∃ t, mg "MOST_FILLINGS" = some (.int 1000 t) := by
    obtain ⟨t, h⟩ := v_MOST_FILLINGS
    exact ⟨t, PySem.W.mg_of X G h⟩
  have m_isinstance := PySem.W.mg_none_of X G z_isinstance
  have m_list := PySem.W.mg_none_of X G z_list
  have m_tuple := PySem.W.mg_none_of X G z_tuple
  have m_str := PySem.W.mg_none_of X G z_str
  have m_len := PySem.W.mg_none_of X G z_len
  have m_all := PySem.W.mg_none_of X G z_all
  have m_set := PySem.W.mg_none_of X G z_set
  have m_dict := PySem.W.mg_none_of X G z_dict
  have m_int := PySem.W.mg_none_of X G z_int
  have m_abs := PySem.W.mg_none_of X G z_abs
  have m_max := PySem.W.mg_none_of X G z_max
  have m_range := PySem.W.mg_none_of X G z_range
  have m_bool := PySem.W.mg_none_of X G z_bool
  have m_min := PySem.W.mg_none_of X G z_min
  have Tb : Bb mg := ⟨m_isinstance, m_list, m_tuple, m_str, m_len, m_all, m_set, m_dict, m_MOST_LETTERS⟩
  have Tm : Fm mg := ⟨m_MOST_FIELDS, m_MOST_VALUES, m_MOST_RULES, m_MOST_PAIRS, m_MOST_FILLINGS⟩
  have Tt : Bt mg := ⟨m_int, m_list, m_len, m_abs, m_max⟩
  have Ts : Bs mg := ⟨m_isinstance, m_tuple, m_list, m_len, m_all, m_range, m_str, m_bool, m_int⟩
  have R : Er K mg c0 c1 := ⟨⟨_, _, t0⟩, ⟨_, _, t1⟩, m_g0, m_g1⟩
  have Z : Ex K mg c0 c1 cB := ⟨m_gB, PySem.W.exm_ref ex0 hd0 ty0 s00, PySem.W.exm_ref ex0 hd0 ty0 s10, PySem.W.exm_ref ex1 hd1 ty1 s11, kit_own isB tyB sB0 sBB, kit_own isB tyB sB1 sBB, q0, q1⟩
  have T : Fc K mg cF := ⟨clF, nfF, nrF, m_gF, m_isinstance, fun e => .ins e clF ccF spG tkG moF, kit_own isF tyF sFF sFF, data_all (kit_data isF tyF nNoneType) (fun _ => kit_data isF tyF nbool) (fun _ => kit_data isF tyF nint) (fun _ => kit_data isF tyF nstr) (fun _ => kit_data isF tyF nlist) (fun _ => kit_data isF tyF ntuple)⟩
  have N : Nf K cF fEqM := ⟨data_all (not_first nNoneType) (fun _ => not_first nbool) (fun _ => not_first nint) (fun _ => not_first nstr) (fun _ => not_first nlist) (fun _ => not_first ntuple), aEqM, fn_of_ty tEqM⟩
  refine ⟨PySem.W.fnOf "law" "law" (defArgs sLaw) (defBody sLaw) (defScope sLaw) .none kVLaw dcLaw pmLaw anLaw cdLaw ctLaw, fun s v => .of_eq rfl, fun base _ _ => ?_⟩
  have GIsRow := ok_isrow (P := l.prog) (w := w) (base := base) FIsRow Tb
  have KIsRow : Kn l.prog w K mg base _ _ _ _ := ⟨fIsRow, _, GIsRow, FIsRow.kp, bIsRow, mIsRow⟩
  have GIsPair := ok_ispair FIsPair Tb GIsRow FIsRow.kp bIsRow mIsRow
  have KIsPair : Kn l.prog w K mg base _ _ _ _ := ⟨fIsPair, _, GIsPair, FIsPair.kp, bIsPair, mIsPair⟩
  have GIsSmall := ok_issmall (P := l.prog) (w := w) (base := base) FIsSmall Tb
  have GIsWord := ok_isword FIsWord Tb GIsSmall FIsSmall.kp bIsSmall mIsSmall
  have GUnlike := ok_unlike FUnlike Tb GIsWord FIsWord.kp bIsWord mIsWord
  have KUnlike : Kn l.prog w K mg base _ _ _ _ := ⟨fUnlike, _, GUnlike, FUnlike.kp, bUnlike, mUnlike⟩
  have GAreFacts := ok_arefacts FAreFacts Tb GIsRow FIsRow.kp bIsRow mIsRow GIsPair FIsPair.kp bIsPair mIsPair
  have KAreFacts : Kn l.prog w K mg base _ _ _ _ := ⟨fAreFacts, _, GAreFacts, FAreFacts.kp, bAreFacts, mAreFacts⟩
  have KInSeq : Kn l.prog w K mg base _ _ _ _ := ⟨fInSeq, _, ok_inseq FInSeq Tb, FInSeq.kp, bInSeq, mInSeq⟩
  have KAreValues : Kn l.prog w K mg base _ _ _ _ := ⟨fAreValues, _, ok_arevalues FAreValues Tb Tm KIsRow KUnlike, FAreValues.kp, bAreValues, mAreValues⟩
  have KAreFields : Kn l.prog w K mg base _ _ _ _ := ⟨fAreFields, _, ok_arefields FAreFields Tb Tm KIsRow KIsPair KUnlike KAreValues, FAreFields.kp, bAreFields, mAreFields⟩
  have KAreRules : Kn l.prog w K mg base _ _ _ _ := ⟨fAreRules, _, ok_arerules FAreRules Tb Tm KIsRow KAreFacts, FAreRules.kp, bAreRules, mAreRules⟩
  have KWays : Kn l.prog w K mg base _ _ _ _ := ⟨fWays, _, ok_ways FWays Tb, FWays.kp, bWays, mWays⟩
  have KEach : Kn l.prog w K mg base _ _ _ _ := ⟨fEach, _, ok_each FEach Tb, FEach.kp, bEach, mEach⟩
  have GInit := ok_init FInit Tb Tm R clF nfF nrF KAreFields KAreRules KWays KEach KInSeq
  have GFieldsM := ok_fieldsM (P := l.prog) (w := w) (base := base) FFieldsM T
  have GRulesM := ok_rulesM (P := l.prog) (w := w) (base := base) FRulesM T
  have GEqM := ok_eqM (P := l.prog) (w := w) (base := base) FEqM T
  have KFlow : Kn l.prog w K mg base _ _ _ _ := ⟨fFlow, _, ok_flow FFlow Tt, FFlow.kp, bFlow, mFlow⟩
  have KDraw : Kn l.prog w K mg base _ _ _ _ := ⟨fDraw, _, ok_draw FDraw Tt FLoad bLoad mLoad, FDraw.kp, bDraw, mDraw⟩
  have KMade : Kn l.prog w K mg base _ _ _ _ := ⟨fMade, _, ok_made FMade T R Z mkF' GInit bInit, FMade.kp, bMade, mMade⟩
  have KLetter : Kn l.prog w K mg base _ _ _ _ := ⟨fLetter, _, ok_letter FLetter KDraw, FLetter.kp, bLetter, mLetter⟩
  have KName : Kn l.prog w K mg base _ _ _ _ := ⟨fName, _, ok_name FName m_range KDraw KLetter, FName.kp, bName, mName⟩
  have KSame : Kn l.prog w K mg base _ _ _ _ := ⟨fSame, _, same_all FSame Ts bSame mSame 5, FSame.kp, bSame, mSame⟩
  have KSorted : Kn l.prog w K mg base _ _ _ _ := ⟨fSorted, _, ok_sorted FSorted m_tuple, FSorted.kp, bSorted, mSorted⟩
  have KTold : Kn l.prog w K mg base _ _ _ _ := ⟨fTold, _, ok_told FTold m_tuple KSorted, FTold.kp, bTold, mTold⟩
  have KRight : Kn l.prog w K mg base _ _ _ _ := ⟨fRight, _, ok_right FRight m_tuple T GFieldsM bFieldsM meFieldsM GRulesM bRulesM meRulesM KSame KTold, FRight.kp, bRight, mRight⟩
  have KNear : Kn l.prog w K mg base _ _ _ _ := ⟨fNear, _, ok_near FNear m_len KDraw KLetter, FNear.kp, bNear, mNear⟩
  have KPick : Kn l.prog w K mg base _ _ _ _ := ⟨fPick, _, ok_pickB FPick m_len KDraw, FPick.kp, bPick, mPick⟩
  have KWords : Kn l.prog w K mg base _ _ _ _ := ⟨fWords, _, ok_words FWords m_len m_range KDraw KPick KName KNear, FWords.kp, bWords, mWords⟩
  have KTable : Kn l.prog w K mg base _ _ _ _ := ⟨fTable, _, ok_table FTable m_len m_range m_tuple KWords, FTable.kp, bTable, mTable⟩
  have KBan : Kn l.prog w K mg base _ _ _ _ := ⟨fBan, _, ok_ban FBan m_len m_range m_tuple m_list m_min KDraw KPick, FBan.kp, bBan, mBan⟩
  have KLists : Kn l.prog w K mg base _ _ _ _ := ⟨fLists, _, lists_all FLists Ts bLists mLists 5, FLists.kp, bLists, mLists⟩
  have KChanged : Kn l.prog w K mg base _ _ _ _ := ⟨fChanged, _, ok_changed FChanged T mkF' FInit GInit KLists KRight, FChanged.kp, bChanged, mChanged⟩
  have KEqual : Kn l.prog w K mg base _ _ _ _ := ⟨fEqual, _, ok_equal FEqual T mkF' GInit bInit GEqM bEqM N GFieldsM bFieldsM meFieldsM m_tuple m_list KLists KTold, FEqual.kp, bEqual, mEqual⟩
  have KBadT : Kn l.prog w K mg base _ _ _ _ := ⟨fBadT, _, ok_badT FBadT m_len m_range m_tuple KDraw, FBadT.kp, bBadT, mBadT⟩
  have KBadB : Kn l.prog w K mg base _ _ _ _ := ⟨fBadB, _, ok_badB FBadB m_range KBan, FBadB.kp, bBadB, mBadB⟩
  have KLarge : Kn l.prog w K mg base _ _ _ _ := ⟨fLarge, _, ok_large FLarge T mkF' GInit bInit m_tuple KPick KTable KMade KRight KBan KSame, FLarge.kp, bLarge, mLarge⟩
  exact ok_law FLaw T mkF' GInit bInit m_tuple m_range m_int m_len KFlow KDraw KPick KTable KBan KLists KRight KChanged KEqual KBadT KBadB KMade KSame KLarge
theorem walk {l : PySem.W.OpenLaw} {q : Program} {loose : List Str} {XP : (Str → Option Value) → Heap → Prop} {YP : World → Heap → Prop} {d : DefRec} {K : Params → PySem.W.Frag} (hn : l.most = some 63) (hdf : d.params.defaults = [])
    (hY : ∀ (w : World) (h : Heap), YP w h → (K w.params).In h)
    (F : ∀ (w : World) (mg : Str → Option Value) (fa : Addr) (h : Heap), (K w.params).In h → h.Ns mainGlobals mg → mg d.name = some (.ref fa) →
      ∃ fd : FuncData, (∀ (s : Shared) (u : Value), BindsTo s fd ⟨[u], []⟩ [("script", u)]) ∧ ∀ base : Heap, (K w.params).In base → base.Ns mainGlobals mg → FnOk l.prog w (K w.params) mg base CX0 10 fa fd ["script"] (spLaw (K w.params))) :
    PySem.W.WalkO q loose XP YP l.row.toRowW d [] (fun f vs => PySem.call f vs) :=
  L2.walk_of (n := 63) (k := 10) (x := "script") (CX := fun _ => CX0) (sp := fun w => spLaw (K w.params)) hn (by decide) hdf ⟨rfl, by decide, by decide⟩ hY F (fun _ _ a ns hl _ hS => ⟨a, ns, rfl, hS, hl, fun _ => rfl⟩) fun _ _ _ _ _ z => z
end Q
set_option Elab.async false
open PySem PySem.W PyProof.Rows
set_option maxRecDepth 100000 in
set_option maxHeartbeats 0 in
theorem PySem.Challenge.cw_sayfill_k01_forms_holds : PySem.Challenge.rw_sayfill_k01_forms.Holds := by
  w_on; o_law; k_head; (case hw => w_witness2)
  k_fill
  refine Q.walk (l := PySem.Challenge.rw_sayfill_k01_forms) rfl rfl (fun w h Y => PySem.W.kIn_of Y) ?zz_F
  case zz_F =>
    intro w mg fa h KX G hmg
    refine' Q.all_mk KX G hmg ?zz_g0 ?zz_ini0 ?zz_ovr0 ?zz_tkn0 ?zz_sa0 ?zz_ga0 ?zz_gg0 ?zz_no0 ?zz_ic0 ?zz_tc0 ?zz_kc0 ?zz_ex0 ?zz_ty0 ?zz_hd0 ?zz_is0 ?zz_cc0 ?zz_mo0 ?zz_lc0 ?zz_cc0X ?zz_s00 ?zz_s01 ?zz_sB0 ?zz_g1 ?zz_ini1 ?zz_ovr1 ?zz_tkn1 ?zz_sa1 ?zz_ga1 ?zz_gg1 ?zz_no1 ?zz_ic1 ?zz_tc1 ?zz_kc1 ?zz_ex1 ?zz_ty1 ?zz_hd1 ?zz_is1 ?zz_cc1 ?zz_mo1 ?zz_lc1 ?zz_cc1X ?zz_s10 ?zz_s11 ?zz_sB1 ?zz_gB ?zz_exB ?zz_tyB ?zz_hdB ?zz_isB ?zz_sBB ?zz_spG ?zz_tkG ?zz_gF ?zz_pgF ?zz_hdF ?zz_poF ?zz_saF ?zz_nfF ?zz_nrF ?zz_ccF ?zz_moF ?zz_isF ?zz_tyF ?zz_sFF ?zz_mkF ?zz_kF ?zz_aInit ?zz_tInit ?zz_lInit ?zz_cInit ?zz_kInit ?zz_aFieldsM ?zz_tFieldsM ?zz_lFieldsM ?zz_cFieldsM ?zz_kFieldsM ?zz_aRulesM ?zz_tRulesM ?zz_lRulesM ?zz_cRulesM ?zz_kRulesM ?zz_aEqM ?zz_tEqM ?zz_lEqM ?zz_cEqM ?zz_kEqM ?zz_nNoneType ?zz_nbool ?zz_nint ?zz_nstr ?zz_nlist ?zz_ntuple ?zz_aIsRow ?zz_lIsRow ?zz_cIsRow ?zz_kIsRow ?zz_aIsPair ?zz_lIsPair ?zz_cIsPair ?zz_kIsPair ?zz_aIsSmall ?zz_lIsSmall ?zz_cIsSmall ?zz_kIsSmall ?zz_aIsWord ?zz_lIsWord ?zz_cIsWord ?zz_kIsWord ?zz_aUnlike ?zz_lUnlike ?zz_cUnlike ?zz_kUnlike ?zz_aAreFacts ?zz_lAreFacts ?zz_cAreFacts ?zz_kAreFacts ?zz_aInSeq ?zz_lInSeq ?zz_cInSeq ?zz_kInSeq ?zz_aAreFields ?zz_lAreFields ?zz_cAreFields ?zz_kAreFields ?zz_aAreValues ?zz_lAreValues ?zz_cAreValues ?zz_kAreValues ?zz_aAreRules ?zz_lAreRules ?zz_cAreRules ?zz_kAreRules ?zz_aWays ?zz_lWays ?zz_cWays ?zz_kWays ?zz_aEach ?zz_lEach ?zz_cEach ?zz_kEach ?zz_aFlow ?zz_lFlow ?zz_cFlow ?zz_kFlow ?zz_aLoad ?zz_lLoad ?zz_cLoad ?zz_kLoad ?zz_aDraw ?zz_lDraw ?zz_cDraw ?zz_kDraw ?zz_aPick ?zz_lPick ?zz_cPick ?zz_kPick ?zz_aSame ?zz_lSame ?zz_cSame ?zz_kSame ?zz_aLetter ?zz_lLetter ?zz_cLetter ?zz_kLetter ?zz_aName ?zz_lName ?zz_cName ?zz_kName ?zz_aNear ?zz_lNear ?zz_cNear ?zz_kNear ?zz_aWords ?zz_lWords ?zz_cWords ?zz_kWords ?zz_aTable ?zz_lTable ?zz_cTable ?zz_kTable ?zz_aBan ?zz_lBan ?zz_cBan ?zz_kBan ?zz_aSorted ?zz_lSorted ?zz_cSorted ?zz_kSorted ?zz_aMade ?zz_lMade ?zz_cMade ?zz_kMade ?zz_aTold ?zz_lTold ?zz_cTold ?zz_kTold ?zz_aRight ?zz_lRight ?zz_cRight ?zz_kRight ?zz_aLists ?zz_lLists ?zz_cLists ?zz_kLists ?zz_aChanged ?zz_lChanged ?zz_cChanged ?zz_kChanged ?zz_aBadT ?zz_lBadT ?zz_cBadT ?zz_kBadT ?zz_aBadB ?zz_lBadB ?zz_cBadB ?zz_kBadB ?zz_aEqual ?zz_lEqual ?zz_cEqual ?zz_kEqual ?zz_aLarge ?zz_lLarge ?zz_cLarge ?zz_kLarge ?zz_aLaw ?zz_lLaw ?zz_cLaw ?zz_kLaw ?zz_v_MOST_LETTERS ?zz_v_MOST_FIELDS ?zz_v_MOST_VALUES ?zz_v_MOST_RULES ?zz_v_MOST_PAIRS ?zz_v_MOST_FILLINGS ?zz_z_isinstance ?zz_z_list ?zz_z_tuple ?zz_z_str ?zz_z_len ?zz_z_all ?zz_z_set ?zz_z_dict ?zz_z_int ?zz_z_abs ?zz_z_max ?zz_z_range ?zz_z_bool ?zz_z_min
    (case zz_g0 => k_is)
    (case zz_g1 => k_is)
    (case zz_gB => k_is)
    (case zz_gF => k_is)
    (case zz_aIsRow => k_is)
    (case zz_aIsPair => k_is)
    (case zz_aIsSmall => k_is)
    (case zz_aIsWord => k_is)
    (case zz_aUnlike => k_is)
    (case zz_aAreFacts => k_is)
    (case zz_aInSeq => k_is)
    (case zz_aAreFields => k_is)
    (case zz_aAreValues => k_is)
    (case zz_aAreRules => k_is)
    (case zz_aWays => k_is)
    (case zz_aEach => k_is)
    (case zz_aFlow => k_is)
    (case zz_aLoad => k_is)
    (case zz_aDraw => k_is)
    (case zz_aPick => k_is)
    (case zz_aSame => k_is)
    (case zz_aLetter => k_is)
    (case zz_aName => k_is)
    (case zz_aNear => k_is)
    (case zz_aWords => k_is)
    (case zz_aTable => k_is)
    (case zz_aBan => k_is)
    (case zz_aSorted => k_is)
    (case zz_aMade => k_is)
    (case zz_aTold => k_is)
    (case zz_aRight => k_is)
    (case zz_aLists => k_is)
    (case zz_aChanged => k_is)
    (case zz_aBadT => k_is)
    (case zz_aBadB => k_is)
    (case zz_aEqual => k_is)
    (case zz_aLarge => k_is)
    (case zz_aLaw => k_is)
    (case zz_ini0 => first | kx_is | k_is)
    (case zz_ovr0 => first | kx_is | k_is)
    (case zz_tkn0 => k_is)
    (case zz_sa0 => k_is)
    (case zz_ga0 => k_is)
    (case zz_gg0 => k_is)
    (case zz_no0 => k_is)
    (case zz_ic0 => k_is)
    (case zz_tc0 => k_is)
    (case zz_kc0 => k_is)
    (case zz_ex0 => k_is)
    (case zz_ty0 => k_is)
    (case zz_hd0 => k_is)
    (case zz_is0 => k_is)
    (case zz_cc0 => k_is)
    (case zz_mo0 => k_is)
    (case zz_lc0 => k_is)
    (case zz_cc0X => k_is)
    (case zz_s00 => k_is)
    (case zz_s01 => k_is)
    (case zz_sB0 => k_is)
    (case zz_ini1 => first | kx_is | k_is)
    (case zz_ovr1 => first | kx_is | k_is)
    (case zz_tkn1 => k_is)
    (case zz_sa1 => k_is)
    (case zz_ga1 => k_is)
    (case zz_gg1 => k_is)
    (case zz_no1 => k_is)
    (case zz_ic1 => k_is)
    (case zz_tc1 => k_is)
    (case zz_kc1 => k_is)
    (case zz_ex1 => k_is)
    (case zz_ty1 => k_is)
    (case zz_hd1 => k_is)
    (case zz_is1 => k_is)
    (case zz_cc1 => k_is)
    (case zz_mo1 => k_is)
    (case zz_lc1 => k_is)
    (case zz_cc1X => k_is)
    (case zz_s10 => k_is)
    (case zz_s11 => k_is)
    (case zz_sB1 => k_is)
    (case zz_exB => k_is)
    (case zz_tyB => k_is)
    (case zz_hdB => k_is)
    (case zz_isB => k_is)
    (case zz_sBB => k_is)
    (case zz_spG => k_is)
    (case zz_tkG => k_is)
    (case zz_pgF => k_is)
    (case zz_hdF => k_is)
    (case zz_poF => k_is)
    (case zz_saF => k_is)
    (case zz_nfF => k_is)
    (case zz_nrF => k_is)
    (case zz_ccF => k_is)
    (case zz_moF => k_is)
    (case zz_isF => k_is)
    (case zz_tyF => k_is)
    (case zz_sFF => k_is)
    (case zz_mkF => k_is)
    (case zz_kF => k_is)
    (case zz_aInit => k_is)
    (case zz_tInit => k_is)
    (case zz_lInit => k_is)
    (case zz_cInit => k_is)
    (case zz_kInit => k_is)
    (case zz_aFieldsM => k_is)
    (case zz_tFieldsM => k_is)
    (case zz_lFieldsM => k_is)
    (case zz_cFieldsM => k_is)
    (case zz_kFieldsM => k_is)
    (case zz_aRulesM => k_is)
    (case zz_tRulesM => k_is)
    (case zz_lRulesM => k_is)
    (case zz_cRulesM => k_is)
    (case zz_kRulesM => k_is)
    (case zz_aEqM => k_is)
    (case zz_tEqM => k_is)
    (case zz_lEqM => k_is)
    (case zz_cEqM => k_is)
    (case zz_kEqM => k_is)
    (case zz_nNoneType => k_is)
    (case zz_nbool => k_is)
    (case zz_nint => k_is)
    (case zz_nstr => k_is)
    (case zz_nlist => k_is)
    (case zz_ntuple => k_is)
    (case zz_lIsRow => k_is)
    (case zz_cIsRow => k_is)
    (case zz_kIsRow => k_is)
    (case zz_lIsPair => k_is)
    (case zz_cIsPair => k_is)
    (case zz_kIsPair => k_is)
    (case zz_lIsSmall => k_is)
    (case zz_cIsSmall => k_is)
    (case zz_kIsSmall => k_is)
    (case zz_lIsWord => k_is)
    (case zz_cIsWord => k_is)
    (case zz_kIsWord => k_is)
    (case zz_lUnlike => k_is)
    (case zz_cUnlike => k_is)
    (case zz_kUnlike => k_is)
    (case zz_lAreFacts => k_is)
    (case zz_cAreFacts => k_is)
    (case zz_kAreFacts => k_is)
    (case zz_lInSeq => k_is)
    (case zz_cInSeq => k_is)
    (case zz_kInSeq => k_is)
    (case zz_lAreFields => k_is)
    (case zz_cAreFields => k_is)
    (case zz_kAreFields => k_is)
    (case zz_lAreValues => k_is)
    (case zz_cAreValues => k_is)
    (case zz_kAreValues => k_is)
    (case zz_lAreRules => k_is)
    (case zz_cAreRules => k_is)
    (case zz_kAreRules => k_is)
    (case zz_lWays => k_is)
    (case zz_cWays => k_is)
    (case zz_kWays => k_is)
    (case zz_lEach => k_is)
    (case zz_cEach => k_is)
    (case zz_kEach => k_is)
    (case zz_lFlow => k_is)
    (case zz_cFlow => k_is)
    (case zz_kFlow => k_is)
    (case zz_lLoad => k_is)
    (case zz_cLoad => k_is)
    (case zz_kLoad => k_is)
    (case zz_lDraw => k_is)
    (case zz_cDraw => k_is)
    (case zz_kDraw => k_is)
    (case zz_lPick => k_is)
    (case zz_cPick => k_is)
    (case zz_kPick => k_is)
    (case zz_lSame => k_is)
    (case zz_cSame => k_is)
    (case zz_kSame => k_is)
    (case zz_lLetter => k_is)
    (case zz_cLetter => k_is)
    (case zz_kLetter => k_is)
    (case zz_lName => k_is)
    (case zz_cName => k_is)
    (case zz_kName => k_is)
    (case zz_lNear => k_is)
    (case zz_cNear => k_is)
    (case zz_kNear => k_is)
    (case zz_lWords => k_is)
    (case zz_cWords => k_is)
    (case zz_kWords => k_is)
    (case zz_lTable => k_is)
    (case zz_cTable => k_is)
    (case zz_kTable => k_is)
    (case zz_lBan => k_is)
    (case zz_cBan => k_is)
    (case zz_kBan => k_is)
    (case zz_lSorted => k_is)
    (case zz_cSorted => k_is)
    (case zz_kSorted => k_is)
    (case zz_lMade => k_is)
    (case zz_cMade => k_is)
    (case zz_kMade => k_is)
    (case zz_lTold => k_is)
    (case zz_cTold => k_is)
    (case zz_kTold => k_is)
    (case zz_lRight => k_is)
    (case zz_cRight => k_is)
    (case zz_kRight => k_is)
    (case zz_lLists => k_is)
    (case zz_cLists => k_is)
    (case zz_kLists => k_is)
    (case zz_lChanged => k_is)
    (case zz_cChanged => k_is)
    (case zz_kChanged => k_is)
    (case zz_lBadT => k_is)
    (case zz_cBadT => k_is)
    (case zz_kBadT => k_is)
    (case zz_lBadB => k_is)
    (case zz_cBadB => k_is)
    (case zz_kBadB => k_is)
    (case zz_lEqual => k_is)
    (case zz_cEqual => k_is)
    (case zz_kEqual => k_is)
    (case zz_lLarge => k_is)
    (case zz_cLarge => k_is)
    (case zz_kLarge => k_is)
    (case zz_lLaw => k_is)
    (case zz_cLaw => k_is)
    (case zz_kLaw => k_is)
    (case zz_v_MOST_LETTERS => exact ⟨_, by k_is⟩)
    (case zz_v_MOST_FIELDS => exact ⟨_, by k_is⟩)
    (case zz_v_MOST_VALUES => exact ⟨_, by k_is⟩)
    (case zz_v_MOST_RULES => exact ⟨_, by k_is⟩)
    (case zz_v_MOST_PAIRS => exact ⟨_, by k_is⟩)
    (case zz_v_MOST_FILLINGS => exact ⟨_, by k_is⟩)
    (case zz_z_isinstance => k_is)
    (case zz_z_list => k_is)
    (case zz_z_tuple => k_is)
    (case zz_z_str => k_is)
    (case zz_z_len => k_is)
    (case zz_z_all => k_is)
    (case zz_z_set => k_is)
    (case zz_z_dict => k_is)
    (case zz_z_int => k_is)
    (case zz_z_abs => k_is)
    (case zz_z_max => k_is)
    (case zz_z_range => k_is)
    (case zz_z_bool => k_is)
    (case zz_z_min => k_is)
