import PyProof.Rows.All
import Wide.All
import OpenK.AllK
import Wide.FinOn
import HandS.ForExc
import HandS.TryMany
import HandS.ExcCtx
import HandS.Hot
import HandS.HotCalls
import HandS.ExcField
import HandS.ExcIs
import HandS.IsInst
import KE.KExcInit
import HandS.Comp
import HandS.Wide
import KE.KExcLine
import PySem.Challenge.RW_sayfill_k00_errors
set_option Elab.async false
set_option linter.all false
set_option maxRecDepth 100000
set_option maxHeartbeats 4000000
/-! Several except clauses, each with a name of its own; what is caught has no context, so that defs may be called in the suites. -/
namespace XT
open PySem PySem.Spec PyProof.Rows L2 L2N
/-- one clause: the class, the name's slot, the suite's reading -/
structure Cl where
  c : Value
  i : Nat
  ts : Addr → Value → Option Addr → TS
/-- the ends of a suite: behind it the name is gone -/
def offEnds (D : Ends) (i : Nat) : Ends :=
  ⟨fun σ H => D.nx (σ.set i none) H, D.rt, fun σ H => D.bk (σ.set i none) H, fun σ H => D.ct (σ.set i none) H⟩
def wCls (K : PySem.W.Frag) (Wout : WX) (D : Ends) : List Cl → WX
  | [] => Wout
  | q :: r => fun cls d σ H => ∃ yes, PySem.W.exmOne K cls q.c = some yes ∧
      (yes = true → ∀ a, H a = none → q.ts a cls d (offEnds D q.i) (σ.set q.i (some (.ref a))) H) ∧
      (yes = false → wCls K Wout D r cls d σ H)
inductive ClsOk (X : Cx) : List ExceptHandler → List Cl → Prop
  | nil : ClsOk X [] []
  | cons {x n : Str} {q : Cl} {b1 : Stmt} {more : List Stmt} {p1 p2 : Pos} {hs : List ExceptHandler} {l : List Cl}
      (hc : Names X x q.c) (hi : X.N[q.i]? = some n) (hl : X.env.kindOf n = some .local)
      (hsu : ∀ (a : Addr) (oe : Obj) (cls : Value) (d : Option Addr) (pn : List (Addr × Obj)), Zn cls d oe →
        (∃ vs, oe.data = .fields vs) → PSs (X.suite a ((a, oe) :: pn)) (b1 :: more) (q.ts a cls d)) (r : ClsOk X hs l) :
      ClsOk X (.ExceptHandler (some (.Name x p1)) (some n) (b1 :: more) p2 :: hs) (q :: l)
section
variable {X : Cx} {body : List Stmt} {hd1 : ExceptHandler} {hs1 : List ExceptHandler} {l : List Cl} {pos : Pos} {tb : WX → TS} {Wout : WX}
/-- what flies on from a clause list that did not take it -/
theorem flies {A : Around} {B : Heap} {env : Env} {outer : List Env} {a L : Addr} {Z : Obj → Prop} {s : Shared} {Q : Flow → Shared → Prop} {E : Value → Shared → Prop} {M : Model}
    (hf : env.frame = some L) (fl : HandSPX.FlyingZ B (env :: outer) a Z s.heap)
    (q : ∀ h, HandSPX.HeldZ B (env :: outer) a Z L h → s.heap.UpToSlots h → E (.ref a) { s with heap := h }) :
    wpAny M A (handleBy (.ref a) env []) Q E s := by
  refine wpAny_handleBy_nil ?_
  obtain ⟨_, _, _, oe, vs, T, oT, ts, he, hz, hd, h1, _⟩ := id fl
  have step : wpAny M A (setFlight (.ref a) env.frame) (fun _ s4 => wpAny M A (throw (.ref a) : Sem Flow) Q E s4) E s := by
    rw [hf]
    exact HandSPX.setFlight_upZ fl fun h hh up => wpAny_throw (q h hh up)
  unfold PySem.passOn
  refine wpAny_bind (wpAny_field he hd h1 ?_)
  rw [if_neg (show ¬ ((Value.ref T == Value.none) = true) by simp)]
  first
    | exact wpAny_bind (wpAny_pure (wpAny_bind step))
    | exact wpAny_bind step
theorem not_frame {B : Heap} {l : List Env} {h : Heap} {a : Addr} {o : Obj} {vs : Array Value} (ff : h.FunFrames B l)
    (e : h.get? a = some o) (dd : o.data = .fields vs) : a ∉ frs l := fun hm => by
  obtain ⟨_, u, hu, nf⟩ := ff.mem hm
  rw [hu] at e
  cases e
  exact nf _ dd
theorem ps_try_cls (hst : X.stack = X.env :: X.outer) (hf : X.env.frame = some X.env.locals) (hN : X.N.Nodup) (tk : L2N.Takes X Wout)
    (hb : ∀ (W : WX) (pn : List (Addr × Obj)) (xe : Value → Shared → Prop), L2N.Takes (X.tr pn xe) W →
      PassesOwn (model X.prog X.w) X.A X.env xe → PSs (X.tr pn xe) body (tb W))
    (hh : ClsOk X (hd1 :: hs1) l) : PS X (.Try body (hd1 :: hs1) [] [] pos) (fun D σ H => tb (wCls X.K Wout D l) D σ H) := by
  constructor
  intro pins s σ H D I h
  have ok := I.ok
  have frm : X.A.frames = some (X.env :: X.outer) := by
    rw [ok.frames, hst]
  refine wpAny_Try_except ?_
  have run := (hb (wCls X.K Wout D l) (X.pn ++ pins)
    (fun e s1 => wpAny (model X.prog X.w) X.A (noteFrame e X.env)
      (fun _ s2 => wpAny (model X.prog X.w) X.A (setFlight e none)
        (fun _ s3 => wpAny (model X.prog X.w) X.A (handleBy e X.env (hd1 :: hs1)) (SP X pins D) X.xe s3) X.xe s2) X.xe s1)
    ?takes PassesOwn.looking).run [] s σ H D (I.toTry _) h
  case takes =>
    intro u s1 air
    obtain ⟨a, B, sI, pins', σ1, H1, cls, d, rfl, J0, nb, up, sky, na, os, ag, w⟩ := air
    have J : Inv X pins σ1 H1 sI := J0.ofTry ok
    have sky1 : Sky B (X.env :: X.outer) a (Zn cls d) X.env.locals s1.heap := by
      rw [← hst]
      exact sky
    show wpAny (model X.prog X.w) X.A (noteFrame (.ref a) X.env) _ _ _
    refine L2N.Sky.land Zn.steady frm hf sky1 fun h3 fl up3 => ?_
    have J3 : Inv X pins σ1 H1 { s1 with heap := h3 } := J.landed nb fl.1 (up.trans up3) os ag
    obtain ⟨o3, v3, e3, z3, d3⟩ := fl.there
    have nfr := not_frame fl.2.2.1 e3 d3
    have nL : a ≠ X.env.locals := fun z =>
      nfr (List.mem_filterMap.mpr ⟨X.env, List.mem_cons_self, by rw [hf, z]⟩)
    have nF : a ∉ X.fs := fun hm => by
      obtain ⟨e, he, q⟩ := List.mem_filterMap.mp hm
      exact nfr (List.mem_filterMap.mpr ⟨e, List.mem_cons_of_mem _ he, q⟩)
    have S3 := J3.suite e3 d3 na nL nF
    have go : ∀ {hs2 : List ExceptHandler} {l2 : List Cl}, ClsOk X hs2 l2 → wCls X.K Wout D l2 cls d σ1 H1 →
        wpAny (model X.prog X.w) X.A (handleBy (.ref a) X.env hs2) (SP X pins D) X.xe { s1 with heap := h3 } := by
      intro hs2 l2 hk
      induction hk with
      | nil =>
        intro w
        refine flies (s := { s1 with heap := h3 }) hf fl fun h4 hh4 up4 => tk _ _ ?_
        exact ⟨a, B, sI, pins, σ1, H1, cls, d, rfl, J, nb, (up.trans up3).trans up4, .inr (.inr (by rw [hst]; exact hh4)), na, os, ag, w⟩
      | @cons x n q b1 more p1 p2 hs l hc hi hl hsu r ih =>
        intro w
        obtain ⟨yes, hx, hyes, hno⟩ := w
        refine wpAny_handleBy_cons (codeAny_handlers_test ?_) (by intro z; cases z)
        have LT : PySem.W.Looks (model X.prog X.w) h3 (typeOf (.ref a)) cls :=
          fun A Q E s k q => wpAny_typeOf_ref (k _ _ e3) (by rw [z3.1]; exact q)
        have LM := PySem.W.exm_one (M := model X.prog X.w) (J3.kIn) LT hx
        have test : ∀ {Q : Value → Shared → Prop} {E : Value → Shared → Prop}, Q q.c { s1 with heap := h3 } →
            wpAny (model X.prog X.w) (X.A.mark (some (.ref a))) (eval (.Name x p1) X.env) Q E { s1 with heap := h3 } := by
          intro Q E z
          obtain ⟨hg, hdb, hm | ⟨hm, hv, hnn⟩⟩ := hc
          · exact ld_glob (X := X.suite a ((a, o3) :: (X.pn ++ pins))) S3 hg hm z hdb
          · exact ld_blt (X := X.suite a ((a, o3) :: (X.pn ++ pins))) S3 hg hm hv z hnn hdb
        refine test (LM.here ?_)
        cases yes with
        | false =>
          show wpAny _ X.A (handleBy (.ref a) X.env hs) _ _ _
          exact ih (hno rfl)
        | true =>
          refine codeAny_handlers_suite_as ?_
          refine HandSPX.lands_againZ fl fun h4 fl4 up4 => ?_
          have J4 : Inv X pins σ1 H1 { s1 with heap := h4 } :=
            J.landed nb fl4.1 ((up.trans up3).trans up4) os ag
          obtain ⟨o4, v4, e4, z4, d4⟩ := fl4.there
          have S4 := J4.suite e4 d4 na nL nF
          refine store_ok (X := X.suite a ((a, o4) :: (X.pn ++ pins))) (v := .ref a) S4 hN hi (.inl hl) rfl (fun s5 S5 => ?_) (.inr hl)
          have fin : ∀ {s6 : Shared} {σ6 : L2.St} {H6 : Hp} {Q : Shared → Prop}, Inv (X.suite a ((a, o4) :: (X.pn ++ pins))) [] σ6 H6 s6 →
              (∀ s7, Inv X pins (σ6.set q.i none) H6 s7 → Q s7) →
              wpAny (model X.prog X.w) X.A (do bindName X.env n .none; unbindBehindTheSuite X.env n p2) (fun _ s7 => Q s7) X.xe s6 :=
            fun S6 hq => gone_ok (S6.unsuite ok) hN hi hl hq
          refine wpAny_mono ((hsu a o4 cls d (X.pn ++ pins) z4 ⟨_, d4⟩).run [] s5 _ H1 _ S5 (hyes rfl a na)) (fun f s6 hsp => ?_) (fun _ _ z => False.elim z)
          cases f with
          | ret u =>
            obtain ⟨v6, σ6, H6, S6, r6, q6⟩ := hsp
            exact fin S6 fun s7 J7 => ⟨_, _, _, J7, r6, q6⟩
          | next =>
            obtain ⟨σ6, H6, S6, q6⟩ := hsp
            exact fin S6 fun s7 J7 => ⟨_, _, J7, q6⟩
          | brk =>
            obtain ⟨σ6, H6, S6, q6⟩ := hsp
            exact fin S6 fun s7 J7 => ⟨_, _, J7, q6⟩
          | cont =>
            obtain ⟨σ6, H6, S6, q6⟩ := hsp
            exact fin S6 fun s7 J7 => ⟨_, _, J7, q6⟩
    exact go hh w
  refine wpAny_mono run (fun f s1 hsp => ?_) (fun e s1 he => he)
  cases f with
  | ret u =>
    obtain ⟨v, σ1, H1, J1, rv, q⟩ := hsp
    exact ⟨v, σ1, H1, J1.ofTry ok, rv, q⟩
  | next =>
    obtain ⟨σ1, H1, J1, q⟩ := hsp
    exact wpAny_execs_nil ⟨σ1, H1, J1.ofTry ok, q⟩
  | brk =>
    obtain ⟨σ1, H1, J1, q⟩ := hsp
    exact ⟨σ1, H1, J1.ofTry ok, q⟩
  | cont =>
    obtain ⟨σ1, H1, J1, q⟩ := hsp
    exact ⟨σ1, H1, J1.ofTry ok, q⟩
end
end XT

set_option Elab.async false
set_option linter.all false
set_option maxRecDepth 100000
set_option maxHeartbeats 4000000
/-! Own error classes over Exception with «def __init__(self, f): self.f = f», f one of three names: made and raised. -/
namespace XM
open PySem PySem.W PySem.Calls PyProof.Rows PySem.HandSPX
abbrev exTail : List Value := [.type "Exception", .type "BaseException", .type "object"]
def eArgs (f : Str) (p1 p2 : Pos) : Arguments :=
  { posonlyargs := [], args := [⟨"self", none, p1⟩, ⟨f, none, p2⟩], vararg := none, kwonlyargs := [], kw_defaults := [], kwarg := none, defaults := [] }
def eBody (f : Str) (q1 q2 q3 q4 : Pos) : List Stmt := [.Assign [.Attribute (.Name "self" q1) f q2] (.Name f q3) q4]
def eScope (f : Str) : Scope := ⟨.function, [(PySem.Str.ofString "self", .local), (f, .local)], false, false, []⟩
def Fld (f : Str) : Prop := f = PySem.Str.ofString "at" ∨ f = PySem.Str.ofString "name" ∨ f = PySem.Str.ofString "word"
/-- what the written part says of the class at C, its __init__ at fI, its field f -/
structure XcT (K : Frag) (C fI : Addr) (f qual : Str) : Prop where
  fld : Fld f
  ini : excInitIn K C exTail "Exception.__new__" = true
  ovr : excOver K C exTail = true
  tkn : takerIn K C f = some none
  sa : findIn K (.ref C) "__setattr__" = some (some (.builtin "object.__setattr__"))
  ga : findIn K (.ref C) "__getattribute__" = some (some (.builtin "BaseException.__getattribute__"))
  gg : findIn K (.ref C) "__getattr__" = some none
  noN : findIn K (.ref C) f = some none
  iC : findIn K (.ref C) "__init__" = some (some (.ref fI))
  tC : typeIn K (.ref fI) = some (.type "function")
  kC : keepIn K (.ref C) = true
  exC : subIn K (.ref C) (.type "BaseException") = some true
  tyC : typeIn K (.ref C) = some (.type "type")
  hdC : hasDictIn K C = true
  fn : ∃ (oc : Value) (od : Option Addr) (doc pm : Value) (an : Option Addr) (cdv ct : Value) (osl : Array (Option Value)) (p1 p2 q1 q2 q3 q4 : Pos),
    K.lookup fI = some ⟨oc, od, .func (fnOf "__init__" qual (eArgs f p1 p2) (eBody f q1 q2 q3 q4) (eScope f) .none .none doc pm an cdv ct), osl⟩ ∧ codeIn K cdv qual = true
theorem len1 (v : Value) : [v].length ≤ sizeLine := by
  rw [sizeLine_eq]
  exact (by decide : 1 ≤ 16777216)
theorem loaded {M : Model} {s : Shared} {nm : Str} {sc : Scope} {L a : Addr} {cd : Value} {m : Str → Option Value} {x : Str} {pos : Pos} {v : Value}
    {Q : Value → Shared → Prop} {A : Around} {E : Value → Shared → Prop} (hn : s.heap.Ns L m) (hv : m x = some v) (h : Q v s)
    (hk : sc.kind = .function) (hl : (envOfC nm sc L a cd).kindOf x = some .local) (hd : (x == ("__debug__" : Str)) = false) :
    wpAny M A (eval (.Name x pos) (envOfC nm sc L a cd)) Q E s := wpAny_Name (wpAny_loadName_local hk hl hn hv h) hd
/-- behind __init__: the object has its dict at dx, which holds the field -/
structure Inited (h h' : Heap) (x C dx t1 : Addr) (f : Str) (v : Value) : Prop where
  keep : ∀ b o, b ≠ x → h.get? b = some o → h'.get? b = some o
  obj : h'.get? x = some { cls := .ref C, dict := some dx, data := .fields #[.ref t1, .none, .none, .none, .bool false, .none] }
  dbig : h.objs.size ≤ dx
  dne : dx ≠ x
  ns : h'.Ns1 dx (fun y => if y = f then some v else none)
structure Made (h h' : Heap) (e C d : Addr) (f : Str) (v : Value) : Prop where
  keep : ∀ b o, h.get? b = some o → h'.get? b = some o
  new : h.objs.size ≤ e
  obj : ∃ t, h'.get? e = some { cls := .ref C, dict := some d, data := .fields #[.ref t, .none, .none, .none, .bool false, .none] }
  dbig : h.objs.size ≤ d
  dne : d ≠ e
  ns : h'.Ns1 d (fun y => if y = f then some v else none)
section
open Builtin Builtin.ObjectAttr
variable {prog : Program} {w : World} {A : Around} {E : Value → Shared → Prop} {R : Result → Shared → Prop} {K : Frag} {C fI : Addr} {f qual : Str}
/-- the first field of such an error -/
theorem first_field {hp : Heap} {g : Array GenState} {dr : Drawn} {t : Nat} {os : OsState} {tk : Tok} {v : Value} {x : Addr} {fv : Array Value}
    (X : K.In hp) (hx : hp.get? x = some { cls := .ref C, data := .fields fv }) (hov : excOver K C exTail = true) (hh : hasDictIn K C = true) (ht : takerIn K C f = some none)
    (hq : ∀ h' tk' dx, (∀ b o, b ≠ x → hp.get? b = some o → h'.get? b = some o) → hp.objs.size ≤ dx → dx ≠ x →
      h'.get? x = some { cls := .ref C, dict := some dx, data := .fields fv } → h'.Ns1 dx (fun y => if y = f then some v else none) → R (.ok (.ret .none)) ⟨h', g, dr, tk', os⟩) :
    codeAny (model prog w) A (.call (.builtin "object.__setattr__") ⟨[.ref x, .str f tk, v], []⟩) R ⟨hp, g, dr, t, os⟩ := by
  have I : W.InstAt hp x { cls := .ref C, data := .fields fv } C none := ⟨hx, rfl, rfl, trivial⟩
  obtain ⟨cd, hcd, hd⟩ := any_some hh
  have hcls : W.Looks (model prog w) hp (classData C) cd := W.looks_clsIn X hcd
  have lt : x < hp.objs.size := Heap.lt_size hx
  have hxs : x ≠ hp.objs.size := Nat.ne_of_lt lt
  refine osa_openX (s := ⟨hp, g, dr, t, os⟩) F.store_Exception X I hov ht fun b => ?_
  show wpAny _ _ (storeInOwnDict (.ref x) (.ref C) (.str f tk) f v b) _ _ _
  obtain ⟨nm, bs, mro, ns, qn, hd0, sn, sb, ab, col, del⟩ := cd
  have hd1 : hd0 = true := hd
  subst hd1
  unfold storeInOwnDict ownDictForStores
  repeat (first | with_reducible refine store_in_new ?_ ?_ | with_reducible refine wpAny_loadPart_at hx ?_ | with_reducible refine hcls.at ?_ | wp_step)
  · exact ⟨_, #[], _, (Heap.get?_update_ne _ _ _ _ hxs.symm).trans (Heap.get?_push_at rfl rfl), rfl, (fun e he => absurd he (by simp)), fun _ => rfl⟩
  · intro h' tk' hn' same
    have hx1 : (hp.push { cls := .type "dict", data := .dict #[] }).get? x = some { cls := .ref C, data := .fields fv } :=
      Heap.get?_push_of_some _ hx
    refine hq h' tk' hp.objs.size (fun b o hb ho => ?_) (Nat.le_refl _) hxs.symm ?_ hn'
    · have nb : b ≠ hp.objs.size := Nat.ne_of_lt (Heap.lt_size ho)
      exact (same.2 b nb).trans ((Heap.get?_update_ne _ _ _ _ hb).trans (Heap.get?_push_of_some _ ho))
    · exact (same.2 x hxs).trans (Heap.get?_update_self _ hx1 rfl)
theorem xinit (T : XcT K C fI f qual) {s : Shared} {x t0 : Addr} {v : Value} (X : K.In s.heap) (hlim : s.heap.NoLimit)
    (hx : s.heap.get? x = some (excO C t0)) (hroom : A.depth < recursionLimit)
    (hq : ∀ h' tk dx, Inited s.heap h' x C dx t0 f v → R (.ok (.ret .none)) { s with heap := h', toks := tk }) :
    codeAny (model prog w) A (.call (.ref fI) ⟨[.ref x, v], []⟩) R s := by
  obtain ⟨oc, od, doc, pm, an, cdv, ct, osl, p1, p2, q1, q2, q3, q4, ho, hcd⟩ := T.fn
  have hsa := T.sa
  have hov := T.ovr
  have hdc := T.hdC
  have htk := T.tkn
  rcases T.fld with rfl | rfl | rfl <;>
  · refine Att.call_fn (binds := [("self", .ref x), (_, v)]) X hlim ho hcd hroom (BindsTo.of_eq (by first | rfl | with_unfolding_all rfl)) (by first | rfl | decide | with_unfolding_all rfl) (fun s1 IC => ?_) rfl rfl rfl
    obtain ⟨h1, tk1, rfl⟩ := IC.toInCall.same
    have k : ∀ b o, s.heap.get? b = some o → h1.get? b = some o := IC.toInCall.keep
    have hn := IC.toInCall.ns
    have X1 : K.In h1 := X.keeps k
    have hx1 := k _ _ hx
    have big : s.heap.objs.size < h1.objs.size := hn.lt
    show wpAny _ _ (execs _ _) _ _ _
    refine wpAny_execs_cons (plainObj_wpAny_Assign_Attribute ?_)
    refine loaded (v := v) hn (by first | rfl | with_unfolding_all rfl | kernel_rfl) (loaded (v := .ref x) hn (by first | rfl | with_unfolding_all rfl | kernel_rfl) ?_ rfl rfl (by decide)) rfl rfl (by decide)
    refine set_plain X1 (ox := excO C t0) (od := none) ⟨hx1, rfl, rfl, trivial⟩ hsa ?_
    refine first_field X1 hx1 hov hdc htk (fun h3 tk3 dx k3 dn dne hx3 hn3 => ?_)
    show wpAny _ _ (execs _ _) _ _ _
    exact wpAny_execs_nil (hq h3 tk3 dx ⟨fun b o hb e => k3 b o hb (k b o e), hx3, Nat.le_of_lt (Nat.lt_of_lt_of_le big dn), dne, hn3⟩)
theorem xmade (T : XcT K C fI f qual) {s : Shared} {v : Value} (X : K.In s.heap) (hlim : s.heap.NoLimit) (hroom : A.depth + 1 < recursionLimit)
    (hq : ∀ h' tk e d, Made s.heap h' e C d f v → R (.ok (.ret (.ref e))) { s with heap := h', toks := tk }) :
    codeAny (model prog w) A (.call (.ref C) ⟨[v], []⟩) R s := by
  obtain ⟨nm, N, qn, bs, bm, hdct, sn, sub, ab, col, dd, k0, k1, k2, k3, k5, hC, hbm⟩ := excInit_of X T.ini
  obtain ⟨hp, g, dr, tk, os⟩ := s
  have k : ∀ b o, hp.get? b = some o → ((hp.push (kdv_tup [v])).push (excO C hp.objs.size)).get? b = some o :=
    fun b o e => Heap.get?_push_of_some _ (Heap.get?_push_of_some _ e)
  have hget : ((hp.push (kdv_tup [v])).push (excO C hp.objs.size)).get? (hp.objs.size + 1) = some (excO C hp.objs.size) := by
    heap_get
  refine call_own F.excBase_Exception hbm hC (looks_findIn X T.iC) (fun self => bind_fn X self T.tC) (len1 v) ?_
  have room1 : (A.under (.builtin "type.__call__" ⟨.ref C :: [v], []⟩)).depth < recursionLimit := hroom
  refine xinit (s := ⟨(hp.push (kdv_tup [v])).push (excO C hp.objs.size), g, dr, tk, os⟩) T (X.keeps k) (hlim.keeps k) hget room1 fun h' tk' dx Z => ?_
  have old : ∀ b o, hp.get? b = some o → h'.get? b = some o := fun b o e =>
    Z.keep b o (Nat.ne_of_lt (Nat.lt_succ_of_lt (Heap.lt_size e))) (k b o e)
  have z : hp.objs.size + 1 + 1 ≤ dx := by
    have q := Z.dbig
    first
      | (simpa only [Heap.size_push] using q)
      | exact q
      | (rw [Heap.size_push, Heap.size_push] at q; exact q)
  exact ⟨rfl, hq h' tk' (hp.objs.size + 1) dx ⟨old, Nat.le_succ _, ⟨_, Z.obj⟩, Nat.le_trans (Nat.le_trans (Nat.le_succ _) (Nat.le_succ _)) z, Z.dne, Z.ns⟩⟩
end
end XM
namespace XM
open PySem PySem.Spec PyProof.Rows L2
theorem relOne {v : V} {u : Value} (r : RelV v u) (f g : Str) : RelO (List.lookup g [(f, v)]) (if g = f then some u else none) := by
  by_cases h : g = f
  · subst h
    rw [if_pos rfl]
    have e : List.lookup g [(g, v)] = some v := by simp [List.lookup]
    rw [e]
    exact r
  · rw [if_neg h]
    have q : (g == f) = false := by simpa using h
    have e : List.lookup g [(f, v)] = none := by simp [List.lookup, q]
    rw [e]
    trivial
/-- C(e): the error's own dict is new and holds the field -/
def tMk (C : Addr) (f : Str) (ta : TA) : L2.St → Hp → XK → Prop := fun σ H Q =>
  ta σ H fun vs H1 => ∃ v, vs = [v] ∧ ∀ d, H1 d = none → Q (.ref C) (some d) (upd H1 d (.xd [(f, v)]))
theorem pmk {X : Cx} {C fI : Addr} {f qual x : Str} {a : Expr} {ta : TA} {p pos : Pos} {k : Nat} (T : XcT X.K C fI f qual) (hm : X.mg x = some (.ref C)) (hr : Room k X.A) (ha : PA X [a] ta)
    (hg : Gl X x := by rfl) (hdb : (x == ("__debug__" : Str)) = false := by decide)
    (he : starEach (a :: []) X.env = (false, eval a X.env) :: starEach [] X.env := by rfl) (hpl : (backTo pos (starEach [] X.env)).any (·.1) = false := by rfl) :
    L2N.PMk X (.Call (.Name x p) [a] [] pos) (tMk C f ta) := by
  intro pins s σ H Q I h
  refine wpAny_Call_Name_kw (ld_glob I hg hm ?_ hdb)
  refine PySem.W.callWith_K (h₀ := X.base) I.ok.mod.kin T.kC (thn (ha.run pos pins s σ H _ I h) fun us s1 hh => ?_) he hpl
  obtain ⟨vs, H1, I1, r1, v, rfl, q1⟩ := hh
  refine ⟨I1.kIn, ?_⟩
  cases r1 with
  | cons rv rn =>
    rename_i u us1
    cases rn
    have hlim := I1.nolimit
    show wpAny _ _ (call (.ref C) [u]) _ _ _
    obtain ⟨hp, g, dr, tk, os⟩ := s1
    have room : X.A.depth + 1 < recursionLimit := by
      have := hr.dp
      omega
    refine wpAny_call (xmade T I1.kIn hlim room fun h' tk' e d M => ?_)
    show L2N.MkP X pins σ Q (.ref e) ⟨h', g, dr, tk', os⟩
    obtain ⟨t, hoe⟩ := M.obj
    have hns := M.ns
    obtain ⟨G, g1, g2⟩ := restrict h' fun b => decide (b ≠ e)
    have gk : ∀ b, b ≠ e → G.get? b = h'.get? b := fun b hb => g1 b (decide_eq_true hb)
    have ge : G.get? e = none := g2 e (by simp)
    have old : ∀ b o, hp.get? b = some o → G.get? b = some o := fun b o q =>
      (gk b (Nat.ne_of_lt (Nat.lt_of_lt_of_le (Heap.lt_size q) M.new))).trans (M.keep b o q)
    have ob : ObjOk X.prog X.w (upd H1 d (.xd [(f, v)])) G d (.xd [(f, v)]) :=
      ⟨_, hns.at (fun o q => (gk d M.dne).trans q), fun y => relOne rv f y⟩
    have J : Inv X pins σ (upd H1 d (.xd [(f, v)])) ⟨G, g, dr, tk', os⟩ := I1.laid (t' := tk') old M.dbig ob
    refine ⟨e, _, _, ⟨G, g, dr, tk', os⟩, _, .ref C, some d, rfl, J, fun b o q => ?_, ge, hoe, ⟨rfl, rfl, fun ws ew => by cases ew; rfl⟩, rfl, rfl, ?_, rfl, I1.bare, raises_own T.exC T.tyC, q1 d (I1.hok.fresh M.dbig)⟩
    · by_cases hb : b = e
      · have q2 : G.get? b = some o := q
        rw [hb, ge] at q2
        cases q2
      · exact (gk b hb).symm.trans q
    · rw [upd_ne (Ne.symm M.dne)]
      exact I1.hok.fresh M.new
end XM

set_option Elab.async false
set_option linter.all false
set_option maxRecDepth 100000
set_option maxHeartbeats 4000000
/-! Within an except suite: isinstance of what was caught (it has its own dict); all(..) of a list of truths; a list comprehension over a range. -/
namespace XH
open PySem PySem.Spec PySem.W PySem.Calls PyProof.Rows
section
variable {prog : Program} {w : World} {A : Around} {E : Value → Shared → Prop} {s : Shared} {K : Frag} {x D : Addr} {ox : Obj} {od : Option Obj}
/-- what the class says, so that isinstance asks its instances rightly -/
structure ClsQ (K : Frag) (D : Addr) : Prop where
  hg : findIn K (.ref D) "__getattribute__" = some (some (.builtin "BaseException.__getattribute__"))
  hk : findIn K (.ref D) "__getattr__" = some none
  hs : subIn K (.ref D) (.type "BaseException") = some true
  hd : hasDictIn K D = true
  ha : findIn K (.ref D) "__class__" = some (some (.builtin "object.__class__"))
  hn : specialIn K (.builtin "object.__class__") "__get__" = some (some (.builtin "getset_descriptor.__get__"))
  ht : takesIn K (.builtin "object.__class__") = some true
  hm : mroIn K D (.type "object") = some true
theorem class_found (T : ClsQ K D) : findObj K D od "__class__" = some (.bind (.builtin "getset_descriptor.__get__") (.builtin "object.__class__")) := by
  obtain ⟨cd, hc, _⟩ := any_some T.hd
  have h1 := T.hn
  have h2 := T.ht
  unfold findObj
  rw [hc, Option.bind_some, T.ha, Option.bind_some]
  simp [h1, h2]
theorem asked_class (T : ClsQ K D) {Q : Option Value → Shared → Prop} (X : K.In s.heap) (I : InstAt s.heap x ox D od)
    (h : Q (some (.ref D)) { s with toks := s.toks + 1 }) : wpAny (model prog w) A (getAttr? (.ref x) "__class__") Q E s := by
  have hf := class_found (od := od) T
  obtain ⟨hp, g, d, t, os⟩ := s
  have ty := I.type (M := model prog w)
  have l1 := looks_findIn (M := model prog w) X T.hg
  have l2 := looks_findIn (M := model prog w) X T.hk
  have l3 := looks_find (M := model prog w) X I hf
  have sub : Looks (model prog w) hp (isInstance (.ref x) (.type "BaseException")) true := ty.andThen (looks_subIn X T.hs)
  have no0 : (false && onTheHeap (Value.builtin "BaseException.__getattribute__")) = false := rfl
  have no2 : (Value.builtin "BaseException.__getattribute__" == Value.builtin "object.__getattribute__") = false := by
    decide +kernel
  have no1 : (onTheHeap (Value.ref D) && Value.builtin "BaseException.__getattribute__" == Value.builtin "object.__getattribute__") = false := by
    rw [no2]
    rfl
  unfold getAttr? getAttrBy? getAttrBy
  refine wpAny_bind (wpAny_mkText (wpAny_bind (wpAny_attempt (wpAny_holding (wpAny_bind (ty.at (wpAny_bind (l1.at ?_))))))))
  show wpAny _ _ (if (onTheHeap (Value.ref D) && Value.builtin "BaseException.__getattribute__" == Value.builtin "object.__getattribute__") = true then _ else _) _ _ _
  rw [no1, if_neg Bool.false_ne_true]
  unfold getAttrByItsOwn hookBefore
  refine wpAny_bind ?_
  rw [if_pos (show onTheHeap (Value.ref D) = true from rfl)]
  refine l2.at ?_
  refine wpAny_bind (wpAny_attempt (wpAny_holding ?_))
  unfold callGetattribute
  rw [no0, if_neg Bool.false_ne_true]
  unfold boundAndCalled
  rw [PySem.F.excAttr_ValueError.ga.bind (.ref x)]
  refine wpAny_bind (wpAny_pure ?_)
  show wpAny _ _ (call (.builtin "BaseException.__getattribute__") [.ref x, .str "__class__" t]) _ _ _
  refine wpAny_call (codeAny_call_builtin PySem.F.excAttr_ValueError.ga.plain PySem.F.entry_bexc_ga ?_)
  refine @check_slot (model prog w) _ _ ⟨hp, g, d, t + 1, os⟩ "BaseException.__getattribute__" "BaseException" "__getattribute__" (.ref x) [.str "__class__" t] [] _ (by decide +kernel) (by decide +kernel) sub (PySem.F.args_bexc_ga (.ref x) (.str "__class__" t)) ?_
  unfold Builtin.«object.__getattribute__»
  refine wpAny_bind (wpAny_of_eq (a := ((Value.ref x : Value), [Value.str "__class__" t])) (by first | rfl | (simp only [slotArgs]; rfl)) ?_)
  refine wpAny_bind (wpAny_pure (wpAny_bind (ty.at (wpAny_bind (l3.at ?_)))))
  show wpAny _ _ (holding [Value.builtin "object.__class__"] (call (.builtin "getset_descriptor.__get__") [.builtin "object.__class__", .ref x, .ref D]) >>= ret) _ _ _
  refine wpAny_bind (wpAny_holding (wpAny_call (class_get (s := ⟨hp, g, d, t + 1, os⟩) (ox := ox) (od := od) X I T.hm ?_)))
  refine wpAny_pure ?_
  show wpAny _ _ (handedOut (.ref D)) _ _ _
  rw [handedOut_of (v := .ref D) rfl]
  first
    | exact wpAny_pure (wpAny_pure h)
    | exact wpAny_pure h
    | exact wpAny_pure (wpAny_bind (wpAny_pure (wpAny_pure h)))
theorem kit_err (T : ClsQ K D) : KitX K (.ref x) (.ref D) (fun h => ∃ ox od, InstAt h x ox D od) where
  ty := fun _ _ _ ⟨_, _, I⟩ => I.type
  it := fun _ _ X _ => by
    obtain ⟨cd, hc, _⟩ := any_some T.hd
    unfold clsIn at hc
    split at hc
    · rename_i c' d' cd' sl' ho
      intro A' Q' E' s' k q
      unfold isType loadHead
      exact wpAny_bind (wpAny_loadPart (k _ _ (X _ _ ho)) (wpAny_pure q))
    · cases hc
  ne := fun h tp dd its n sl X htp => by
    obtain ⟨cd, hc, _⟩ := any_some T.hd
    refine Bool.eq_false_iff.mpr fun q => ?_
    have e : D = tp := Value.ref.inj (beq_iff_eq.mp q)
    subst e
    unfold clsIn at hc
    split at hc
    · rename_i c' d' cd' sl' ho
      have z := (X _ _ ho).symm.trans htp
      cases z
    · cases hc
  ca := fun X I k => by
    obtain ⟨ox, od, I⟩ := I
    exact asked_class T X I k
end
end XH
namespace XH
open PySem PySem.Spec PyProof.Rows L2
/-- isinstance(e, c): e what the suite holds, c one class -/
def rIs1 (K : PySem.W.Frag) (D a : Addr) : List V → Hp → VK → Prop := fun xs H Q =>
  ∃ (c : V) (cv : Value) (b : Bool), xs = [.ref a, c] ∧ ClsV c cv ∧ PySem.W.kitOne K (.ref D) cv = some b ∧ Q (.bl b) H
/-- isinstance(e, (c1, ..)): the tuple just laid -/
def rIsN (K : PySem.W.Frag) (D a : Addr) : List V → Hp → VK → Prop := fun xs H Q =>
  ∃ (tp : Addr) (cs : List V) (us : List Value) (b : Bool), xs = [.ref a, .ref tp] ∧ H tp = some (.tup cs) ∧ Paired ClsV cs us ∧ PySem.W.kitAny K (.ref D) us = some b ∧ Q (.bl b) H
section
variable {X : Cx} {a D dx : Addr} {oe : Obj} {pn : List (Addr × Obj)} {fs : List (Str × V)} {cls : Value} {d : Option Addr}
theorem held_inst {pins : List (Addr × Obj)} {σ : L2.St} {H : Hp} {s : Shared} (I : Inv (X.suite a ((a, oe) :: pn)) pins σ H s)
    (hz : Zc (.ref D) (some dx) oe) (hf : ∃ vs, oe.data = .fields vs) (hd : H dx = some (.xd fs)) : ∃ ox od, PySem.W.InstAt s.heap a ox D od := by
  obtain ⟨hget, _⟩ := I.pin (a, oe) (List.mem_append.mpr (.inl List.mem_cons_self))
  have hx : ObjOk X.prog X.w H s.heap dx (.xd fs) := I.hok dx _ hd
  obtain ⟨mA, hns, _⟩ := hx
  obtain ⟨o1, ho, _⟩ := lookIn_ns hns
  obtain ⟨vs, hv⟩ := hf
  exact ⟨oe, some o1, hget, hz.1, by unfold PySem.W.notCls; rw [hv] <;> rfl, by rw [hz.2]; exact ho⟩
/-- the class of what is held, its dict -/
def Held (K : PySem.W.Frag) (cls : Value) (d : Option Addr) (D : Addr) (H : Hp) : Prop :=
  cls = .ref D ∧ ClsQ K D ∧ ∃ dx fs, d = some dx ∧ H dx = some (.xd fs)
theorem call_is1 (hz : Zc cls d oe) (hf : ∃ vs, oe.data = .fields vs) :
    CallR (X.suite a ((a, oe) :: pn)) (.builtin "isinstance") (fun xs H Q => ∃ D, Held X.K cls d D H ∧ rIs1 X.K D a xs H Q) := by
  intro pins s σ H xs us Q I r h
  obtain ⟨D, ⟨rfl, T, dx, fs, rfl, hd⟩, c, cv, b, rfl, hc, e, q⟩ := h
  obtain ⟨u1, u2, rfl, r1, r2⟩ := vals2 r
  have ec := hc.eq r2
  subst ec
  cases (show u1 = Value.ref a from r1)
  exact PySem.W.kia_one (kit_err T) I.kIn (held_inst I hz hf hd) e (fun z => nomatch z) fun tk => ⟨.bl b, H, I.tok tk, rfl, q⟩
theorem call_isN (hz : Zc cls d oe) (hf : ∃ vs, oe.data = .fields vs) :
    CallR (X.suite a ((a, oe) :: pn)) (.builtin "isinstance") (fun xs H Q => ∃ D, Held X.K cls d D H ∧ rIsN X.K D a xs H Q) := by
  intro pins s σ H xs us Q I r h
  obtain ⟨D, ⟨rfl, T, dx, fs, rfl, hd⟩, tp, cs, ws, b, rfl, hT, hc, e, q⟩ := h
  obtain ⟨u1, u2, rfl, r1, r2⟩ := vals2 r
  cases (show u1 = Value.ref a from r1)
  cases (show u2 = Value.ref tp from r2)
  obtain ⟨_, its, rv, o, h1, h2, n, h3⟩ := (show ObjOk X.prog X.w H s.heap tp (.tup cs) from I.hok tp _ hT)
  have e3 := ClsV.all hc rv
  subst e3
  have ht : s.heap.get? tp = some ⟨.type "tuple", o.dict, .seq its.toArray n, o.slots⟩ := by
    rw [h1]
    obtain ⟨oc, od, oda, osl⟩ := o
    cases h2
    cases h3
    rfl
  exact PySem.W.kia_tup (kit_err T) I.kIn (held_inst I hz hf hd) ht e (fun z => nomatch z) fun tk => ⟨.bl b, H, I.tok tk, rfl, q⟩
end
end XH
namespace XH
open PySem PySem.Spec PyProof.Rows L2 HotX L2H
section
variable {prog : Program} {w : World} {A : Around} {E : Value → Shared → Prop} {s : Shared}
/-- the end of a list's iterator while an exception is handled: the StopIteration has it as its context, and is dropped -/
theorem list_end_hot {it l x1 : Addr} {i : Nat} {items : Array Value} {Q : Option Value → Shared → Prop} (hot : HotAt A x1 s.heap) (nx : x1 ≠ it)
    (hit : s.heap.IsListIter it l i) (hl : s.heap.IsList l items) (hx : items[i]? = none)
    (hQ : ∀ h', Heap.ExtBut it s.heap h' → Q none { s with heap := h' }) : wpAny (model prog w) A (pyNext (.ref it)) Q E s := by
  obtain ⟨o, ho, hc, hd⟩ := id hit
  obtain ⟨ol, hol, _, nl, hdl⟩ := hl
  obtain ⟨hh, o1, vs1, g1, d1, c1⟩ := hot
  unfold pyNext
  refine wpAny_bind (wpAny_attempt (wpAny_callSpecial?_slot (name := Str.ofString "__next__") hit.typeIs slot_listiter_next
    (wpAny_call_entry slot_listiter_next hit.typeIs entry_listiter_next ?_ (args_listiter_next _))))
  show wpAny _ _ (field (.ref it) 0 >>= _) _ _ s
  refine wpAny_bind (wpAny_field ho hd (x := .ref l) rfl ?_)
  show wpAny _ _ (if (Value.ref l == Value.none) = true then _ else _) _ _ s
  rw [if_neg (show ¬ ((Value.ref l == Value.none) = true) from Bool.false_ne_true)]
  show wpAny _ _ (field (.ref it) 1 >>= _) _ _ s
  refine wpAny_bind (wpAny_field ho hd (x := .int i 0) rfl ?_)
  show wpAny _ _ (seqItems? (.ref l) >>= _) _ _ s
  refine wpAny_bind (wpAny_seqItems hol hdl ?_)
  simp only [Int.toNat_natCast, hx]
  refine wpAny_bind (wpAny_rule (wpAny_bind (wpAny_setField ho hd (by simp) ?_)))
  show wpAny _ _ (newExc (.type "StopIteration") [] >>= _) _ _ _
  refine wpAny_bind ?_
  simp only [newExc, newTuple]
  refine wpAny_bind (wpAny_newObj_type ?_ (by size_fits))
  refine wpAny_bind (m := firstArgMember _ _) (wpAny_of_eq (a := Value.none) (by first | rfl | (simp only [firstArgMember]; rfl)) ?_)
  refine wpAny_newObj_type ?_ (by size_fits)
  have up : ∀ (f : Array Value → Array Value), (s.heap.update it (Obj.mapFields f)).get? x1 = some o1 := fun f =>
    (Heap.get?_update_other _ _ (Ne.symm nx)).trans g1
  refine raiseNew_hot ⟨hh, o1, vs1, Heap.get?_push_of_some _ (Heap.get?_push_of_some _ (up _)), d1, c1⟩
    (Nat.ne_of_lt (Heap.lt_size (Heap.get?_push_of_some _ (up _)))) (Heap.get?_push_size _ rfl) rfl
    (by first | (simp; done) | (simp; omega) | (simp only [Array.size_append]; simp; omega)) ?_
  refine wpAny_bind (wpAny_isInstance (T := "StopIteration") (b := true) ⟨_, Heap.get?_update_self _ (Heap.get?_push_size _ rfl) rfl, rfl⟩ isSubtype_stop ?_)
  refine wpAny_pure (hQ _ ?_)
  have base := ((Heap.SameBut.update (h := s.heap) it (Obj.mapFields fun vs => vs.setIfInBounds 0 Value.none)).extBut)
  intro b ob nb e
  have lt : b < s.heap.objs.size := Heap.lt_size e
  have e1 : (s.heap.update it (Obj.mapFields fun vs => vs.setIfInBounds 0 Value.none)).get? b = some ob := base b ob nb e
  have e2 := Heap.get?_push_of_some (h := s.heap.update it (Obj.mapFields fun vs => vs.setIfInBounds 0 Value.none)) { cls := .type "tuple", data := .seq ([] : List Value).toArray } e1
  rw [Heap.get?_update_other _ _ (Nat.ne_of_gt (Heap.lt_size e2))]
  exact Heap.get?_push_of_some _ e2
end
end XH

set_option Elab.async false
set_option linter.all false
set_option maxRecDepth 100000
set_option maxHeartbeats 4000000
/-! Within an except suite, or in a def called there: all(..) of a list of truths, a list comprehension over range(n). -/
namespace XA
open PySem PySem.Spec PyProof.Rows L2 HotX L2H XH
theorem walks_hot {prog : Program} {w : World} {A : Around} {x1 : Addr} {o1 : Obj} {vs1 : Array Value} (hh : A.handled = some (.ref x1)) (d1 : o1.data = .fields vs1) (c1 : vs1[2]? = some .none)
    (I ax : Addr) (hne : ax ≠ I) (nx : x1 ≠ I) (items : Array Value) :
    Walks prog w A I [I, ax, x1] [I] items.size (fun i v => items[i]? = some v) (fun i h => h.IsListIter I ax i ∧ h.IsList ax items ∧ h.get? x1 = some o1) where
  sub := fun b hb => by
    simp at hb
    simp [hb]
  frame := fun _ _ _ st hk => ⟨st.1.at fun o e => hk I (by simp) o e, st.2.1.at fun o e => hk ax (by simp) o e, hk x1 (by simp) _ st.2.2⟩
  item := fun i s Q E hi st hQ => by
    refine wpAny_pyNext_list_item st.1 st.2.1 (x := items[i]) (by simp [hi]) fun h' hit' hs' => ?_
    have g : h'.get? x1 = some o1 := hs'.extBut x1 _ nx st.2.2
    exact hQ _ h' s.toks (by simp [hi]) ⟨hit', st.2.1.extBut hs'.extBut hne, g⟩ fun b o hb e => hs'.extBut b o (fun h => hb (by simp [h])) e
  done := fun s Q E st hQ =>
    list_end_hot ⟨hh, o1, vs1, st.2.2, d1, c1⟩ nx st.1 st.2.1 (by simp) fun h' he' => hQ h' s.toks fun b o hb e => he' b o (fun h => hb (by simp [h])) e
  self := fun _ _ _ _ st hQ => wpAny_pyIter_listiter st.1 hQ
theorem cr_allH {X : Cx} (hc : HotC X) : CallR X (.builtin "all") (rAll X.K) := by
  intro pins s σ H vs us Q I r h
  obtain ⟨a, bs, rfl, hs, q⟩ := h
  obtain ⟨its, rv, hl, _⟩ := I.list hs
  rw [Vals.ref1 r]
  have hb := rv.bls
  obtain ⟨p, ⟨hh, v1, e1, c1⟩, hp⟩ := hc
  have P1 := I.pin p (List.mem_append_left _ hp)
  refine call_all_walk (iter_any hl.isList fun s2 e2 st hne => ?_)
  subst e2
  have nx : p.1 ≠ s.heap.objs.size := Nat.ne_of_lt (Heap.lt_size P1.1)
  refine ⟨_, _, _, _, _, _, _, rfl, walks_hot (A := X.A.in1) hh e1 c1 _ a hne nx its.toArray,
    ⟨st.1, st.2, Heap.get?_push_of_some _ P1.1⟩, truth_bools hb, fun h' tk hk => ?_⟩
  refine ⟨.bl _, H, I.kept fun b o eo => hk b o (fun hm => ?_) (Heap.get?_push_of_some _ eo), ?_, q⟩
  · rcases List.mem_cons.mp hm with e | hm
    · exact absurd (e ▸ Heap.lt_size eo) (Nat.lt_irrefl _)
    · cases hm
  · show Value.bool _ = Value.bool _
    rw [← L2.all_range, hb, List.size_toArray, List.length_map]
/-! ### the block of a comprehension, in a context that bears what is handled -/
abbrev blkH (X : Cx) (s : Shared) (H : Hp) (scope : Scope) (cenv : Env) (fp : List Addr) (p : Addr × Obj) : Cx := { X.blk s H scope cenv fp with pn := [p] }
section
variable {X : Cx} {s0 : Shared} {H0 : Hp} {scope : Scope} {ce : Env} {fp : List Addr} {p : Addr × Obj} {pins : List (Addr × Obj)} {σ : L2.St} {H : Hp} {s : Shared}
theorem ok_to (ok : (X.blk s0 H0 scope ce fp).Ok) : (blkH X s0 H0 scope ce fp p).Ok :=
  ⟨ok.mod, ok.kind, ok.glob, ok.blt, ok.above, ok.inj, ok.has, ok.cab, ok.hd, ok.frames, ok.stk, ok.exf, ok.bs, ok.bsz, ok.noex, ok.exfs, ok.funs, ok.frf⟩
theorem ok_from (ok : (blkH X s0 H0 scope ce fp p).Ok) : (X.blk s0 H0 scope ce fp).Ok :=
  ⟨ok.mod, ok.kind, ok.glob, ok.blt, ok.above, ok.inj, ok.has, ok.cab, ok.hd, ok.frames, ok.stk, ok.exf, ok.bs, ok.bsz, ok.noex, ok.exfs, ok.funs, ok.frf⟩
theorem inv_to (I : Inv (X.blk s0 H0 scope ce fp) (p :: pins) σ H s) : Inv (blkH X s0 H0 scope ce fp p) pins σ H s :=
  ⟨ok_to I.ok, I.os, I.bare, I.base, I.loc, I.cell, I.free, I.freeC, fun q hq => I.pin q hq, I.hok, I.len⟩
theorem inv_from (I : Inv (blkH X s0 H0 scope ce fp p) pins σ H s) : Inv (X.blk s0 H0 scope ce fp) (p :: pins) σ H s :=
  ⟨ok_from I.ok, I.os, I.bare, I.base, I.loc, I.cell, I.free, I.freeC, fun q hq => I.pin q hq, I.hok, I.len⟩
end
section
variable {X : Cx}
theorem lc_hot {pins : List (Addr × Obj)} {s : Shared} {σ : L2.St} {H : Hp} {Q : VK} {elt tg iter : Expr} {ifs : List Expr} {scope : Scope} {own : List (Str × Nat)}
    {pos pos2 : Pos} {wi : TI} {g : TG} {tt : TT} {te : TE} {use : Option (Value → Sem Unit)} {Qf : Value → Shared → Prop} {p : Addr × Obj} (hot : Hot1 X.A p) (hp : p ∈ X.pn) (hN : X.N.Nodup) (I : Inv X pins σ H s) (hi : PIH X tg iter wi) (ok : BlkOk X.N X.env.scope scope own)
    (hg : ∀ (s : Shared) (H : Hp) (C : Addr) (cl : List (Str × Addr)) (fp : List Addr), PG (blkH X s H scope (compEnvC scope cl C X.env) fp p) tg g)
    (ht : ∀ (s : Shared) (H : Hp) (C : Addr) (cl : List (Str × Addr)) (fp : List Addr), PTs (blkH X s H scope (compEnvC scope cl C X.env) fp p) ifs tt)
    (he : ∀ (s : Shared) (H : Hp) (C : Addr) (cl : List (Str × Addr)) (fp : List Addr), PE (blkH X s H scope (compEnvC scope cl C X.env) fp p) elt te)
    (hs : ∀ x, foldedSetIterable iter X.env x = pure x) (h : tLc wi g tt te (own.map (·.2)) σ H Q)
    (fin : ∀ D C s2 m H2, Inv X pins σ H2 s2 → Q (.ref D) H2 → s2.heap.Ns C m → FpOk X pins H2 C → compPost (model X.prog X.w) X.A X.xe use Qf (.ref D) C (.ok .next) s2) :
    wpAny (model X.prog X.w) X.A (comprehension (.ListComp elt [⟨tg, iter, ifs, 0⟩] scope pos) scope X.env pos2 (newList []) false (eval iter X.env) use) Qf X.xe s := by
  have hfree : ∀ y ∈ scope.names, y.2 = .free → ∃ c, X.env.cells.lookup y.1 = some c := fun y hy e =>
    (ok.free y hy e).elim (fun k => I.ok.has _ (.inl k)) (fun k => I.ok.has _ (.inr k))
  refine wpAny_comprehension_free (use := use) rfl hs (closure_ok hfree) ok.kind (fun y hy e => by rw [ok.uniq y hy, e])
    (thn (hi.run pins s σ H _ I h) fun xv s1 hx => thn hx fun itv s2 h2 => ?_)
  obtain ⟨it, fp, tn, J, H2, rfl, I2, T, st2, f2, q⟩ := h2
  refine wpAny_newObj_type (newEnv_comp ?_) (by show 0 ≤ sizeLine; decide)
  generalize hD : s2.heap.objs.size = D
  have nD : H2 D = none := I2.hok.fresh (Nat.le_of_eq hD)
  obtain ⟨W, ⟨m0, w0⟩, turn⟩ := q D nD
  generalize hs3 : ({ s2 with heap := s2.heap.push { cls := .type "list", data := .seq ([] : List Value).toArray } } : Shared) = s3
  have h3 : s3.heap = s2.heap.push { cls := .type "list", data := .seq ([] : List Value).toArray } := by
    rw [← hs3]
  have I3 : Inv X pins σ (upd H2 D (.lst [])) s3 := by
    rw [← hs3]
    refine I2.laid (t' := s2.toks) (fun b o e => Heap.get?_push_of_some _ e) (Nat.le_of_eq hD) ⟨Nat.zero_le _, [], 0, .nil, ?_⟩
    rw [← hD]
    exact Heap.get?_push_size _ rfl
  have lt2 : ∀ b ∈ fp, b < s2.heap.objs.size := fun b hb =>
    (T.obj _ _ st2 b hb).elim fun o e => Heap.lt_size e.1
  have f3 : ∀ b ∈ fp, FpOk X pins (upd H2 D (.lst [])) b ∧ b < s3.heap.objs.size := by
    intro b hb
    have lt := lt2 b hb
    refine ⟨⟨?_, (f2 b hb).2⟩, by rw [h3, Heap.size_push]; exact Nat.lt_succ_of_lt lt⟩
    rw [upd_ne (by rw [← hD]; exact Nat.ne_of_lt lt)]
    exact (f2 b hb).1
  have st3 : tn 0 s3.heap := T.keep _ _ _ st2 fun b _ o e => by
    rw [h3]
    exact Heap.get?_push_of_some _ e
  -- the pin stands: it is older than all that is made here
  have P3 := I3.pin p (List.mem_append_left _ hp)
  have I4 := block_start I3 ok hN f3
  have pg := hg s3 (upd H2 D (.lst [])) s3.heap.objs.size (cellsFrom (s3.heap.objs.size + 1) scope.names (cloFrom X.env.cells scope.names [])) fp
  have pt := ht s3 (upd H2 D (.lst [])) s3.heap.objs.size (cellsFrom (s3.heap.objs.size + 1) scope.names (cloFrom X.env.cells scope.names [])) fp
  have pe := he s3 (upd H2 D (.lst [])) s3.heap.objs.size (cellsFrom (s3.heap.objs.size + 1) scope.names (cloFrom X.env.cells scope.names [])) fp
  show codeAny _ _ (.compStart (.ListComp elt [⟨tg, iter, ifs, 0⟩] scope pos) 0 (.ref it) (.ref D) (compEnvC scope (cellsFrom (s3.heap.objs.size + 1) scope.names (cloFrom X.env.cells scope.names [])) s3.heap.objs.size X.env))
    (compPost (model X.prog X.w) X.A X.xe use Qf (.ref D) s3.heap.objs.size) { s3 with heap := pushCells (s3.heap.push { cls := .type "dict", data := .dict #[] }) scope.names }
  have nfp : ∀ b ∈ fp, (upd H2 D (.lst [])) b = none := fun b hb => (f3 b hb).1.1
  generalize hce : compEnvC scope (cellsFrom (s3.heap.objs.size + 1) scope.names (cloFrom X.env.cells scope.names [])) s3.heap.objs.size X.env = ce at I4 pg pt pe ⊢
  have cL : ce.locals = s3.heap.objs.size := by
    subst hce
    rfl
  generalize hH3 : upd H2 D (.lst []) = H3 at I3 I4 pg pt pe w0 nfp f3 P3
  generalize hs4 : ({ s3 with heap := pushCells (s3.heap.push { cls := .type "dict", data := .dict #[] }) scope.names } : Shared) = s4 at I4 ⊢
  have kept4 : ∀ b o, s3.heap.get? b = some o → s4.heap.get? b = some o := fun b o e => by
    rw [← hs4]
    exact pushCells_keeps _ _ _ _ (Heap.get?_push_of_some _ e)
  have st4 : tn 0 s4.heap := T.keep _ _ _ st3 fun b _ o e => kept4 b o e
  have I5 : Inv (blkH X s3 H3 scope ce fp p) [] (wipe σ (own.map (·.2))) H3 s4 := inv_to (pins := []) ⟨I4.ok, I4.os, I4.bare, I4.base, I4.loc, I4.cell, I4.free, I4.freeC, fun q hq => by
    have e : q = p := by simpa using hq
    subst e
    refine ⟨kept4 _ _ P3.1, P3.2.1, ?_, ?_, P3.2.2.2.2⟩
    · rw [cL]
      exact Nat.ne_of_lt (Heap.lt_size P3.1)
    · exact fun hm => (List.mem_cons.mp (I3.stkSub q.1 hm)).elim P3.2.2.1 P3.2.2.2.1, I4.hok, I4.len⟩
  have hotB : HotC (blkH X s3 H3 scope ce fp p) := ⟨p, hot, by simp⟩
  have stat : ∀ {σ' : L2.St} {H' : Hp} {s' : Shared}, Inv (blkH X s3 H3 scope ce fp p) [] σ' H' s' → (∀ b ∈ fp, H' b = none) → ∀ b ∈ fp, FpOk (blkH X s3 H3 scope ce fp p) [] H' b := by
    intro σ' H' s' Z hn b hb
    refine ⟨hn b hb, (Z.ok.exf b hb).1, Z.ok.exfs b hb, .inl hb, fun x c e => (Z.ok.exf b hb).2 x c e, fun q hq => ?_⟩
    have e : q = p := by simpa using hq
    subst e
    have pnew := (f3 b hb).1.2.2.2.2.2 q (List.mem_append_left _ hp)
    exact pnew
  have loop : codeAny (model X.prog X.w) X.A (.compLoop (.ListComp elt [⟨tg, iter, ifs, 0⟩] scope pos) 0 (.ref it) (.ref D) ce) (compPost (model X.prog X.w) X.A X.xe use Qf (.ref D) s3.heap.objs.size) s4 := by
    refine compLoop_any (fun n s' => ∃ i H', Inv (blkH X s3 H3 scope ce fp p) [] (wipe σ (own.map (·.2))) H' s' ∧ tn i s'.heap ∧ (∀ b ∈ fp, H' b = none) ∧ W i n H') ?_ m0 ⟨0, H3, I5, st4, nfp, w0⟩
    rintro n s5 ⟨i, H5, J5, st5, n5, w5⟩
    rcases turn i n H5 w5 with ⟨stop, qq⟩ | ⟨go, Nx, hNx, step⟩
    · refine thnF (T.done (blkH X s3 H3 scope ce fp p) rfl rfl rfl hotB i [] s5 _ H5 (fun _ _ => False) J5 (stat J5 n5) st5 stop) fun r s6 ⟨hr, J6⟩ => ?_
      subst hr
      have J7 : Inv X pins σ H5 s6 := I3.call' (ch := fp) J6.os J6.base J6.hok J6.bare fun b hb =>
        ⟨(f3 b hb).1.2.2.2.1, (f3 b hb).1.2.1, (f3 b hb).1.2.2.2.2.1, (f3 b hb).1.2.2.2.2.2⟩
      have nC : H5 s3.heap.objs.size = none := by
        have z : H5 ce.locals = none := J6.free
        rwa [cL] at z
      obtain ⟨m, hn, _⟩ := J6.loc
      have hn2 : s6.heap.Ns ce.locals m := hn
      rw [cL] at hn2
      exact fin D s3.heap.objs.size s6 m H5 J7 qq hn2 (I3.fpOk (Nat.le_refl _) nC)
    · refine thnF (T.item (blkH X s3 H3 scope ce fp p) rfl rfl rfl hotB i [] s5 _ H5 (fun _ _ => False) J5 (stat J5 n5) st5 go) fun r s6 ⟨u, hr, h6⟩ => ?_
      subst hr
      refine thnF h6 fun _ s7 ⟨x, H7, J7, r7, y7, st7, n7⟩ => ?_
      have K7 := J7.pinned (stat J7 n7) (T.obj _ _ st7)
      refine thnF (pg.run _ s7 _ H7 x u _ K7 r7 (step x H7 y7)) fun _ s8 ⟨σ8, H8, J8, hw8, q8⟩ => ?_
      refine thnF (pt.run _ s8 σ8 H8 _ J8 q8) fun b s9 ⟨H9, J9, q9⟩ => ?_
      have back : ∀ {s' : Shared} {H' : Hp}, Inv (blkH X s3 H3 scope ce fp p) ([] ++ pinsAt fp s7.heap) σ8 H' s' → Nx H' →
          ∃ m, m < n ∧ ∃ i H', Inv (blkH X s3 H3 scope ce fp p) [] (wipe σ (own.map (·.2))) H' s' ∧ tn i s'.heap ∧ (∀ b ∈ fp, H' b = none) ∧ W i m H' := by
        intro s' H' Z nx
        obtain ⟨m', hm, w'⟩ := hNx H' nx
        have stands : ∀ b ∈ fp, ∀ o, s7.heap.get? b = some o → s'.heap.get? b = some o ∧ H' b = none := fun b hb o e =>
          let z := Z.pin (b, o) (List.mem_append_right _ (List.mem_append_right _ (mem_pinsAt hb e)))
          ⟨z.1, z.2.1⟩
        have hl : (wipe σ (own.map (·.2))).length = σ8.length := by
          rw [← hw8, wipe_length]
        refine ⟨m', hm, i + 1, H', (Z.unpinned (pins := [])).weak hl (fun j v e => ?_), T.keep _ _ _ st7 fun b hb o e => (stands b hb o e).1, fun b hb => ?_, w'⟩
        · rw [← hw8] at e
          exact (wipe_some e).1
        · obtain ⟨o, e, _⟩ := T.obj _ _ st7 b hb
          exact (stands b hb o e).2
      cases b with
      | false =>
        simp only [Bool.false_eq_true, if_false] at q9 ⊢
        exact back J9 q9
      | true =>
        simp only [if_true] at q9 ⊢
        refine thnF (pe.run _ s9 σ8 H9 _ J9 q9) fun z s10 ⟨yv, H10, J10, r10, acc, hD10, hz10, nx⟩ => ?_
        exact app_ok (X := blkH X s3 H3 scope ce fp p) J10 hD10 hz10 r10 fun s11 J11 => back J11 nx
  exact codeAny_compStart_list loop (T.self X.A 0 _ _ _ st4 loop)
theorem pe_lcH {elt tg iter : Expr} {ifs : List Expr} {scope : Scope} {own : List (Str × Nat)} {pos : Pos} {wi : TI} {g : TG} {tt : TT} {te : TE} {p : Addr × Obj} (hot : Hot1 X.A p) (hp : p ∈ X.pn) (hN : X.N.Nodup) (hi : PIH X tg iter wi) (ok : BlkOk X.N X.env.scope scope own)
    (hg : ∀ (s : Shared) (H : Hp) (C : Addr) (cl : List (Str × Addr)) (fp : List Addr), PG (blkH X s H scope (compEnvC scope cl C X.env) fp p) tg g)
    (ht : ∀ (s : Shared) (H : Hp) (C : Addr) (cl : List (Str × Addr)) (fp : List Addr), PTs (blkH X s H scope (compEnvC scope cl C X.env) fp p) ifs tt)
    (he : ∀ (s : Shared) (H : Hp) (C : Addr) (cl : List (Str × Addr)) (fp : List Addr), PE (blkH X s H scope (compEnvC scope cl C X.env) fp p) elt te)
    (hs : ∀ x, foldedSetIterable iter X.env x = pure x := by intro _; rfl) : PE X (.ListComp elt [⟨tg, iter, ifs, 0⟩] scope pos) (tLc wi g tt te (own.map (·.2))) := by
  constructor
  intro pins s σ H Q I h
  rw [eval_ListComp]
  refine lc_hot hot hp hN I hi ok hg ht he hs h fun D C s2 m H2 I2 q hn f => ⟨m, hn, fun h3 sb => ?_⟩
  obtain ⟨f0, f1, f2, f3, f4, f5⟩ := f
  exact ⟨.ref D, H2, I2.turned (t' := s2.toks) (fun b o hb e => (sb.2 b hb).trans e) f0 f1 f3 f4 f5, rfl, q⟩
end
end XA

set_option Elab.async false
set_option linter.all false
set_option maxRecDepth 100000
set_option maxHeartbeats 4000000
namespace Q
open PySem L2
def top (i : Nat) : Stmt := PySem.Challenge.pw_sayfill_k00_errors.main.body.getD i (.Pass ⟨0, 0, 0, 0⟩)
abbrev sFlow : Stmt := top 10
abbrev sLoad : Stmt := top 11
abbrev sDraw : Stmt := top 12
abbrev sPick : Stmt := top 13
abbrev sSame : Stmt := top 14
abbrev sRaise : Stmt := top 15
abbrev sKept : Stmt := top 16
abbrev sClasses : Stmt := top 17
abbrev sGiven : Stmt := top 18
abbrev sLaw : Stmt := top 19
end Q
/-! ### the flow: a list of the script's copy and five ints -/
namespace Q
open PySem L2
def fl (b : Addr) (p s c m w : Int) : List V := [.ref b, .int p, .int s, .int c, .int m, .int w]
/-- a flow at a: its copy of the script at b -/
structure Fx (H : Hp) (a b : Addr) (ns : List Int) (p s c m w : Int) : Prop where
  at_ : H a = some (.lst (fl b p s c m w))
  ls : H b = some (.lst (ns.map V.int))
  pos : 0 ≤ p
def Flw (H : Hp) (a : Addr) : Prop := ∃ (b : Addr) (ns : List Int) (p s c m w : Int), Fx H a b ns p s c m w
/-- all but a stands -/
def Kept (a : Addr) (H H' : Hp) : Prop := ∀ x o, x ≠ a → H x = some o → H' x = some o
theorem Kept.refl {a : Addr} {H : Hp} : Kept a H H := fun _ _ _ e => e
theorem Kept.trans {a : Addr} {H H1 H2 : Hp} (k : Kept a H H1) (l : Kept a H1 H2) : Kept a H H2 := fun x o n e => l x o n (k x o n e)
theorem Kept.upd {a : Addr} {H : Hp} {o : HO} : Kept a H (upd H a o) := fun x u n e => by
  rw [upd_ne n]
  exact e
theorem Fx.ne {H : Hp} {a b : Addr} {ns : List Int} {p s c m w : Int} (F : Fx H a b ns p s c m w) : b ≠ a := fun e => by
  have h := F.ls
  rw [e, F.at_] at h
  have q : (fl b p s c m w) = ns.map V.int := HO.lst.inj (Option.some.inj h)
  cases ns with
  | nil => cases q
  | cons x r =>
    have z := (List.cons.inj q).1
    cases z
theorem Fx.put {H : Hp} {a b : Addr} {ns : List Int} {p s c m w p' s' c' m' w' : Int} (F : Fx H a b ns p s c m w) (h : 0 ≤ p') : Fx (upd H a (.lst (fl b p' s' c' m' w'))) a b ns p' s' c' m' w' :=
  ⟨upd_same, by rw [upd_ne F.ne]; exact F.ls, h⟩
theorem Fx.kept {H H' : Hp} {a b : Addr} {ns : List Int} {p s c m w : Int} (F : Fx H a b ns p s c m w) (k : Same H H') : Fx H' a b ns p s c m w :=
  ⟨k _ _ F.at_, k _ _ F.ls, F.pos⟩
theorem Flw.same {H H' : Hp} {a : Addr} (F : Flw H a) (k : Same H H') : Flw H' a := by
  obtain ⟨b, ns, p, s, c, m, w, F⟩ := F
  exact ⟨b, ns, p, s, c, m, w, F.kept k⟩
theorem Kept.of_same {a : Addr} {H H' : Hp} (k : Same H H') : Kept a H H' := fun x o _ e => k x o e
theorem fl0 {b : Addr} {p s c m w : Int} : atI (fl b p s c m w) 0 = some (.ref b) := rfl
theorem fl1 {b : Addr} {p s c m w : Int} : atI (fl b p s c m w) 1 = some (.int p) := rfl
theorem fl2 {b : Addr} {p s c m w : Int} : atI (fl b p s c m w) 2 = some (.int s) := rfl
theorem fl3 {b : Addr} {p s c m w : Int} : atI (fl b p s c m w) 3 = some (.int c) := rfl
theorem fl4 {b : Addr} {p s c m w : Int} : atI (fl b p s c m w) 4 = some (.int m) := rfl
theorem fl5 {b : Addr} {p s c m w : Int} : atI (fl b p s c m w) 5 = some (.int w) := rfl
/-! ### promises -/
def spFlow (K : PySem.W.Frag) : Sp := fun vs H Q _ => ∃ (a : Addr) (ns : List Int), vs = [.ref a] ∧ SqL K H a (ns.map V.int) ∧
  ∀ (f : Addr) (H' : Hp), Same H H' → Flw H' f → H f = none → Q (.ref f) H'
def spLoad : Sp := fun vs H Q _ => ∃ a, vs = [.ref a] ∧ Flw H a ∧ ∀ H', Flw H' a → Kept a H H' → Q .non H'
def spDraw : Sp := fun vs H Q _ => ∃ (a : Addr) (n : Int), vs = [.ref a, .int n] ∧ Flw H a ∧ n.natAbs < 2 ^ 200 ∧
  ∀ (r : Int) (H' : Hp), 0 ≤ r → r < (if n > 1 then n else 1) → Flw H' a → Kept a H H' → Q (.int r) H'
def spPick : Sp := fun vs H Q _ => ∃ (a t : Addr) (xs : List V), vs = [.ref a, .ref t] ∧ Flw H a ∧ H t = some (.lst xs) ∧ t ≠ a ∧ 0 < xs.length ∧ xs.length ≤ 1000 ∧
  ∀ (x : V) (H' : Hp), x ∈ xs → Flw H' a → Kept a H H' → Q x H'
structure Bt (mg : Str → Option Value) : Prop where
  int : mg "int" = none
  list : mg "list" = none
  len : mg "len" = none
  abs : mg "abs" = none
  max : mg "max" = none
section
variable {P : Program} {w : World} {K : PySem.W.Frag} {mg : Str → Option Value} {base : Heap}
theorem scFlow : FnScope ["script", "mixed", "cell"] ["script"] (defScope sFlow) := ⟨rfl, rfl, rfl, by decide +kernel, rfl, by decide +kernel, by decide +kernel⟩
theorem ok_flow {f : Addr} {fd : FuncData} (F : Fun K "_law_flow" "_law_flow" sFlow f fd) (T : Bt mg) : FnOk P w K mg base CX0 1 f fd ["script"] (spFlow K) := by
  refine F.ok scFlow (fun vs H Q E h => ?_) (fun cdv A outer s H vs Q E hr h => ?_)
  · obtain ⟨a, ns, rfl, _⟩ := h
    rfl
  obtain ⟨a, ns, rfl, hS, k⟩ := h
  refine ⟨_, pss_cons (ps_set (i := 1) scFlow.nd rfl (.inl rfl) pe_int)
    (pss_cons (ps_for PassesOwn.never rfl (pi_list (pv 0)) (pg_name (i := 2) scFlow.nd rfl (.inl rfl))
      (pss_one (ps_set (i := 1) scFlow.nd rfl (.inl rfl) (pe_op op_mod (pe_callTy call_int1 rfl T.int (by decide +kernel) (pa_cons (pe_op op_add (pe_op op_mul (pv 1) pe_int) (pe_callTy call_int1 rfl T.int (by decide +kernel) (pa_cons (pv 2) pa_nil))) pa_nil)) pe_int))))
    (pss_one (ps_ret (pe_lst (pa_cons (pe_callTy call_list_of rfl T.list (by decide +kernel) (pa_cons (pv 0) pa_nil)) (pa_cons pe_int (pa_cons pe_int (pa_cons pe_int (pa_cons (pv 1) (pa_cons pe_int pa_nil)))))))))), ?_⟩
  refine ⟨_, rfl, a, rfl, ⟨_, hS⟩, for_list (K := K) (a := a) (xs := ns.map V.int) (fun i σ H' => ∃ (m : Int) (v : Option V), σ = [some (.ref a), some (.int m), v] ∧ Same H H')
    ⟨1, none, rfl, Same.refl H⟩ (fun i σ H' _ ⟨_, _, _, s5⟩ => s5.seq hS) ?_ ?_⟩
  · rintro i y σ H' hi ⟨m, v, rfl, s5⟩
    obtain ⟨z, hz, rfl⟩ : ∃ z, ns[i]? = some z ∧ y = V.int z := by
      rw [List.getElem?_map] at hi
      obtain ⟨z, hz, e⟩ := Option.map_eq_some_iff.mp hi
      exact ⟨z, hz, e.symm⟩
    refine ⟨_, rfl, _, _, rfl, rfl, .inr ⟨by decide, by decide⟩, _, rfl, .inl ⟨_, rfl, _, _, rfl, rfl, .inl ⟨_, rfl, _, _, rfl, rfl, (by show (0 : Int) < 2147483647; decide), ?_⟩⟩⟩
    exact ⟨_, _, rfl, s5⟩
  · rintro σ H' ⟨m, v, rfl, s5⟩
    refine ⟨_, rfl, a, _, rfl, .inl (s5.seq hS), fun b hb => ⟨_, rfl, (by show 6 ≤ sizeLine; decide), fun p hp => ?_⟩⟩
    have nb : b ≠ p := fun e => by
      rw [← e, upd_same] at hp
      cases hp
    have hp' : H' p = none := by
      by_cases e : p = b
      · rw [e, upd_same] at hp
        cases hp
      · rwa [upd_ne e] at hp
    refine k p _ (fun x o e => ?_) ⟨b, ns, 0, 0, 0, m, 0, upd_same, by rw [upd_ne nb, upd_same], Int.le_refl 0⟩ (s5.free hp')
    rw [upd_ne (ne_of_none (s5 _ _ e) hp'), upd_ne (ne_of_none (s5 _ _ e) hb)]
    exact s5 _ _ e
theorem scLoad : FnScope ["flow", "cell"] ["flow"] (defScope sLoad) := ⟨rfl, rfl, rfl, by decide +kernel, rfl, by decide +kernel, by decide +kernel⟩
theorem ok_load {f : Addr} {fd : FuncData} (F : Fun K "_law_load" "_law_load" sLoad f fd) (T : Bt mg) : FnOk P w K mg base CX0 1 f fd ["flow"] spLoad := by
  refine F.ok scLoad (fun vs H Q E h => ?_) (fun cdv A outer s H vs Q E hr h => ?_)
  · obtain ⟨a, rfl, _⟩ := h
    rfl
  obtain ⟨a, rfl, ⟨b, ns, p, s0, c, m, wd, Z⟩, k⟩ := h
  refine ⟨_, pss_cons (ps_if (pt_cmpR op_ge (pe_ix ix_list (pv 0) pe_int (fun _ _ => rfl)) (pe_callB call_len_seq rfl T.len PySem.boot_len (pa_cons (pe_ix ix_list (pv 0) pe_int (fun _ _ => rfl)) pa_nil)) (nomark _))
      (pss_cons (ps_asg pe_int (pg_sub (pv 0) pe_int set_list)) (pss_cons (ps_asg pe_int (pg_sub (pv 0) pe_int set_list)) (pss_cons (ps_asg pe_int (pg_sub (pv 0) pe_int set_list)) (pss_one ps_retN)))) pss_nil)
    (pss_cons (ps_set (i := 1) scLoad.nd rfl (.inl rfl) (pe_callTy call_int1 rfl T.int (by decide +kernel) (pa_cons (pe_ix ix_list (pe_ix ix_list (pv 0) pe_int (fun _ _ => rfl)) (pe_ix ix_list (pv 0) pe_int (fun _ _ => rfl)) (fun _ _ => rfl)) pa_nil)))
    (pss_cons (ps_asg (pe_op op_add (pe_ix ix_list (pv 0) pe_int (fun _ _ => rfl)) pe_int) (pg_sub (pv 0) pe_int set_list))
    (pss_cons (ps_asg (pe_op op_fdiv (pe_callB call_abs rfl T.abs (by decide +kernel) (pa_cons (pv 1) pa_nil)) pe_int) (pg_sub (pv 0) pe_int set_list))
    (pss_cons (ps_asg pe_int (pg_sub (pv 0) pe_int set_list))
    (pss_cons (ps_asg (pe_op op_mod (pe_callTy call_int1 rfl T.int (by decide +kernel) (pa_cons (pv 1) pa_nil)) pe_int) (pg_sub (pv 0) pe_int set_list))
    (pss_one (ps_if (pt_cmpR op_eq (pe_ix ix_list (pv 0) pe_int (fun _ _ => rfl)) pe_int (nomark _))
      (pss_cons (ps_asg (pe_op op_mod (pe_callTy call_int1 rfl T.int (by decide +kernel) (pa_cons (pe_ix ix_list (pv 0) pe_int (fun _ _ => rfl)) pa_nil)) pe_int) (pg_sub (pv 0) pe_int set_list)) (pss_one (ps_asg pe_int (pg_sub (pv 0) pe_int set_list)))) pss_nil))))))), ?_⟩
  refine ⟨_, rfl, a, _, _, _, rfl, rfl, SqL.of Z.at_, fl1, _, rfl, a, _, _, _, rfl, rfl, SqL.of Z.at_, fl0, b, _, rfl, .inl (SqL.of Z.ls), _, _, rfl, rfl, _, rfl, ?_⟩
  refine ite2 (fun q => ?_) (fun q => ?_)
  · have Z1 := Z.put (p' := p) (s' := 40503) (c' := c) (m' := m) (w' := wd) Z.pos
    have Z2 := Z1.put (p' := p) (s' := 40503) (c' := 1000) (m' := m) (w' := wd) Z.pos
    have Z3 := Z2.put (p' := p) (s' := 40503) (c' := 1000) (m' := m) (w' := 1) Z.pos
    refine ⟨_, rfl, a, _, _, _, rfl, rfl, Z.at_, rfl, _, rfl, a, _, _, _, rfl, rfl, Z1.at_, rfl, _, rfl, a, _, _, _, rfl, rfl, Z2.at_, rfl, ?_⟩
    exact k _ ⟨_, _, _, _, _, _, _, Z3⟩ (Kept.upd.trans (Kept.upd.trans Kept.upd))
  · have q2 : ¬ ((ns.map V.int).length : Int) ≤ p := of_decide_eq_false (Bool.eq_false_iff.mpr q)
    rw [List.length_map] at q2
    have h0 := Z.pos
    have lt : p.toNat < ns.length := by omega
    have ep : p = ((p.toNat : Nat) : Int) := by omega
    have at1 : atI (ns.map V.int) p = some (.int ns[p.toNat]) := by
      exact at_of ep (by rw [List.getElem?_map, List.getElem?_eq_getElem lt] <;> rfl)
    generalize ns[p.toNat] = z at at1
    have Z1 := Z.put (p' := p + 1) (s' := s0) (c' := c) (m' := m) (w' := wd) (by omega)
    have Z2 := Z1.put (p' := p + 1) (s' := (if z < 0 then -z else z) / 2) (c' := c) (m' := m) (w' := wd) (by omega)
    have Z3 := Z2.put (p' := p + 1) (s' := (if z < 0 then -z else z) / 2) (c' := 60) (m' := m) (w' := wd) (by omega)
    have Z4 := Z3.put (p' := p + 1) (s' := (if z < 0 then -z else z) / 2) (c' := 60) (m' := m) (w' := z % 2) (by omega)
    have Z5 := Z4.put (p' := p + 1) (s' := (if z < 0 then -z else z) / 2 % 2147483629) (c' := 60) (m' := m) (w' := z % 2) (by omega)
    have Z6 := Z5.put (p' := p + 1) (s' := (if z < 0 then -z else z) / 2 % 2147483629) (c' := 6) (m' := m) (w' := z % 2) (by omega)
    refine ⟨_, rfl, a, _, _, _, rfl, rfl, SqL.of Z.at_, fl0, _, rfl, a, _, _, _, rfl, rfl, SqL.of Z.at_, fl1, b, _, _, _, rfl, rfl, SqL.of Z.ls, at1, .inl ⟨_, rfl, ?_⟩⟩
    refine ⟨_, rfl, a, _, _, _, rfl, rfl, SqL.of Z.at_, fl1, _, _, rfl, rfl, _, rfl, a, _, _, _, rfl, rfl, Z.at_, rfl, ?_⟩
    refine ⟨_, rfl, _, rfl, _, _, rfl, rfl, ⟨by decide, by decide⟩, _, rfl, a, _, _, _, rfl, rfl, Z1.at_, rfl, ?_⟩
    refine ⟨_, rfl, a, _, _, _, rfl, rfl, Z2.at_, rfl, ?_⟩
    refine ⟨_, rfl, .inl ⟨_, rfl, _, _, rfl, rfl, (by show (0 : Int) < 2; decide), _, rfl, a, _, _, _, rfl, rfl, Z3.at_, rfl, ?_⟩⟩
    refine ⟨_, rfl, a, _, _, _, rfl, rfl, SqL.of Z4.at_, fl5, rfl, _, rfl, ?_⟩
    refine ite2 (fun _ => ?_) (fun _ => ?_)
    · refine ⟨_, rfl, a, _, _, _, rfl, rfl, SqL.of Z4.at_, fl2, .inl ⟨_, rfl, _, _, rfl, rfl, (by show (0 : Int) < 2147483629; decide), _, rfl, a, _, _, _, rfl, rfl, Z4.at_, rfl, ?_⟩⟩
      refine ⟨_, rfl, a, _, _, _, rfl, rfl, Z5.at_, rfl, ?_⟩
      exact k _ ⟨_, _, _, _, _, _, _, Z6⟩ (Kept.upd.trans (Kept.upd.trans (Kept.upd.trans (Kept.upd.trans (Kept.upd.trans Kept.upd)))))
    · exact k _ ⟨_, _, _, _, _, _, _, Z4⟩ (Kept.upd.trans (Kept.upd.trans (Kept.upd.trans Kept.upd)))
/-- what a draw of n is below -/
def lim (n : Int) : Int := if n > 1 then n else 1
theorem lim_pos (n : Int) : 0 < lim n := by
  unfold lim
  split <;> omega
theorem lim_small {n : Int} (h : n.natAbs < 2 ^ 200) : (lim n).natAbs < 2 ^ 200 := by
  unfold lim
  split
  · exact h
  · exact (by decide : (1 : Int).natAbs < 2 ^ 200)
theorem scDraw : FnScope ["flow", "many", "drawn"] ["flow", "many"] (defScope sDraw) := ⟨rfl, rfl, rfl, by decide +kernel, rfl, by decide +kernel, by decide +kernel⟩
theorem ok_draw {f fL : Addr} {fd fdL : FuncData} (F : Fun K "_law_draw" "_law_draw" sDraw f fd) (T : Bt mg) (FL : Fun K "_law_load" "_law_load" sLoad fL fdL) (bL : Binds K fdL ["flow"] []) (mL : mg "_law_load" = some (.ref fL)) :
    FnOk P w K mg base CX0 2 f fd ["flow", "many"] spDraw := by
  have GL : FnOk P w K mg base CX0 1 fL fdL ["flow"] spLoad := ok_load FL T
  refine F.ok scDraw (fun vs H Q E h => ?_) (fun cdv A outer s H vs Q E hr h => ?_)
  · obtain ⟨a, n, rfl, _⟩ := h
    rfl
  obtain ⟨a, n, rfl, Fl, hn, k⟩ := h
  refine ⟨_, pss_cons (ps_if (pt_cmpR op_eq (pe_ix ix_list (pv 0) pe_int (fun _ _ => rfl)) pe_int (nomark _)) (pss_one (ps_expr (pe_call GL hr rfl mL FL.kp bL .nil pass0 (pa_cons (pv 0) pa_nil)))) pss_nil)
    (pss_cons (ps_asg (pe_op op_sub (pe_ix ix_list (pv 0) pe_int (fun _ _ => rfl)) pe_int) (pg_sub (pv 0) pe_int set_list))
    (pss_cons (ps_if (pt_cmpR op_eq (pe_ix ix_list (pv 0) pe_int (fun _ _ => rfl)) pe_int (nomark _))
      (pss_cons (ps_asg (pe_op op_mod (pe_callTy call_int1 rfl T.int (by decide +kernel) (pa_cons (pe_op op_add (pe_op op_add (pe_op op_mul (pe_ix ix_list (pv 0) pe_int (fun _ _ => rfl)) pe_int) (pe_ix ix_list (pv 0) pe_int (fun _ _ => rfl))) pe_int) pa_nil)) pe_int) (pg_sub (pv 0) pe_int set_list))
      (pss_one (ps_ret (pe_op op_mod (pe_callTy call_int1 rfl T.int (by decide +kernel) (pa_cons (pe_op op_fdiv (pe_ix ix_list (pv 0) pe_int (fun _ _ => rfl)) pe_int) pa_nil)) (pe_callB (call_max2 rfl) rfl T.max (by decide +kernel) (pa_cons pe_int (pa_cons (pv 1) pa_nil))))))) pss_nil)
    (pss_cons (ps_set (i := 2) scDraw.nd rfl (.inl rfl) (pe_op op_mod (pe_callTy call_int1 rfl T.int (by decide +kernel) (pa_cons (pe_ix ix_list (pv 0) pe_int (fun _ _ => rfl)) pa_nil)) (pe_callB (call_max2 rfl) rfl T.max (by decide +kernel) (pa_cons pe_int (pa_cons (pv 1) pa_nil)))))
    (pss_cons (ps_asg (pe_op op_fdivW (pe_ix ix_list (pv 0) pe_int (fun _ _ => rfl)) (pe_callB (call_max2 rfl) rfl T.max (by decide +kernel) (pa_cons pe_int (pa_cons (pv 1) pa_nil)))) (pg_sub (pv 0) pe_int set_list))
    (pss_cons (ps_if (pt_cmpR op_eq (pe_ix ix_list (pv 0) pe_int (fun _ _ => rfl)) pe_int (nomark _)) (pss_one (ps_asg pe_int (pg_sub (pv 0) pe_int set_list))) pss_nil)
    (pss_one (ps_ret (pv 2)))))))), ?_⟩
  have small : lim n = (if n > 1 then n else 1) := rfl
  obtain ⟨b0, ns0, p0, t0, c0, m0, w0, Z0⟩ := id Fl
  refine ⟨_, rfl, a, _, _, _, rfl, rfl, SqL.of Z0.at_, fl3, rfl, _, rfl, ?_⟩
  refine ite2 (fun _ => ⟨_, rfl, a, rfl, Fl, fun H1 F1 k1 => ?_⟩) (fun _ => ?_)
  rotate_left
  have F1 := Fl
  have k1 : Kept a H H := Kept.refl
  rotate_right
  all_goals
    clear Z0
    obtain ⟨b, ns, p, t, c, m, wd, Z⟩ := F1
    have h0 := Z.pos
    have Z1 := Z.put (p' := p) (s' := t) (c' := c - 1) (m' := m) (w' := wd) h0
    have k2 := k1.trans (Kept.upd (o := .lst (fl b p t (c - 1) m wd)))
    refine ⟨_, rfl, a, _, _, _, rfl, rfl, SqL.of Z.at_, fl3, _, _, rfl, rfl, _, rfl, a, _, _, _, rfl, rfl, Z.at_, rfl, ?_⟩
    refine ⟨_, rfl, a, _, _, _, rfl, rfl, SqL.of Z1.at_, fl5, rfl, _, rfl, ?_⟩
    refine ite2 (fun _ => ?_) (fun _ => ?_)
    · have Z2 := Z1.put (p' := p) (s' := t) (c' := c - 1) (m' := (m * 48271 + t + 12345) % 2147483647) (w' := wd) h0
      refine ⟨_, rfl, a, _, _, _, rfl, rfl, SqL.of Z1.at_, fl4, _, _, rfl, rfl, .inr ⟨by decide, by decide⟩, _, rfl, a, _, _, _, rfl, rfl, SqL.of Z1.at_, fl2, _, _, rfl, rfl, _, _, rfl, rfl, .inl ⟨_, rfl, _, _, rfl, rfl, (by show (0 : Int) < 2147483647; decide), _, rfl, a, _, _, _, rfl, rfl, Z1.at_, rfl, ?_⟩⟩
      refine ⟨_, rfl, a, _, _, _, rfl, rfl, SqL.of Z2.at_, fl4, _, _, rfl, rfl, ⟨by decide, by decide⟩, .inl ⟨_, rfl, _, rfl, _, _, rfl, _, _, rfl, rfl, lim_pos n, ?_⟩⟩
      exact k _ _ (Int.emod_nonneg _ (Int.ne_of_gt (lim_pos n))) (Int.emod_lt_of_pos _ (lim_pos n)) ⟨_, _, _, _, _, _, _, Z2⟩ (k2.trans Kept.upd)
    · have Z2 := Z1.put (p' := p) (s' := t / lim n) (c' := c - 1) (m' := m) (w' := wd) h0
      have Z3 := Z2.put (p' := p) (s' := t / lim n) (c' := 0) (m' := m) (w' := wd) h0
      refine ⟨_, rfl, a, _, _, _, rfl, rfl, SqL.of Z1.at_, fl2, .inl ⟨_, rfl, _, rfl, _, _, rfl, _, _, rfl, rfl, lim_pos n, ?_⟩⟩
      refine ⟨_, rfl, a, _, _, _, rfl, rfl, SqL.of Z1.at_, fl2, _, rfl, _, _, rfl, _, _, rfl, rfl, wide_div (lim_pos n) (lim_small hn) (by decide) (by decide), _, rfl, a, _, _, _, rfl, rfl, Z1.at_, rfl, ?_⟩
      refine ⟨_, rfl, a, _, _, _, rfl, rfl, SqL.of Z2.at_, fl2, rfl, _, rfl, ?_⟩
      refine ite2 (fun _ => ⟨_, rfl, a, _, _, _, rfl, rfl, Z2.at_, rfl, _, rfl, ?_⟩) (fun _ => ⟨_, rfl, ?_⟩)
      · exact k _ _ (Int.emod_nonneg _ (Int.ne_of_gt (lim_pos n))) (Int.emod_lt_of_pos _ (lim_pos n)) ⟨_, _, _, _, _, _, _, Z3⟩ (k2.trans (Kept.upd.trans Kept.upd))
      · exact k _ _ (Int.emod_nonneg _ (Int.ne_of_gt (lim_pos n))) (Int.emod_lt_of_pos _ (lim_pos n)) ⟨_, _, _, _, _, _, _, Z2⟩ (k2.trans Kept.upd)
theorem scPick : FnScope ["flow", "things"] ["flow", "things"] (defScope sPick) := ⟨rfl, rfl, rfl, by decide +kernel, rfl, by decide +kernel, by decide +kernel⟩
theorem ok_pick {f fD : Addr} {fd fdD : FuncData} (F : Fun K "_law_pick" "_law_pick" sPick f fd) (T : Bt mg) (GD : FnOk P w K mg base CX0 2 fD fdD ["flow", "many"] spDraw) (FD : PySem.W.keepIn K (.ref fD) = true) (bD : Binds K fdD ["flow", "many"] []) (mD : mg "_law_draw" = some (.ref fD)) :
    FnOk P w K mg base CX0 3 f fd ["flow", "things"] spPick := by
  refine F.ok scPick (fun vs H Q E h => ?_) (fun cdv A outer s H vs Q E hr h => ?_)
  · obtain ⟨a, t, xs, rfl, _⟩ := h
    rfl
  obtain ⟨a, t, xs, rfl, Fl, ht, ne, hl, hm, k⟩ := h
  refine ⟨_, pss_one (ps_ret (pe_ix ix_list (pv 1) (pe_call GD hr rfl mD FD bD .nil pass0 (pa_cons (pv 0) (pa_cons (pe_callB call_len_seq rfl T.len PySem.boot_len (pa_cons (pv 1) pa_nil)) pa_nil))) (fun _ _ => rfl))), ?_⟩
  refine ⟨_, rfl, _, rfl, _, rfl, t, _, rfl, .inl (SqL.of ht), a, _, rfl, Fl, ?_, fun r H' h0 h1 F1 k1 => ?_⟩
  · have : (1000 : Nat) < 2 ^ 200 := by decide
    omega
  · have h2 : r < (xs.length : Int) := by
      have : r < (if (xs.length : Int) > 1 then (xs.length : Int) else 1) := h1
      split at this <;> omega
    have lt : r.toNat < xs.length := by omega
    exact ⟨t, _, _, _, rfl, rfl, SqL.of (k1 _ _ ne ht), at_of (by omega : r = ((r.toNat : Nat) : Int)) (List.getElem?_eq_getElem lt), k _ _ (List.getElem_mem lt) F1 k1⟩
end
end Q

set_option Elab.async false
set_option linter.all false
set_option maxRecDepth 100000
set_option maxHeartbeats 4000000
/-! ### a def that is called within an except suite -/
namespace Q
open PySem L2 L2H
theorem Fun_okH {P : Program} {w : World} {K : PySem.W.Frag} {mg : Str → Option Value} {base : Heap} {x qual : Str} {st : Stmt} {f : Addr} {fd : FuncData} {N ps : List Str} {k : Nat} {sp : Sp}
    (F : Fun K x qual st f fd) (S : FnScope N ps (defScope st)) (len : ∀ vs H Q E, sp vs H Q E → vs.length = ps.length)
    (hbody : ∀ (cdv : Value) (A : Around) (outer : List Env) (s : Shared) (H : Hp) (vs : List V) (Q : VK) (E : XK) (p : Addr × Obj), Hot1 A p →
      RoomH k (A.deeper (PyProof.Rows.envOfC qual (defScope st) s.heap.objs.size f cdv)) → sp vs H Q E →
      ∃ t, PSs (cxH CX0 P w K mg base N qual (defScope st) f cdv A outer s H E p) (defBody st) t ∧ t { nx := fun _ H' => Q .non H', rt := Q } (L2.start N vs) H) :
    FnH P w K mg base CX0 (k + 1) f fd ps sp := by
  obtain ⟨oc, od, kV, doc, pm, an, cdv, ct, osl, rfl, lk, hcd⟩ := F.ex
  exact fn_ofH lk hcd S len fun A outer s H vs Q E p hot hr h => hbody cdv A outer s H vs Q E p hot hr h
/-! ### what may be compared: written data, to a depth -/
inductive Atom : V → Prop
  | non : Atom .non
  | bl (b : Bool) : Atom (.bl b)
  | int (i : Int) : Atom (.int i)
  | str (x : Str) : Atom (.str x)
def Dt (H : Hp) : Nat → V → Prop
  | 0, _ => False
  | n + 1, v => Atom v ∨ ∃ (p : Addr) (xs : List V), v = .ref p ∧ (H p = some (.lst xs) ∨ H p = some (.tup xs)) ∧ xs.length ≤ 1000 ∧ ∀ x ∈ xs, Dt H n x
theorem Dt.same {H H' : Hp} (s : Same H H') : ∀ {n : Nat} {v : V}, Dt H n v → Dt H' n v
  | 0, _, h => h.elim
  | n + 1, v, .inl h => .inl h
  | n + 1, v, .inr ⟨p, xs, e, h, l, a⟩ => .inr ⟨p, xs, e, h.elim (fun q => .inl (s _ _ q)) (fun q => .inr (s _ _ q)), l, fun x hx => Dt.same s (a x hx)⟩
/-- same(v, v) -/
def spSame (n : Nat) : Sp := fun vs H Q _ => ∃ v, vs = [v, v] ∧ Dt H n v ∧ ∀ H', Same H H' → Q (.bl true) H'
structure Bs (mg : Str → Option Value) : Prop where
  isi : mg "isinstance" = none
  tup : mg "tuple" = none
  list : mg "list" = none
  len : mg "len" = none
  all : mg "all" = none
  range : mg "range" = none
  str : mg "str" = none
  bool : mg "bool" = none
  int : mg "int" = none
theorem new_same {H : Hp} {p : Addr} (h : H p = none) (o : HO) : Same H (upd H p o) := fun b u q => by
  rw [upd_ne (ne_of_none q h)]
  exact q
section
variable {P : Program} {w : World} {K : PySem.W.Frag} {mg : Str → Option Value} {base : Heap}
theorem scSame : FnScope ["actual", "due", "k"] ["actual", "due"] (defScope sSame) := ⟨rfl, rfl, rfl, by decide +kernel, rfl, by decide +kernel, by decide +kernel⟩
theorem same_none {f : Addr} {fd : FuncData} : FnH P w K mg base CX0 0 f fd ["actual", "due"] (spSame 0) := by
  have no : ∀ vs H Q E, ¬ spSame 0 vs H Q E := fun vs H Q E h => by
    obtain ⟨v, _, d, _⟩ := h
    exact d
  exact ⟨fun vs H Q E h => absurd h (no vs H Q E), fun A outer s H args us vs Q E p _ _ _ _ _ _ h => absurd h (no vs H Q E)⟩
/-- isinstance(x, T) -/
theorem pe_isi {X : Cx} {e1 : Expr} {t1 : TE} {T : Str} {tn : String} {p p2 pos : Pos} (hi : X.mg "isinstance" = none) (hm : X.mg T = none) (hv : PySem.bootBuiltins T = some (.type tn)) (h1 : PE X e1 t1)
    (g1 : Gl X "isinstance" := by rfl) (g2 : Gl X T := by rfl) (hn : T ≠ "__name__" := by decide) (hd : (T == ("__debug__" : Str)) = false := by decide)
    (he : starEach (e1 :: [.Name T p2]) X.env = (false, eval e1 X.env) :: starEach [.Name T p2] X.env := by rfl) (hpl : (backTo pos (starEach [.Name T p2] X.env)).any (·.1) = false := by rfl)
    (he2 : starEach (Expr.Name T p2 :: []) X.env = (false, eval (.Name T p2) X.env) :: starEach [] X.env := by rfl) :
    PE X (.Call (.Name "isinstance" p) [e1, .Name T p2] [] pos) (tCB (rIsi X.K) (tCons t1 (tCons (tC (.ty tn)) tNil))) :=
  pe_callB call_isi g1 hi (by decide +kernel) (pa_cons h1 (pa_cons (pe_bltn (v := .ty tn) g2 hm hv rfl hn hd) pa_nil he2) he) (he := he) (hpl := hpl)
def rBoth (K : PySem.W.Frag) : V → V → Hp → VK → Prop := fun x y H Q => rIxL K x y H Q ∨ rIxT K x y H Q
theorem ix_both {X : Cx} (K : PySem.W.Frag) (h : X.K = K) : IxR X (rBoth K) := by
  subst h
  exact IxR.or ix_list ix_tup
theorem iteDT {p A B : Prop} [Decidable p] (hp : p) (h : A) : if decide p = true then A else B := by
  rw [decide_eq_true hp]
  exact iteT h
theorem iteDF {p A B : Prop} [Decidable p] (hp : ¬ p) (h : B) : if decide p = true then A else B := by
  rw [decide_eq_false hp]
  exact iteF h
theorem q_true {Q : VK} {H : Hp} {c : Bool} (h : c = true) (q : Q (.bl true) H) : Q (.bl c) H := by
  rw [h]
  exact q
theorem all_true (n : Nat) : (List.replicate n true).all id = true := by
  induction n with
  | zero => rfl
  | succ n ih => rw [List.replicate_succ, List.all_cons, ih] <;> rfl
theorem passN {X : Cx} {σ : L2.St} : PassesAt CX0 X σ E0 := fun _ _ _ _ _ _ c => c.elim
theorem ok_same {f : Addr} {fd : FuncData} {n : Nat} (F : Fun K "_law_same" "_law_same" sSame f fd) (T : Bs mg) (G : FnH P w K mg base CX0 n f fd ["actual", "due"] (spSame n)) (bG : Binds K fd ["actual", "due"] []) (mG : mg "_law_same" = some (.ref f)) :
    FnH P w K mg base CX0 (n + 1) f fd ["actual", "due"] (spSame (n + 1)) := by
  refine Fun_okH F scSame (fun vs H Q E h => ?_) (fun cdv A outer s H vs Q E pin hot hr h => ?_)
  · obtain ⟨v, rfl, _⟩ := h
    rfl
  obtain ⟨v, rfl, hd, k⟩ := h
  have hotX : HotC (cxH CX0 P w K mg base ["actual", "due", "k"] "_law_same" (defScope sSame) f cdv A outer s H E pin) := ⟨pin, hot, List.mem_cons_self⟩
  have vt : PySem.bootBuiltins "tuple" = some (.type "tuple") := by decide +kernel
  have vl : PySem.bootBuiltins "list" = some (.type "list") := by decide +kernel
  have vs_ : PySem.bootBuiltins "str" = some (.type "str") := by decide +kernel
  have vb : PySem.bootBuiltins "bool" = some (.type "bool") := by decide +kernel
  have vi : PySem.bootBuiltins "int" = some (.type "int") := by decide +kernel
  refine ⟨_, pss_cons (ps_if (PW.pt (pw_or (pt_val (pe_isi T.isi T.tup vt (pv 1))) (pw_or1 (pt_val (pe_isi T.isi T.list vl (pv 1))))))
      (pss_cons (ps_if (PW.pt (pw_or (pt_cmpR op_ne (pe_isi T.isi T.tup vt (pv 1)) (pe_isi T.isi T.tup vt (pv 0)) (nomark _)) (pw_or1 (pt_cmpR op_ne (pe_isi T.isi T.list vl (pv 1)) (pe_isi T.isi T.list vl (pv 0)) (nomark _)))))
        (pss_one (ps_ret pe_bl)) pss_nil)
      (pss_one (ps_ret (pe_and (pe_cmpR op_eq (pe_callB call_len_seq rfl T.len PySem.boot_len (pa_cons (pv 0) pa_nil)) (pe_callB call_len_seq rfl T.len PySem.boot_len (pa_cons (pv 1) pa_nil)) (nomark _))
        (pe_one (pe_callB (XA.cr_allH hotX) rfl T.all (by decide +kernel) (pa_cons (XA.pe_lcH (own := [("k", 2)]) (g := gName 2) (tt := tYes) (p := pin) hot List.mem_cons_self scSame.nd
          (pi_range1H rfl T.range (pa_cons (pe_callB call_len_seq rfl T.len PySem.boot_len (pa_cons (pv 1) pa_nil)) pa_nil)) (blkOk_by (N := ["actual", "due", "k"]) (sc := defScope sSame) (by decide +kernel))
          (fun _ _ _ _ _ => pg_name (i := 2) scSame.nd rfl (.inl rfl)) (fun _ _ _ _ _ => pts_nil)
          (fun _ _ _ _ _ => pe_callH G hr ⟨pin, hot, List.mem_cons_self⟩ rfl mG F.kp bG (fun _ => passN) (pa_cons (pe_ix (ix_both K rfl) (pv 0) (pv 2) (fun _ _ => rfl)) (pa_cons (pe_ix (ix_both K rfl) (pv 1) (pv 2) (fun _ _ => rfl)) pa_nil)))) pa_nil))))))) pss_nil)
    (pss_cons (ps_if (pt_cmp (pc_isN (pv 1))) (pss_one (ps_ret (pe_cmp (pc_isN (pv 0))))) pss_nil)
    (pss_cons (ps_if (pt_val (pe_isi T.isi T.str vs_ (pv 1))) (pss_one (ps_ret (pe_and (pe_isi T.isi T.str vs_ (pv 0)) (pe_one (pe_cmpR op_eq (pv 0) (pv 1) (nomark _)))))) pss_nil)
    (pss_cons (ps_if (pt_val (pe_isi T.isi T.bool vb (pv 1))) (pss_one (ps_ret (pe_and (pe_isi T.isi T.bool vb (pv 0)) (pe_one (pe_cmpR op_eq (pv 0) (pv 1) (nomark _)))))) pss_nil)
    (pss_one (ps_ret (pe_and (pe_isi T.isi T.int vi (pv 0)) (pe_and (pe_not (pe_isi T.isi T.bool vb (pv 0))) (pe_one (pe_cmpR op_eq (pv 0) (pv 1) (nomark _)))))))))), ?_⟩
  rcases hd with at_ | ⟨p, xs, rfl, hp, hl, ha⟩
  · cases at_ with
    | non =>
      refine ⟨_, rfl, _, _, _, _, _, rfl, .ty _, .base .non, kit_ty (r := false) (by decide +kernel), _, rfl, iteF ⟨_, rfl, _, _, _, _, _, rfl, .ty _, .base .non, kit_ty (r := false) (by decide +kernel), _, rfl, iteF ?_⟩⟩
      exact ⟨_, rfl, _, rfl, iteDT rfl ⟨_, rfl, q_true (decide_eq_true rfl) (k H (Same.refl H))⟩⟩
    | str x =>
      refine ⟨_, rfl, _, _, _, _, _, rfl, .ty _, .base (.str x), kit_ty (r := false) (by decide +kernel), _, rfl, iteF ⟨_, rfl, _, _, _, _, _, rfl, .ty _, .base (.str x), kit_ty (r := false) (by decide +kernel), _, rfl, iteF ?_⟩⟩
      refine ⟨_, rfl, _, rfl, iteDF (by intro z; cases z) ⟨_, rfl, _, _, _, _, _, rfl, .ty _, .base (.str x), kit_ty (r := true) (by decide +kernel), _, rfl, iteT ?_⟩⟩
      exact ⟨_, rfl, _, _, _, _, _, rfl, .ty _, .base (.str x), kit_ty (r := true) (by decide +kernel), _, rfl, iteT ⟨_, rfl, _, rfl, rfl, q_true (decide_eq_true rfl) (k H (Same.refl H))⟩⟩
    | bl b =>
      refine ⟨_, rfl, _, _, _, _, _, rfl, .ty _, .base (.bl b), kit_ty (r := false) (by decide +kernel), _, rfl, iteF ⟨_, rfl, _, _, _, _, _, rfl, .ty _, .base (.bl b), kit_ty (r := false) (by decide +kernel), _, rfl, iteF ?_⟩⟩
      refine ⟨_, rfl, _, rfl, iteDF (by intro z; cases z) ⟨_, rfl, _, _, _, _, _, rfl, .ty _, .base (.bl b), kit_ty (r := false) (by decide +kernel), _, rfl, iteF ?_⟩⟩
      refine ⟨_, rfl, _, _, _, _, _, rfl, .ty _, .base (.bl b), kit_ty (r := true) (by decide +kernel), _, rfl, iteT ?_⟩
      exact ⟨_, rfl, _, _, _, _, _, rfl, .ty _, .base (.bl b), kit_ty (r := true) (by decide +kernel), _, rfl, iteT ⟨_, rfl, _, rfl, rfl, q_true (decide_eq_true rfl) (k H (Same.refl H))⟩⟩
    | int i =>
      refine ⟨_, rfl, _, _, _, _, _, rfl, .ty _, .base (.int i), kit_ty (r := false) (by decide +kernel), _, rfl, iteF ⟨_, rfl, _, _, _, _, _, rfl, .ty _, .base (.int i), kit_ty (r := false) (by decide +kernel), _, rfl, iteF ?_⟩⟩
      refine ⟨_, rfl, _, rfl, iteDF (by intro z; cases z) ⟨_, rfl, _, _, _, _, _, rfl, .ty _, .base (.int i), kit_ty (r := false) (by decide +kernel), _, rfl, iteF ?_⟩⟩
      refine ⟨_, rfl, _, _, _, _, _, rfl, .ty _, .base (.int i), kit_ty (r := false) (by decide +kernel), _, rfl, iteF ?_⟩
      refine ⟨_, rfl, _, _, _, _, _, rfl, .ty _, .base (.int i), kit_ty (r := true) (by decide +kernel), _, rfl, iteT ?_⟩
      exact ⟨_, rfl, _, _, _, _, _, rfl, .ty _, .base (.int i), kit_ty (r := false) (by decide +kernel), _, rfl, _, rfl, iteT ⟨_, rfl, _, rfl, rfl, q_true (decide_eq_true rfl) (k H (Same.refl H))⟩⟩
  · have small : (xs.length : Int) < 2 ^ 62 := by
      have : (1000 : Int) < 2 ^ 62 := by decide
      omega
    have big : -(2 ^ 62) ≤ (xs.length : Int) := by
      have : -(2 ^ 62) ≤ (0 : Int) := by decide
      omega
    -- the turns of the comprehension, whatever the sequence is
    have made : ∀ {H' : Hp} {D : Addr}, H' D = some (.lst ((List.replicate xs.length true).map V.bl)) → Same H H' → ∃ (a : Addr) (bs : List Bool), [V.ref D] = [V.ref a] ∧ SqL K H' a (bs.map V.bl) ∧ Q (.bl (bs.all id)) H' := fun h s5 =>
      ⟨_, _, rfl, SqL.of h, q_true (all_true _) (k _ s5)⟩
    rcases hp with h | h
    · refine ⟨_, rfl, _, _, _, _, _, rfl, .ty _, .base (.lst h), kit_ty (r := false) (by decide +kernel), _, rfl, iteF ⟨_, rfl, _, _, _, _, _, rfl, .ty _, .base (.lst h), kit_ty (r := true) (by decide +kernel), _, rfl, iteT ?_⟩⟩
      refine ⟨_, rfl, _, _, _, _, _, rfl, .ty _, .base (.lst h), kit_ty (r := false) (by decide +kernel), _, rfl, _, _, _, _, _, rfl, .ty _, .base (.lst h), kit_ty (r := false) (by decide +kernel), rfl, _, rfl, iteNS rfl ?_⟩
      refine ⟨_, rfl, _, _, _, _, _, rfl, .ty _, .base (.lst h), kit_ty (r := true) (by decide +kernel), _, rfl, _, _, _, _, _, rfl, .ty _, .base (.lst h), kit_ty (r := true) (by decide +kernel), rfl, _, rfl, iteNS rfl ?_⟩
      refine ⟨_, rfl, p, _, rfl, .inl (SqL.of h), _, rfl, p, _, rfl, .inl (SqL.of h), rfl, _, rfl, iteDT rfl ?_⟩
      refine ⟨_, rfl, p, _, rfl, .inl (SqL.of h), _, rfl, big, small, fun D hD => lc_range (lo := 0) (n := xs.length) (fun i H' => H' D = some (.lst ((List.replicate i true).map V.bl)) ∧ Same H H') ⟨upd_same, new_same hD _⟩ (fun i H' hi hP => ?_) (fun H' hP => made hP.1 hP.2)⟩
      obtain ⟨hL, s5⟩ := hP
      have hx : xs[i]? = some xs[i] := List.getElem?_eq_getElem hi
      have ax : atI xs (0 + (i : Int)) = some xs[i] := at_of (by omega : (0 : Int) + (i : Int) = ((i : Nat) : Int)) hx
      refine ⟨rfl, ?_⟩
      unfold tYes
      refine iteT ?_
      refine ⟨_, rfl, _, rfl, .inl ⟨p, xs, _, _, rfl, rfl, SqL.of (s5 _ _ h), ax, _, rfl, _, rfl, .inl ⟨p, xs, _, _, rfl, rfl, SqL.of (s5 _ _ h), ax, xs[i], rfl, Dt.same s5 (ha _ (List.getElem_mem hi)), fun H2 s6 => ?_⟩⟩⟩
      have nD : ∀ b o, H b = some o → b ≠ D := fun b o e => ne_of_none e hD
      refine ⟨_, s6 _ _ hL, small1000 (by rw [List.length_map, List.length_replicate]; omega), ?_, fun b o e => ?_⟩
      · rw [upd_same, List.replicate_succ', List.map_append]
        rfl
      · rw [upd_ne (nD b o e)]
        exact s6 _ _ (s5 _ _ e)
    · refine ⟨_, rfl, _, _, _, _, _, rfl, .ty _, .base (.tup h), kit_ty (r := true) (by decide +kernel), _, rfl, iteT (iteT ?_)⟩
      refine ⟨_, rfl, _, _, _, _, _, rfl, .ty _, .base (.tup h), kit_ty (r := true) (by decide +kernel), _, rfl, _, _, _, _, _, rfl, .ty _, .base (.tup h), kit_ty (r := true) (by decide +kernel), rfl, _, rfl, iteNS rfl ?_⟩
      refine ⟨_, rfl, _, _, _, _, _, rfl, .ty _, .base (.tup h), kit_ty (r := false) (by decide +kernel), _, rfl, _, _, _, _, _, rfl, .ty _, .base (.tup h), kit_ty (r := false) (by decide +kernel), rfl, _, rfl, iteNS rfl ?_⟩
      refine ⟨_, rfl, p, _, rfl, .inr (SqT.of h), _, rfl, p, _, rfl, .inr (SqT.of h), rfl, _, rfl, iteDT rfl ?_⟩
      refine ⟨_, rfl, p, _, rfl, .inr (SqT.of h), _, rfl, big, small, fun D hD => lc_range (lo := 0) (n := xs.length) (fun i H' => H' D = some (.lst ((List.replicate i true).map V.bl)) ∧ Same H H') ⟨upd_same, new_same hD _⟩ (fun i H' hi hP => ?_) (fun H' hP => made hP.1 hP.2)⟩
      obtain ⟨hL, s5⟩ := hP
      have hx : xs[i]? = some xs[i] := List.getElem?_eq_getElem hi
      have ax : atI xs (0 + (i : Int)) = some xs[i] := at_of (by omega : (0 : Int) + (i : Int) = ((i : Nat) : Int)) hx
      refine ⟨rfl, ?_⟩
      unfold tYes
      refine iteT ?_
      refine ⟨_, rfl, _, rfl, .inr ⟨p, xs, _, _, rfl, rfl, SqT.of (s5 _ _ h), ax, _, rfl, _, rfl, .inr ⟨p, xs, _, _, rfl, rfl, SqT.of (s5 _ _ h), ax, xs[i], rfl, Dt.same s5 (ha _ (List.getElem_mem hi)), fun H2 s6 => ?_⟩⟩⟩
      have nD : ∀ b o, H b = some o → b ≠ D := fun b o e => ne_of_none e hD
      refine ⟨_, s6 _ _ hL, small1000 (by rw [List.length_map, List.length_replicate]; omega), ?_, fun b o e => ?_⟩
      · rw [upd_same, List.replicate_succ', List.map_append]
        rfl
      · rw [upd_ne (nD b o e)]
        exact s6 _ _ (s5 _ _ e)
/-- the recursion, to any depth -/
theorem same_all {f : Addr} {fd : FuncData} (F : Fun K "_law_same" "_law_same" sSame f fd) (T : Bs mg) (bG : Binds K fd ["actual", "due"] []) (mG : mg "_law_same" = some (.ref f)) :
    ∀ n : Nat, FnH P w K mg base CX0 n f fd ["actual", "due"] (spSame n)
  | 0 => same_none
  | n + 1 => ok_same F T (same_all F T bG mG n) bG mG
end
end Q

set_option Elab.async false
set_option linter.all false
set_option maxRecDepth 100000
set_option maxHeartbeats 4000000
namespace Q
open PySem L2 L2H XT XM XH
/-! ### the seven errors by number: their classes C i, their base at B -/
def fname : Nat → Str
  | 0 => "at"
  | 1 => "name"
  | 2 => "at"
  | 3 => "at"
  | 4 => "at"
  | _ => "word"
structure Er (K : PySem.W.Frag) (mg : Str → Option Value) (C I : Nat → Addr) (B : Addr) : Prop where
  t0 : XcT K (C 0) (I 0) "at" "BadValue.__init__"
  t1 : XcT K (C 1) (I 1) "name" "BadField.__init__"
  t2 : XcT K (C 2) (I 2) "at" "BadPaper.__init__"
  t3 : XcT K (C 3) (I 3) "at" "BadLog.__init__"
  t4 : XcT K (C 4) (I 4) "at" "BadLine.__init__"
  t5 : XcT K (C 5) (I 5) "word" "TooMany.__init__"
  t6 : XcT K (C 6) (I 6) "word" "NothingThere.__init__"
  g0 : mg "BadValue" = some (.ref (C 0))
  g1 : mg "BadField" = some (.ref (C 1))
  g2 : mg "BadPaper" = some (.ref (C 2))
  g3 : mg "BadLog" = some (.ref (C 3))
  g4 : mg "BadLine" = some (.ref (C 4))
  g5 : mg "TooMany" = some (.ref (C 5))
  g6 : mg "NothingThere" = some (.ref (C 6))
  gB : mg "TalkError" = some (.ref B)
  /-- which class is which one's, in an except clause and in isinstance -/
  exm : ∀ i j, i < 7 → j < 7 → PySem.W.exmOne K (.ref (C i)) (.ref (C j)) = some (i == j)
  kit : ∀ i j, i < 7 → j < 7 → PySem.W.kitOne K (.ref (C i)) (.ref (C j)) = some (i == j)
  exB : ∀ i, i < 7 → PySem.W.exmOne K (.ref (C i)) (.ref B) = some true
  kno : ∀ i, i < 7 → PySem.W.kitAny K (.ref (C i)) [.type "ValueError", .type "LookupError", .type "ArithmeticError"] = some false
  cq : ∀ i, i < 7 → ClsQ K (C i)
theorem xf_of {K : PySem.W.Frag} {C fI : Addr} {f q : Str} (T : XcT K C fI f q) : XfC K C := ⟨T.ga, T.gg, T.exC, T.hdC⟩
def spRaise (C : Nat → Addr) : Sp := fun vs H _ E => ∃ (k : Int) (v : V), vs = [.int k, v] ∧ 0 ≤ k ∧ k ≤ 6 ∧
  ∀ d, H d = none → E (.ref (C k.toNat)) (some d) (upd H d (.xd [(fname k.toNat, v)]))
section
variable {P : Program} {w : World} {K : PySem.W.Frag} {mg : Str → Option Value} {base : Heap} {C I : Nat → Addr} {B : Addr}
theorem Fun_okN {x qual : Str} {st : Stmt} {f : Addr} {fd : FuncData} {N ps : List Str} {k : Nat} {sp : Sp} (F : Fun K x qual st f fd) (S : FnScope N ps (defScope st)) (len : ∀ vs H Q E, sp vs H Q E → vs.length = ps.length)
    (hbody : ∀ (cdv : Value) (A : Around) (outer : List Env) (s : Shared) (H : Hp) (vs : List V) (Q : VK) (E : XK), Room k (A.deeper (PyProof.Rows.envOfC qual (defScope st) s.heap.objs.size f cdv)) → sp vs H Q E →
      ∃ t, PSs (cxOf (L2N.CX P w) P w K mg base N qual (defScope st) f cdv A outer s H E) (defBody st) t ∧ t { nx := fun _ H' => Q .non H', rt := Q } (start N vs) H) :
    FnOk P w K mg base (L2N.CX P w) (k + 1) f fd ps sp := by
  obtain ⟨oc, od, kV, doc, pm, an, cdv, ct, osl, rfl, lk, hcd⟩ := F.ex
  exact fn_of lk hcd S len fun A outer s H vs Q E hr hsp => hbody cdv A outer s H vs Q E hr hsp
theorem takesF {X : Cx} : L2N.Takes X (fun _ _ _ _ => False) := fun _ _ x => by
  obtain ⟨_, _, _, _, _, _, _, _, _, _, _, _, _, _, _, _, z⟩ := x
  exact z.elim
theorem scRaise : FnScope ["kind", "given"] ["kind", "given"] (defScope sRaise) := ⟨rfl, rfl, rfl, by decide +kernel, rfl, by decide +kernel, by decide +kernel⟩
theorem ok_raise {f : Addr} {fd : FuncData} (F : Fun K "_law_raise" "_law_raise" sRaise f fd) (T : Er K mg C I B) : FnOk P w K mg base (L2N.CX P w) 3 f fd ["kind", "given"] (spRaise C) := by
  refine Fun_okN F scRaise (fun vs H Q E h => ?_) (fun cdv A outer s H vs Q E hr h => ?_)
  · obtain ⟨k, v, rfl, _⟩ := h
    rfl
  obtain ⟨k, v, rfl, h0, h6, kE⟩ := h
  refine ⟨_, pss_cons (ps_if (pt_cmpR op_eq (pv 0) pe_int (nomark _)) (pss_one (L2N.ps_raise rfl (L2N.takes_of rfl rfl rfl rfl) (pmk T.t0 T.g0 hr (pa_cons (pv 1) pa_nil)))) pss_nil)
    (pss_cons (ps_if (pt_cmpR op_eq (pv 0) pe_int (nomark _)) (pss_one (L2N.ps_raise rfl (L2N.takes_of rfl rfl rfl rfl) (pmk T.t1 T.g1 hr (pa_cons (pv 1) pa_nil)))) pss_nil)
    (pss_cons (ps_if (pt_cmpR op_eq (pv 0) pe_int (nomark _)) (pss_one (L2N.ps_raise rfl (L2N.takes_of rfl rfl rfl rfl) (pmk T.t2 T.g2 hr (pa_cons (pv 1) pa_nil)))) pss_nil)
    (pss_cons (ps_if (pt_cmpR op_eq (pv 0) pe_int (nomark _)) (pss_one (L2N.ps_raise rfl (L2N.takes_of rfl rfl rfl rfl) (pmk T.t3 T.g3 hr (pa_cons (pv 1) pa_nil)))) pss_nil)
    (pss_cons (ps_if (pt_cmpR op_eq (pv 0) pe_int (nomark _)) (pss_one (L2N.ps_raise rfl (L2N.takes_of rfl rfl rfl rfl) (pmk T.t4 T.g4 hr (pa_cons (pv 1) pa_nil)))) pss_nil)
    (pss_cons (ps_if (pt_cmpR op_eq (pv 0) pe_int (nomark _)) (pss_one (L2N.ps_raise rfl (L2N.takes_of rfl rfl rfl rfl) (pmk T.t5 T.g5 hr (pa_cons (pv 1) pa_nil)))) pss_nil)
    (pss_one (L2N.ps_raise rfl (L2N.takes_of rfl rfl rfl rfl) (pmk T.t6 T.g6 hr (pa_cons (pv 1) pa_nil))))))))), ?_⟩
  have eqk : ∀ {z : Int}, decide (V.int k = V.int z) = true → k = z := fun h => V.int.inj (of_decide_eq_true h)
  have nek : ∀ {z : Int}, ¬ decide (V.int k = V.int z) = true → k ≠ z := fun h e => h (decide_eq_true (by rw [e]))
  refine ⟨_, rfl, rfl, _, rfl, ite2 (fun c => ?_) (fun n0 => ?_)⟩
  · obtain rfl := eqk c
    exact ⟨_, rfl, _, rfl, fun d hd => kE d hd⟩
  refine ⟨_, rfl, rfl, _, rfl, ite2 (fun c => ?_) (fun n1 => ?_)⟩
  · obtain rfl := eqk c
    exact ⟨_, rfl, _, rfl, fun d hd => kE d hd⟩
  refine ⟨_, rfl, rfl, _, rfl, ite2 (fun c => ?_) (fun n2 => ?_)⟩
  · obtain rfl := eqk c
    exact ⟨_, rfl, _, rfl, fun d hd => kE d hd⟩
  refine ⟨_, rfl, rfl, _, rfl, ite2 (fun c => ?_) (fun n3 => ?_)⟩
  · obtain rfl := eqk c
    exact ⟨_, rfl, _, rfl, fun d hd => kE d hd⟩
  refine ⟨_, rfl, rfl, _, rfl, ite2 (fun c => ?_) (fun n4 => ?_)⟩
  · obtain rfl := eqk c
    exact ⟨_, rfl, _, rfl, fun d hd => kE d hd⟩
  refine ⟨_, rfl, rfl, _, rfl, ite2 (fun c => ?_) (fun n5 => ?_)⟩
  · obtain rfl := eqk c
    exact ⟨_, rfl, _, rfl, fun d hd => kE d hd⟩
  have e6 : k = 6 := by
    have := nek n0
    have := nek n1
    have := nek n2
    have := nek n3
    have := nek n4
    have := nek n5
    omega
  subst e6
  exact ⟨_, rfl, _, rfl, fun d hd => kE d hd⟩
/-! ### _law_kept: each error is caught by its own clause, and holds what was given -/
def tsK (K : PySem.W.Frag) (C : Nat → Addr) (i : Nat) (z : Int) : Addr → Value → Option Addr → TS := fun a cls d =>
  tRet (tAndV (tOp rEq (tVar 0) (tC (.int z))) (tCallS (spSame 3) (fun _ => E0) (tCons (tXf a cls d (C i) (fname i) (tVar 2)) (tCons (tVar 1) tNil))))
def clsK (K : PySem.W.Frag) (C : Nat → Addr) : List Cl :=
  [⟨.ref (C 0), 2, tsK K C 0 0⟩, ⟨.ref (C 1), 2, tsK K C 1 1⟩, ⟨.ref (C 2), 2, tsK K C 2 2⟩, ⟨.ref (C 3), 2, tsK K C 3 3⟩, ⟨.ref (C 4), 2, tsK K C 4 4⟩, ⟨.ref (C 5), 2, tsK K C 5 5⟩, ⟨.ref (C 6), 2, tsK K C 6 6⟩]
def spKept : Sp := fun vs H Q _ => ∃ (k : Int) (v : V), vs = [.int k, v] ∧ 0 ≤ k ∧ k ≤ 6 ∧ Dt H 3 v ∧ ∀ H', Same H H' → Q (.bl true) H'
theorem hot_of {X : Cx} {a : Addr} {oe : Obj} {cls : Value} {d : Option Addr} {pn : List (Addr × Obj)} (hz : L2N.Zn cls d oe) (hf : ∃ vs, oe.data = .fields vs) : Hot1 (X.suite a ((a, oe) :: pn)).A (a, oe) := by
  obtain ⟨vs, hv⟩ := hf
  exact ⟨rfl, vs, hv, hz.2.2 vs hv⟩
theorem scKept : FnScope ["kind", "given", "e"] ["kind", "given"] (defScope sKept) := ⟨rfl, rfl, rfl, by decide +kernel, rfl, by decide +kernel, by decide +kernel⟩
theorem ok_kept {f fR fS : Addr} {fd fdR fdS : FuncData} (F : Fun K "_law_kept" "_law_kept" sKept f fd) (T : Er K mg C I B)
    (FR : Fun K "_law_raise" "_law_raise" sRaise fR fdR) (bR : Binds K fdR ["kind", "given"] []) (mR : mg "_law_raise" = some (.ref fR))
    (GS : FnH P w K mg base CX0 3 fS fdS ["actual", "due"] (spSame 3)) (kS : PySem.W.keepIn K (.ref fS) = true) (bS : Binds K fdS ["actual", "due"] []) (mS : mg "_law_same" = some (.ref fS)) :
    FnOk P w K mg base CX0 4 f fd ["kind", "given"] spKept := by
  have GR : FnOk P w K mg base (L2N.CX P w) 3 fR fdR ["kind", "given"] (spRaise C) := ok_raise FR T
  refine F.ok scKept (fun vs H Q E h => ?_) (fun cdv A outer s H vs Q E hr h => ?_)
  · obtain ⟨k, v, rfl, _⟩ := h
    rfl
  obtain ⟨k, v, rfl, h0, h6, hd, kq⟩ := h
  refine ⟨_, pss_cons (ps_try_cls (tb := fun W => tDrop (tCallS (spRaise C) (L2.WE W) (tCons (tVar 0) (tCons (tVar 1) tNil)))) (l := clsK K C) (Wout := fun _ _ _ _ => False) rfl rfl scKept.nd takesF
      (fun W pn xe tk _ => pss_one (ps_expr (pe_callS GR hr rfl mR FR.kp bR (fun σ => L2N.passAt tk σ) (pa_cons (pv 0) (pa_cons (pv 1) pa_nil)))))
      (.cons ⟨rfl, by decide, .inl T.g0⟩ rfl rfl (fun a oe cls d pn hz hf => pss_one (ps_ret (pe_and (pe_cmpR op_eq (pv 0) pe_int (nomark _)) (pe_one (pe_callH GS ⟨hr.dp, hr.un⟩ ⟨_, hot_of hz hf, List.mem_cons_self⟩ (by rfl) mS kS bS (fun _ => passN) (pa_cons (pe_xf (xf_of T.t0) T.t0.noN hz.zc hf (pv 2)) (pa_cons (pv 1) pa_nil)))))))
      (.cons ⟨rfl, by decide, .inl T.g1⟩ rfl rfl (fun a oe cls d pn hz hf => pss_one (ps_ret (pe_and (pe_cmpR op_eq (pv 0) pe_int (nomark _)) (pe_one (pe_callH GS ⟨hr.dp, hr.un⟩ ⟨_, hot_of hz hf, List.mem_cons_self⟩ (by rfl) mS kS bS (fun _ => passN) (pa_cons (pe_xf (xf_of T.t1) T.t1.noN hz.zc hf (pv 2)) (pa_cons (pv 1) pa_nil)))))))
      (.cons ⟨rfl, by decide, .inl T.g2⟩ rfl rfl (fun a oe cls d pn hz hf => pss_one (ps_ret (pe_and (pe_cmpR op_eq (pv 0) pe_int (nomark _)) (pe_one (pe_callH GS ⟨hr.dp, hr.un⟩ ⟨_, hot_of hz hf, List.mem_cons_self⟩ (by rfl) mS kS bS (fun _ => passN) (pa_cons (pe_xf (xf_of T.t2) T.t2.noN hz.zc hf (pv 2)) (pa_cons (pv 1) pa_nil)))))))
      (.cons ⟨rfl, by decide, .inl T.g3⟩ rfl rfl (fun a oe cls d pn hz hf => pss_one (ps_ret (pe_and (pe_cmpR op_eq (pv 0) pe_int (nomark _)) (pe_one (pe_callH GS ⟨hr.dp, hr.un⟩ ⟨_, hot_of hz hf, List.mem_cons_self⟩ (by rfl) mS kS bS (fun _ => passN) (pa_cons (pe_xf (xf_of T.t3) T.t3.noN hz.zc hf (pv 2)) (pa_cons (pv 1) pa_nil)))))))
      (.cons ⟨rfl, by decide, .inl T.g4⟩ rfl rfl (fun a oe cls d pn hz hf => pss_one (ps_ret (pe_and (pe_cmpR op_eq (pv 0) pe_int (nomark _)) (pe_one (pe_callH GS ⟨hr.dp, hr.un⟩ ⟨_, hot_of hz hf, List.mem_cons_self⟩ (by rfl) mS kS bS (fun _ => passN) (pa_cons (pe_xf (xf_of T.t4) T.t4.noN hz.zc hf (pv 2)) (pa_cons (pv 1) pa_nil)))))))
      (.cons ⟨rfl, by decide, .inl T.g5⟩ rfl rfl (fun a oe cls d pn hz hf => pss_one (ps_ret (pe_and (pe_cmpR op_eq (pv 0) pe_int (nomark _)) (pe_one (pe_callH GS ⟨hr.dp, hr.un⟩ ⟨_, hot_of hz hf, List.mem_cons_self⟩ (by rfl) mS kS bS (fun _ => passN) (pa_cons (pe_xf (xf_of T.t5) T.t5.noN hz.zc hf (pv 2)) (pa_cons (pv 1) pa_nil)))))))
      (.cons ⟨rfl, by decide, .inl T.g6⟩ rfl rfl (fun a oe cls d pn hz hf => pss_one (ps_ret (pe_and (pe_cmpR op_eq (pv 0) pe_int (nomark _)) (pe_one (pe_callH GS ⟨hr.dp, hr.un⟩ ⟨_, hot_of hz hf, List.mem_cons_self⟩ (by rfl) mS kS bS (fun _ => passN) (pa_cons (pe_xf (xf_of T.t6) T.t6.noN hz.zc hf (pv 2)) (pa_cons (pv 1) pa_nil)))))))
      .nil))))))))
    (pss_one (ps_ret pe_bl)), ?_⟩
  refine ⟨_, rfl, _, rfl, k, v, rfl, h0, h6, fun d hn => ?_⟩
  have s1 : Same H (upd H d (.xd [(fname k.toNat, v)])) := new_same hn _
  have hit : ∀ (i : Nat) (z : Int) (D : Ends) (a : Addr), k = z → k.toNat = i → D.rt = Q → tsK K C i z a (.ref (C k.toNat)) (some d) D [some (.int k), some v, some (.ref a)] (upd H d (.xd [(fname k.toNat, v)])) := by
    intro i z D a e1 e2 e3
    subst e2
    refine ⟨_, rfl, rfl, _, rfl, iteDT (by rw [e1]) ⟨_, rfl, rfl, rfl, d, _, v, rfl, upd_same, ?_, _, rfl, v, rfl, Dt.same s1 hd, fun H' s2 => ?_⟩⟩
    · simp [List.lookup]
    · rw [e3]
      exact kq H' (s1.trans s2)
  obtain ⟨n, rfl⟩ : ∃ n : Nat, k = (n : Int) := ⟨k.toNat, by omega⟩
  have hn7 : n < 7 := by omega
  have no : ∀ j, j < 7 → n ≠ j → PySem.W.exmOne K (.ref (C (n : Int).toNat)) (.ref (C j)) = some false := fun j hj hne => by
    rw [Int.toNat_natCast, T.exm n j hn7 hj]
    exact congrArg some (beq_eq_false_iff_ne.mpr hne)
  have yes : PySem.W.exmOne K (.ref (C (n : Int).toNat)) (.ref (C n)) = some true := by
    rw [Int.toNat_natCast, T.exm n n hn7 hn7]
    exact congrArg some (beq_self_eq_true n)
  have step : ∀ (j : Nat) (A : Prop) (Bp : Prop), True := fun _ _ _ => trivial
  match n, hn7 with
  | 0, _ => exact ⟨true, yes, fun _ a _ => hit 0 0 _ a rfl rfl rfl, fun z => Bool.noConfusion z⟩
  | 1, _ => exact ⟨false, no 0 (by decide) (by decide), (fun z => Bool.noConfusion z), fun _ => ⟨true, yes, fun _ a _ => hit 1 1 _ a rfl rfl rfl, fun z => Bool.noConfusion z⟩⟩
  | 2, _ => exact ⟨false, no 0 (by decide) (by decide), (fun z => Bool.noConfusion z), fun _ => ⟨false, no 1 (by decide) (by decide), (fun z => Bool.noConfusion z), fun _ => ⟨true, yes, fun _ a _ => hit 2 2 _ a rfl rfl rfl, fun z => Bool.noConfusion z⟩⟩⟩
  | 3, _ => exact ⟨false, no 0 (by decide) (by decide), (fun z => Bool.noConfusion z), fun _ => ⟨false, no 1 (by decide) (by decide), (fun z => Bool.noConfusion z), fun _ => ⟨false, no 2 (by decide) (by decide), (fun z => Bool.noConfusion z), fun _ => ⟨true, yes, fun _ a _ => hit 3 3 _ a rfl rfl rfl, fun z => Bool.noConfusion z⟩⟩⟩⟩
  | 4, _ => exact ⟨false, no 0 (by decide) (by decide), (fun z => Bool.noConfusion z), fun _ => ⟨false, no 1 (by decide) (by decide), (fun z => Bool.noConfusion z), fun _ => ⟨false, no 2 (by decide) (by decide), (fun z => Bool.noConfusion z), fun _ => ⟨false, no 3 (by decide) (by decide), (fun z => Bool.noConfusion z), fun _ => ⟨true, yes, fun _ a _ => hit 4 4 _ a rfl rfl rfl, fun z => Bool.noConfusion z⟩⟩⟩⟩⟩
  | 5, _ => exact ⟨false, no 0 (by decide) (by decide), (fun z => Bool.noConfusion z), fun _ => ⟨false, no 1 (by decide) (by decide), (fun z => Bool.noConfusion z), fun _ => ⟨false, no 2 (by decide) (by decide), (fun z => Bool.noConfusion z), fun _ => ⟨false, no 3 (by decide) (by decide), (fun z => Bool.noConfusion z), fun _ => ⟨false, no 4 (by decide) (by decide), (fun z => Bool.noConfusion z), fun _ => ⟨true, yes, fun _ a _ => hit 5 5 _ a rfl rfl rfl, fun z => Bool.noConfusion z⟩⟩⟩⟩⟩⟩
  | 6, _ => exact ⟨false, no 0 (by decide) (by decide), (fun z => Bool.noConfusion z), fun _ => ⟨false, no 1 (by decide) (by decide), (fun z => Bool.noConfusion z), fun _ => ⟨false, no 2 (by decide) (by decide), (fun z => Bool.noConfusion z), fun _ => ⟨false, no 3 (by decide) (by decide), (fun z => Bool.noConfusion z), fun _ => ⟨false, no 4 (by decide) (by decide), (fun z => Bool.noConfusion z), fun _ => ⟨false, no 5 (by decide) (by decide), (fun z => Bool.noConfusion z), fun _ => ⟨true, yes, fun _ a _ => hit 6 6 _ a rfl rfl rfl, fun z => Bool.noConfusion z⟩⟩⟩⟩⟩⟩⟩
end
end Q

set_option Elab.async false
set_option linter.all false
set_option maxRecDepth 100000
set_option maxHeartbeats 4000000
namespace Q
open PySem PySem.Spec L2 L2H XT XM XH
theorem is1 {X Y : Cx} {a : Addr} {oe : Obj} {pn : List (Addr × Obj)} {cls : Value} {d : Option Addr} (hz : L2N.Zn cls d oe) (hf : ∃ vs, oe.data = .fields vs) (K : PySem.W.Frag) (hK : Y.K = K) (e : Y = X.suite a ((a, oe) :: pn)) :
    CallR Y (.builtin "isinstance") (fun xs H Q => ∃ D, Held K cls d D H ∧ rIs1 K D a xs H Q) := by
  subst hK
  subst e
  exact call_is1 hz.zc hf
theorem isN {X Y : Cx} {a : Addr} {oe : Obj} {pn : List (Addr × Obj)} {cls : Value} {d : Option Addr} (hz : L2N.Zn cls d oe) (hf : ∃ vs, oe.data = .fields vs) (K : PySem.W.Frag) (hK : Y.K = K) (e : Y = X.suite a ((a, oe) :: pn)) :
    CallR Y (.builtin "isinstance") (fun xs H Q => ∃ D, Held K cls d D H ∧ rIsN K D a xs H Q) := by
  subst hK
  subst e
  exact call_isN hz.zc hf
structure Bc (mg : Str → Option Value) : Prop where
  isi : mg "isinstance" = none
  range : mg "range" = none
  ve : mg "ValueError" = none
  le : mg "LookupError" = none
  ae : mg "ArithmeticError" = none
def spClasses : Sp := fun vs H Q _ => ∃ (k : Int) (v : V), vs = [.int k, v] ∧ 0 ≤ k ∧ k ≤ 6 ∧ ∀ H', Same H H' → Q (.bl true) H'
theorem dpB {K : PySem.W.Frag} {H : Hp} : ∀ bs : List Bool, DpAll K H (bs.map V.bl) (bs.map PyData.bool)
  | [] => .nil
  | b :: r => .cons (.bl b) (dpB r)
def found7 (n : Nat) : List Bool := [n == 0, n == 1, n == 2, n == 3, n == 4, n == 5, n == 6]
def told (n i : Nat) : List Bool := (List.range i).map fun (j : Nat) => decide (V.int (0 + (j : Int)) = V.int (n : Int))
theorem told_more (n i : Nat) : told n (i + 1) = told n i ++ [decide (V.int (0 + (i : Int)) = V.int (n : Int))] := by
  unfold told
  rw [List.range_succ, List.map_append]
  rfl
theorem told_found : ∀ n, n < 7 → PyData.eqv (.list ((found7 n).map PyData.bool)) (.list ((told n 7).map PyData.bool)) = true := by
  decide +kernel
theorem found_shaped : ∀ n, n < 7 → SeqAt.shaped (.list ((found7 n).map PyData.bool)) = true ∧ SeqAt.shaped (.list ((told n 7).map PyData.bool)) = true := by
  decide +kernel
theorem told_len (n i : Nat) : (told n i).length = i := by
  unfold told
  rw [List.length_map, List.length_range]
section
variable {P : Program} {w : World} {K : PySem.W.Frag} {mg : Str → Option Value} {base : Heap} {C I : Nat → Addr} {B : Addr}
theorem scClasses : FnScope ["kind", "given", "e", "found", "k"] ["kind", "given"] (defScope sClasses) := ⟨rfl, rfl, rfl, by decide +kernel, rfl, by decide +kernel, by decide +kernel⟩
abbrev tIs (K : PySem.W.Frag) (cls : Value) (d : Option Addr) (a D : Addr) : TE := tCB (fun xs H Q => ∃ D, Held K cls d D H ∧ rIs1 K D a xs H Q) (tCons (tVar 2) (tCons (tC (.ref D)) tNil))
def tsC (K : PySem.W.Frag) (C : Nat → Addr) : Addr → Value → Option Addr → TS := fun a cls d =>
  tSeq (tAsg (tLst (tCons (tIs K cls d a (C 0)) (tCons (tIs K cls d a (C 1)) (tCons (tIs K cls d a (C 2)) (tCons (tIs K cls d a (C 3)) tNil))))) (gName 3))
  (tSeq (tAsg (tOp rCat (tVar 3) (tLst (tCons (tIs K cls d a (C 4)) (tCons (tIs K cls d a (C 5)) (tCons (tIs K cls d a (C 6)) tNil))))) (gName 3))
  (tSeq (tIfS (tB (tCB (fun xs H Q => ∃ D, Held K cls d D H ∧ rIsN K D a xs H Q) (tCons (tVar 2) (tCons (tTup (tCons (tC (.ty "ValueError")) (tCons (tC (.ty "LookupError")) (tCons (tC (.ty "ArithmeticError")) tNil)))) tNil)))) (tRet (tC (.bl false))) tNext)
  (tRet (tOp (rEqD K) (tVar 3) (tLc (iRng1 (tCons (tC (.int 7)) tNil)) (gName 4) tYes (tOp rEq (tVar 4) (tVar 0)) [4])))))
theorem ok_classes {f fR : Addr} {fd fdR : FuncData} (F : Fun K "_law_classes" "_law_classes" sClasses f fd) (T : Er K mg C I B) (U : Bc mg)
    (FR : Fun K "_law_raise" "_law_raise" sRaise fR fdR) (bR : Binds K fdR ["kind", "given"] []) (mR : mg "_law_raise" = some (.ref fR)) :
    FnOk P w K mg base CX0 4 f fd ["kind", "given"] spClasses := by
  have GR : FnOk P w K mg base (L2N.CX P w) 3 fR fdR ["kind", "given"] (spRaise C) := ok_raise FR T
  refine F.ok scClasses (fun vs H Q E h => ?_) (fun cdv A outer s H vs Q E hr h => ?_)
  · obtain ⟨k, v, rfl, _⟩ := h
    rfl
  obtain ⟨k, v, rfl, h0, h6, kq⟩ := h
  have vV : PySem.bootBuiltins "ValueError" = some (.type "ValueError") := by decide +kernel
  have vL : PySem.bootBuiltins "LookupError" = some (.type "LookupError") := by decide +kernel
  have vA : PySem.bootBuiltins "ArithmeticError" = some (.type "ArithmeticError") := by decide +kernel
  have vI : PySem.bootBuiltins "isinstance" = some (.builtin "isinstance") := by decide +kernel
  refine ⟨_, pss_cons (ps_try_cls (tb := fun W => tDrop (tCallS (spRaise C) (L2.WE W) (tCons (tVar 0) (tCons (tVar 1) tNil)))) (l := [⟨.ref B, 2, tsC K C⟩]) (Wout := fun _ _ _ _ => False) rfl rfl scClasses.nd takesF
      (fun W pn xe tk _ => pss_one (ps_expr (pe_callS GR hr rfl mR FR.kp bR (fun σ => L2N.passAt tk σ) (pa_cons (pv 0) (pa_cons (pv 1) pa_nil)))))
      (.cons ⟨rfl, by decide, .inl T.gB⟩ rfl rfl ?suite .nil))
    (pss_one (ps_ret pe_bl)), ?_⟩
  case suite =>
    intro a oe cls d pn hz hf
    show PSs _ _ (tsC K C a cls d)
    unfold tsC
    refine pss_cons ?s1 (pss_cons ?s2 (pss_cons ?s3 (pss_one ?s4)))
    case s1 => exact ps_set (i := 3) scClasses.nd rfl (.inl rfl) (pe_lst (pa_cons (pe_callB (is1 hz hf K (by rfl) (by rfl)) (by rfl) U.isi vI (pa_cons (pv 2) (pa_cons (pe_glob (v := .ref (C 0)) (by rfl) T.g0 (by rfl)) pa_nil))) (pa_cons (pe_callB (is1 hz hf K (by rfl) (by rfl)) (by rfl) U.isi vI (pa_cons (pv 2) (pa_cons (pe_glob (v := .ref (C 1)) (by rfl) T.g1 (by rfl)) pa_nil))) (pa_cons (pe_callB (is1 hz hf K (by rfl) (by rfl)) (by rfl) U.isi vI (pa_cons (pv 2) (pa_cons (pe_glob (v := .ref (C 2)) (by rfl) T.g2 (by rfl)) pa_nil))) (pa_cons (pe_callB (is1 hz hf K (by rfl) (by rfl)) (by rfl) U.isi vI (pa_cons (pv 2) (pa_cons (pe_glob (v := .ref (C 3)) (by rfl) T.g3 (by rfl)) pa_nil))) pa_nil)))))
    case s2 => exact ps_set (i := 3) scClasses.nd rfl (.inl rfl) (pe_op op_cat (pv 3) (pe_lst (pa_cons (pe_callB (is1 hz hf K (by rfl) (by rfl)) (by rfl) U.isi vI (pa_cons (pv 2) (pa_cons (pe_glob (v := .ref (C 4)) (by rfl) T.g4 (by rfl)) pa_nil))) (pa_cons (pe_callB (is1 hz hf K (by rfl) (by rfl)) (by rfl) U.isi vI (pa_cons (pv 2) (pa_cons (pe_glob (v := .ref (C 5)) (by rfl) T.g5 (by rfl)) pa_nil))) (pa_cons (pe_callB (is1 hz hf K (by rfl) (by rfl)) (by rfl) U.isi vI (pa_cons (pv 2) (pa_cons (pe_glob (v := .ref (C 6)) (by rfl) T.g6 (by rfl)) pa_nil))) pa_nil)))))
    case s3 => exact ps_if (pt_val (pe_callB (isN hz hf K (by rfl) (by rfl)) (by rfl) U.isi vI (pa_cons (pv 2) (pa_cons (pe_tup (pa_cons (pe_bltn (v := .ty "ValueError") (by rfl) U.ve vV (by rfl)) (pa_cons (pe_bltn (v := .ty "LookupError") (by rfl) U.le vL (by rfl)) (pa_cons (pe_bltn (v := .ty "ArithmeticError") (by rfl) U.ae vA (by rfl)) pa_nil)))) pa_nil)))) (pss_one (ps_ret pe_bl)) pss_nil
    case s4 => exact ps_ret (pe_cmpR (op_eqD (by exact hr.units)) (pv 3) (XA.pe_lcH (own := [("k", 4)]) (g := gName 4) (tt := tYes) (p := (a, oe)) (by exact hot_of hz hf) (by exact List.mem_cons_self) scClasses.nd
          (pi_range1H (by rfl) U.range (pa_cons pe_int pa_nil)) (blkOk_by (N := ["kind", "given", "e", "found", "k"]) (sc := defScope sClasses) (by decide +kernel))
          (fun _ _ _ _ _ => pg_name (i := 4) scClasses.nd rfl (.inl rfl)) (fun _ _ _ _ _ => pts_nil)
          (fun _ _ _ _ _ => pe_cmpR op_eq (pv 4) (pv 0) (nomark _))) (nomark _))
  refine ⟨_, rfl, _, rfl, k, v, rfl, h0, h6, fun d hn => ?_⟩
  obtain ⟨n, rfl⟩ : ∃ n : Nat, k = (n : Int) := ⟨k.toNat, by omega⟩
  have hn7 : n < 7 := by omega
  have s1 : Same H (upd H d (.xd [(fname (n : Int).toNat, v)])) := new_same hn _
  refine ⟨true, T.exB n hn7, fun _ a ha => ?_, fun z => Bool.noConfusion z⟩
  -- what the suite holds, at every later heap
  have held : ∀ {H' : Hp}, Same (upd H d (.xd [(fname (n : Int).toNat, v)])) H' → Held K (.ref (C (n : Int).toNat)) (some d) (C n) H' := fun s => ⟨rfl, T.cq n hn7, d, _, rfl, s _ _ upd_same⟩
  have kit : ∀ j, j < 7 → PySem.W.kitOne K (.ref (C n)) (.ref (C j)) = some (n == j) := fun j hj => T.kit n j hn7 hj
  have r0 := Same.refl (upd H d (.xd [(fname (n : Int).toNat, v)]))
  refine ⟨_, rfl, _, held r0, _, _, _, rfl, .own _, kit 0 (by decide), ?_⟩
  refine ⟨_, rfl, _, held r0, _, _, _, rfl, .own _, kit 1 (by decide), ?_⟩
  refine ⟨_, rfl, _, held r0, _, _, _, rfl, .own _, kit 2 (by decide), ?_⟩
  refine ⟨_, rfl, _, held r0, _, _, _, rfl, .own _, kit 3 (by decide), (by show 4 ≤ sizeLine; decide), fun p1 n1 => ?_⟩
  have s2 := r0.trans (new_same n1 (.lst [.bl (n == 0), .bl (n == 1), .bl (n == 2), .bl (n == 3)]))
  refine ⟨_, rfl, ?_⟩
  refine ⟨_, rfl, _, held s2, _, _, _, rfl, .own _, kit 4 (by decide), ?_⟩
  refine ⟨_, rfl, _, held s2, _, _, _, rfl, .own _, kit 5 (by decide), ?_⟩
  refine ⟨_, rfl, _, held s2, _, _, _, rfl, .own _, kit 6 (by decide), (by show 3 ≤ sizeLine; decide), fun p2 n2 => ?_⟩
  have s3 := s2.trans (new_same n2 (.lst [.bl (n == 4), .bl (n == 5), .bl (n == 6)]))
  refine ⟨p1, p2, _, _, rfl, rfl, (new_same n2 _) _ _ upd_same, upd_same, (by show 7 ≤ sizeLine; decide), fun p3 n3 => ?_⟩
  have s4 := s3.trans (new_same n3 (.lst ((found7 n).map V.bl)))
  refine ⟨_, rfl, (by show 3 ≤ sizeLine; decide), fun tp nt => ?_⟩
  have s5 := s4.trans (new_same nt (.tup [.ty "ValueError", .ty "LookupError", .ty "ArithmeticError"]))
  refine ⟨_, held s5, tp, _, _, _, rfl, upd_same, .cons (.ty _) (.cons (.ty _) (.cons (.ty _) .nil)), T.kno n hn7, _, rfl, iteF ?_⟩
  refine ⟨_, rfl, _, rfl, by decide, by decide, fun D hD => lc_range (lo := 0) (n := 7) (fun i H' => H' D = some (.lst ((told n i).map V.bl)) ∧ H' p3 = some (.lst ((found7 n).map V.bl)) ∧ Same H H')
    ⟨upd_same, (new_same hD _) _ _ ((new_same nt _) _ _ upd_same), s1.trans (s5.trans (new_same hD _))⟩ (fun i H' hi hP => ?_) (fun H' hP => ?_)⟩
  · obtain ⟨hL, hF, hS⟩ := hP
    refine ⟨rfl, ?_⟩
    unfold tYes
    refine iteT ?_
    refine ⟨_, rfl, _, rfl, rfl, _, hL, small1000 (by rw [List.length_map, told_len]; omega), ?_, ?_, fun b o e => ?_⟩
    · rw [upd_same, told_more, List.map_append]
      rfl
    · have ne : p3 ≠ D := ne_of_none ((new_same nt _) _ _ upd_same) hD
      rw [upd_ne ne]
      exact hF
    · have ne : b ≠ D := ne_of_none (s5 _ _ (s1 _ _ e)) hD
      rw [upd_ne ne]
      exact hS _ _ e
  · obtain ⟨hL, hF, hS⟩ := hP
    have sh := found_shaped n hn7
    refine ⟨_, _, .lst (SqL.of hF) (dpB _), .lst (SqL.of hL) (dpB _), sh.1, sh.2, ?_⟩
    rw [told_found n hn7]
    exact kq H' hS
end
end Q

set_option Elab.async false
set_option linter.all false
set_option maxRecDepth 100000
set_option maxHeartbeats 4000000
namespace Q
open PySem L2 L2H
def spGiven : Sp := fun vs H Q _ => ∃ (a : Addr) (k : Int), vs = [.ref a, .int k] ∧ Flw H a ∧ ∀ (v : V) (H' : Hp), Dt H' 3 v → Flw H' a → Q v H'
def spLaw (K : PySem.W.Frag) : Sp := fun vs H Q _ => ∃ (a : Addr) (ns : List Int), vs = [.ref a] ∧ SqL K H a (ns.map V.int) ∧ ns.length ≤ 63 ∧ ∀ H', Q (.bl true) H'
theorem Flw.ne {H : Hp} {a p : Addr} (F : Flw H a) (h : H p = none) : p ≠ a := by
  obtain ⟨_, _, _, _, _, _, _, Z⟩ := F
  exact (ne_of_none Z.at_ h).symm
section
variable {P : Program} {w : World} {K : PySem.W.Frag} {mg : Str → Option Value} {base : Heap}
theorem scGiven : FnScope ["flow", "kind", "number", "things"] ["flow", "kind"] (defScope sGiven) := ⟨rfl, rfl, rfl, by decide +kernel, rfl, by decide +kernel, by decide +kernel⟩
theorem ok_given {f fD fP : Addr} {fd fdD fdP : FuncData} (F : Fun K "_law_given" "_law_given" sGiven f fd)
    (GD : FnOk P w K mg base CX0 2 fD fdD ["flow", "many"] spDraw) (kD : PySem.W.keepIn K (.ref fD) = true) (bD : Binds K fdD ["flow", "many"] []) (mD : mg "_law_draw" = some (.ref fD))
    (GP : FnOk P w K mg base CX0 3 fP fdP ["flow", "things"] spPick) (kP : PySem.W.keepIn K (.ref fP) = true) (bP : Binds K fdP ["flow", "things"] []) (mP : mg "_law_pick" = some (.ref fP)) :
    FnOk P w K mg base CX0 4 f fd ["flow", "kind"] spGiven := by
  refine F.ok scGiven (fun vs H Q E h => ?_) (fun cdv A outer s H vs Q E hr h => ?_)
  · obtain ⟨a, k, rfl, _⟩ := h
    rfl
  obtain ⟨a, k, rfl, Fl, kq⟩ := h
  have hr2 : Room 2 _ := hr.mono (by decide)
  refine ⟨_, pss_cons (ps_set (i := 2) scGiven.nd rfl (.inl rfl) (pe_call GP hr rfl mP kP bP .nil pass0 (pa_cons (pv 0) (pa_cons (pe_lst (pa_cons pe_int (pa_cons pe_int (pa_cons (pe_un un_neg pe_int)
      (pa_cons (pe_call GD hr2 rfl mD kD bD .nil pass0 (pa_cons (pv 0) (pa_cons pe_int pa_nil))) (pa_cons (pe_call GD hr2 rfl mD kD bD .nil pass0 (pa_cons (pv 0) (pa_cons (pe_op op_pow pe_int pe_int) pa_nil)))
      (pa_cons (pe_op op_sub pe_int (pe_call GD hr2 rfl mD kD bD .nil pass0 (pa_cons (pv 0) (pa_cons (pe_op op_pow pe_int pe_int) pa_nil)))) pa_nil))))))) pa_nil))))
    (pss_cons (ps_if (pt_cmpR op_eq (pv 1) pe_int (nomark _))
      (pss_cons (ps_set (i := 3) scGiven.nd rfl (.inl rfl) (pe_lst (pa_cons (pv 2) (pa_cons pe_non (pa_cons pe_str (pa_cons pe_str (pa_cons (pe_tup pa_nil) (pa_cons (pe_tup (pa_cons (pv 2) (pa_cons pe_str pa_nil)))
        (pa_cons (pe_lst (pa_cons (pv 2) pa_nil)) (pa_cons (pe_lst pa_nil) (pa_cons (pe_lst (pa_cons pe_str (pa_cons (pe_tup (pa_cons pe_non pa_nil)) pa_nil))) (pa_cons pe_bl (pa_cons pe_bl pa_nil)))))))))))))
      (pss_one (ps_ret (pe_call GP hr rfl mP kP bP .nil pass0 (pa_cons (pv 0) (pa_cons (pv 3) pa_nil)))))) pss_nil)
    (pss_cons (ps_if (pt_cmpR op_gt (pv 1) pe_int (nomark _))
      (pss_one (ps_ret (pe_call GP hr rfl mP kP bP .nil pass0 (pa_cons (pv 0) (pa_cons (pe_lst (pa_cons pe_str (pa_cons pe_str (pa_cons pe_str (pa_cons pe_str (pa_cons pe_str pa_nil)))))) pa_nil))))) pss_nil)
    (pss_one (ps_ret (pv 2))))), ?_⟩
  refine ⟨_, rfl, _, rfl, _, rfl, a, _, rfl, Fl, (by decide), fun r1 H1 _ _ F1 k1 => ?_⟩
  refine ⟨_, rfl, _, _, rfl, rfl, ⟨by decide, by decide, by decide⟩, a, _, rfl, F1, (by decide +kernel), fun r2 H2 _ _ F2 k2 => ?_⟩
  refine ⟨_, rfl, _, _, rfl, rfl, ⟨by decide, by decide, by decide⟩, a, _, rfl, F2, (by decide +kernel), fun r3 H3 _ _ F3 k3 => ?_⟩
  refine ⟨_, _, rfl, rfl, (by show 6 ≤ sizeLine; decide), fun p hp => ?_⟩
  refine ⟨a, p, _, rfl, F3.same (new_same hp _), upd_same, F3.ne hp, (by show 0 < 6; decide), (by show 6 ≤ 1000; decide), fun x H4 hx F4 k4 => ?_⟩
  obtain ⟨z, rfl⟩ : ∃ z, x = V.int z := by
    simp only [List.mem_cons, List.not_mem_nil, or_false] at hx
    rcases hx with rfl | rfl | rfl | rfl | rfl | rfl <;> exact ⟨_, rfl⟩
  refine ⟨_, rfl, rfl, _, rfl, ite2 (fun _ => ?_) (fun _ => ?_)⟩
  · refine ⟨_, rfl, (by show 0 ≤ sizeLine; decide), fun p0 h0 => ?_⟩
    have s0 := new_same h0 (.tup [])
    refine ⟨_, rfl, (by show 2 ≤ sizeLine; decide), fun p1 h1 => ?_⟩
    have s1 := new_same h1 (.tup [.int z, .str "mon"])
    refine ⟨_, rfl, (by show 1 ≤ sizeLine; decide), fun p2 h2 => ?_⟩
    have s2 := new_same h2 (.lst [.int z])
    refine ⟨(by show 0 ≤ sizeLine; decide), fun p3 h3 => ?_⟩
    have s3 := new_same h3 (.lst [])
    refine ⟨(by show 1 ≤ sizeLine; decide), fun p4 h4 => ?_⟩
    have s4 := new_same h4 (.tup [.non])
    refine ⟨(by show 2 ≤ sizeLine; decide), fun p5 h5 => ?_⟩
    have s5 := new_same h5 (.lst [.str "mon", .ref p4])
    refine ⟨(by show 11 ≤ sizeLine; decide), fun p6 h6 => ?_⟩
    have s6 := new_same h6 (.lst [.int z, .non, .str "day", .str "", .ref p0, .ref p1, .ref p2, .ref p3, .ref p5, .bl true, .bl false])
    have f0 := F4.same s0
    have f1 := f0.same s1
    have f2 := f1.same s2
    have f3 := f2.same s3
    have f4 := f3.same s4
    have f5 := f4.same s5
    have f6 := f5.same s6
    refine ⟨_, rfl, _, rfl, a, p6, _, rfl, f6, upd_same, f5.ne h6, (by show 0 < 11; decide), (by show 11 ≤ 1000; decide), fun x H5 hx F5 k5 => ?_⟩
    have e0 := k5 _ _ (F4.ne h0) (s6 _ _ (s5 _ _ (s4 _ _ (s3 _ _ (s2 _ _ (s1 _ _ upd_same))))))
    have e1 := k5 _ _ (f0.ne h1) (s6 _ _ (s5 _ _ (s4 _ _ (s3 _ _ (s2 _ _ upd_same)))))
    have e2 := k5 _ _ (f1.ne h2) (s6 _ _ (s5 _ _ (s4 _ _ (s3 _ _ upd_same))))
    have e3 := k5 _ _ (f2.ne h3) (s6 _ _ (s5 _ _ (s4 _ _ upd_same)))
    have e4 := k5 _ _ (f3.ne h4) (s6 _ _ (s5 _ _ upd_same))
    have e5 := k5 _ _ (f4.ne h5) (s6 _ _ upd_same)
    refine kq _ H5 ?_ F5
    simp only [List.mem_cons, List.not_mem_nil, or_false] at hx
    rcases hx with rfl | rfl | rfl | rfl | rfl | rfl | rfl | rfl | rfl | rfl | rfl
    · exact .inl (.int _)
    · exact .inl .non
    · exact .inl (.str _)
    · exact .inl (.str _)
    · exact .inr ⟨_, [], rfl, .inr e0, by decide, fun x hx => by cases hx⟩
    · refine .inr ⟨_, _, rfl, .inr e1, (by show 2 ≤ 1000; decide), fun x hx => ?_⟩
      simp only [List.mem_cons, List.not_mem_nil, or_false] at hx
      rcases hx with rfl | rfl
      · exact .inl (.int _)
      · exact .inl (.str _)
    · refine .inr ⟨_, _, rfl, .inl e2, (by show 1 ≤ 1000; decide), fun x hx => ?_⟩
      simp only [List.mem_cons, List.not_mem_nil, or_false] at hx
      subst hx
      exact .inl (.int _)
    · exact .inr ⟨_, [], rfl, .inl e3, by decide, fun x hx => by cases hx⟩
    · refine .inr ⟨_, _, rfl, .inl e5, (by show 2 ≤ 1000; decide), fun x hx => ?_⟩
      simp only [List.mem_cons, List.not_mem_nil, or_false] at hx
      rcases hx with rfl | rfl
      · exact .inl (.str _)
      · refine .inr ⟨_, _, rfl, .inr e4, (by show 1 ≤ 1000; decide), fun x hx => ?_⟩
        simp only [List.mem_cons, List.not_mem_nil, or_false] at hx
        subst hx
        exact .inl .non
    · exact .inl (.bl _)
    · exact .inl (.bl _)
  · refine ⟨_, rfl, _, _, rfl, rfl, _, rfl, ite2 (fun _ => ?_) (fun _ => ?_)⟩
    · refine ⟨_, rfl, (by show 5 ≤ sizeLine; decide), fun p6 h6 => ?_⟩
      refine ⟨a, p6, _, rfl, F4.same (new_same h6 _), upd_same, F4.ne h6, (by show 0 < 5; decide), (by show 5 ≤ 1000; decide), fun x H5 hx F5 k5 => ?_⟩
      refine kq _ H5 ?_ F5
      simp only [List.mem_cons, List.not_mem_nil, or_false] at hx
      rcases hx with rfl | rfl | rfl | rfl | rfl <;> exact .inl (.str _)
    · exact ⟨_, rfl, kq _ H4 (.inl (.int _)) F4⟩
theorem scLaw : FnScope ["script", "flow", "kind", "turn", "given"] ["script"] (defScope sLaw) := ⟨rfl, rfl, rfl, by decide +kernel, rfl, by decide +kernel, by decide +kernel⟩
theorem ok_law {f fF fG fK fC : Addr} {fd fdF fdG fdK fdC : FuncData} (F : Fun K "law" "law" sLaw f fd) (mR : mg "range" = none)
    (GF : FnOk P w K mg base CX0 1 fF fdF ["script"] (spFlow K)) (kF : PySem.W.keepIn K (.ref fF) = true) (bF : Binds K fdF ["script"] []) (mF : mg "_law_flow" = some (.ref fF))
    (GG : FnOk P w K mg base CX0 4 fG fdG ["flow", "kind"] spGiven) (kG : PySem.W.keepIn K (.ref fG) = true) (bG : Binds K fdG ["flow", "kind"] []) (mG : mg "_law_given" = some (.ref fG))
    (GK : FnOk P w K mg base CX0 4 fK fdK ["kind", "given"] spKept) (kK : PySem.W.keepIn K (.ref fK) = true) (bK : Binds K fdK ["kind", "given"] []) (mK : mg "_law_kept" = some (.ref fK))
    (GC : FnOk P w K mg base CX0 4 fC fdC ["kind", "given"] spClasses) (kC : PySem.W.keepIn K (.ref fC) = true) (bC : Binds K fdC ["kind", "given"] []) (mC : mg "_law_classes" = some (.ref fC)) :
    FnOk P w K mg base CX0 5 f fd ["script"] (spLaw K) := by
  refine F.ok scLaw (fun vs H Q E h => ?_) (fun cdv A outer s H vs Q E hr h => ?_)
  · obtain ⟨a, ns, rfl, _⟩ := h
    rfl
  obtain ⟨sc, ns, rfl, hS, _, kq⟩ := h
  have hr1 : Room 1 _ := hr.mono (by decide)
  refine ⟨_, pss_cons (ps_set (i := 1) scLaw.nd rfl (.inl rfl) (pe_call GF hr1 rfl mF kF bF .nil pass0 (pa_cons (pv 0) pa_nil)))
    (pss_cons (ps_for PassesOwn.never rfl (pi_range1 rfl mR (pa_cons pe_int pa_nil)) (pg_name (i := 2) scLaw.nd rfl (.inl rfl))
      (pss_one (ps_for PassesOwn.never rfl (pi_range1 rfl mR (pa_cons pe_int pa_nil)) (pg_name (i := 3) scLaw.nd rfl (.inl rfl))
        (pss_cons (ps_set (i := 4) scLaw.nd rfl (.inl rfl) (pe_call GG hr rfl mG kG bG .nil pass0 (pa_cons (pv 1) (pa_cons (pv 2) pa_nil))))
        (pss_one (ps_if (PW.pt (pw_or (pt_not (pt_val (pe_call GK hr rfl mK kK bK .nil pass0 (pa_cons (pv 2) (pa_cons (pv 4) pa_nil))))) (pw_or1 (pt_not (pt_val (pe_call GC hr rfl mC kC bC .nil pass0 (pa_cons (pv 2) (pa_cons (pv 4) pa_nil)))))))) (pss_one (ps_ret pe_bl)) pss_nil))))))
    (pss_one (ps_ret pe_bl))), ?_⟩
  refine ⟨_, rfl, sc, ns, rfl, hS, fun a H1 _ F1 _ => ?_⟩
  refine ⟨_, rfl, by decide, by decide, for_range (lo := 0) (n := 7) (fun i σ H' => ∃ v2 v3 v4 : Option V, σ = [some (.ref sc), some (.ref a), v2, v3, v4] ∧ Flw H' a) ⟨none, none, none, rfl, F1⟩ ?_ ?_⟩
  · rintro i σ H2 hi ⟨v2, v3, v4, rfl, F2⟩
    refine ⟨_, rfl, by decide, by decide, for_range (lo := 0) (n := 2) (fun j σ H' => ∃ v3 v4 : Option V, σ = [some (.ref sc), some (.ref a), some (.int (0 + (i : Int))), v3, v4] ∧ Flw H' a) ⟨v3, v4, rfl, F2⟩ ?_ ?_⟩
    · rintro j σ H3 hj ⟨w3, w4, rfl, F3⟩
      refine ⟨_, rfl, _, rfl, a, _, rfl, F3, fun v H4 d4 F4 => ?_⟩
      refine ⟨_, rfl, _, rfl, _, v, rfl, by omega, by omega, d4, fun H5 s5 => ?_⟩
      refine ⟨true, rfl, iteF ⟨_, rfl, _, rfl, _, v, rfl, by omega, by omega, fun H6 s6 => ⟨true, rfl, iteF ?_⟩⟩⟩
      exact ⟨_, _, rfl, (F4.same s5).same s6⟩
    · rintro σ H3 ⟨w3, w4, rfl, F3⟩
      exact ⟨_, _, _, rfl, F3⟩
  · rintro σ H2 ⟨v2, v3, v4, rfl, _⟩
    exact kq H2
end
end Q

set_option Elab.async false
set_option linter.all false
set_option maxRecDepth 100000
set_option maxHeartbeats 8000000
namespace Q
open PySem L2 L2H XM XH
theorem kit_own {K : PySem.W.Frag} {C D : Addr} {b : Bool} (hc : PySem.W.isClsIn K D = true) (ht : PySem.W.typeIn K (.ref D) = some (.type "type")) (s : PySem.W.subIn K (.ref C) (.ref D) = some b) (o : PySem.W.subIn K (.ref D) (.ref D) = some true) :
    PySem.W.kitOne K (.ref C) (.ref D) = some b := by
  unfold PySem.W.kitOne
  by_cases e : (Value.ref C == Value.ref D) = true
  · rw [if_pos e]
    have q : C = D := Value.ref.inj (beq_iff_eq.mp e)
    subst q
    rw [s] at o
    exact o.symm
  · rw [if_neg e]
    have hc' : (PySem.W.clsIn K D).isSome = true := hc
    show (if ((PySem.W.clsIn K D).isSome && PySem.W.typeIn K (.ref D) == some (.type "type")) = true then PySem.W.subIn K (.ref C) (.ref D) else none) = some b
    rw [hc', ht]
    exact s
theorem kit_bi {K : PySem.W.Frag} {C : Addr} {T : String} {b : Bool} (m : PySem.W.kitMeta T = true) (s : PySem.W.subIn K (.ref C) (.type T) = some b) : PySem.W.kitOne K (.ref C) (.type T) = some b := by
  unfold PySem.W.kitOne
  rw [if_neg (show ¬ ((Value.ref C == Value.type T) = true) from fun e => by cases beq_iff_eq.mp e)]
  show (if PySem.W.kitMeta T = true then PySem.W.subIn K (.ref C) (.type T) else none) = some b
  rw [if_pos m]
  exact s
theorem kit_no {K : PySem.W.Frag} {C : Addr} (v : PySem.W.subIn K (.ref C) (.type "ValueError") = some false) (l : PySem.W.subIn K (.ref C) (.type "LookupError") = some false) (a : PySem.W.subIn K (.ref C) (.type "ArithmeticError") = some false) :
    PySem.W.kitAny K (.ref C) [.type "ValueError", .type "LookupError", .type "ArithmeticError"] = some false :=
  kitAny_cons (kit_bi (by decide +kernel) v) (fun _ => kitAny_cons (kit_bi (by decide +kernel) l) (fun _ => kitAny_cons (kit_bi (by decide +kernel) a) (fun _ => kitAny_nil) (fun z => Bool.noConfusion z)) (fun z => Bool.noConfusion z)) (fun z => Bool.noConfusion z)
theorem all_mk {l : PySem.W.OpenLaw} {w : World} {K : PySem.W.Frag} {h : Heap} {mg : Str → Option Value} {fa cB c0 i0 c1 i1 c2 i2 c3 i3 c4 i4 c5 i5 c6 i6 fFlow fLoad fDraw fPick fSame fRaise fKept fClasses fGiven fLaw : Addr} (X : K.In h) (G : h.Ns mainGlobals mg) (hfa : mg "law" = some (.ref fa))
    {odc0 anc0 odc1 anc1 odc2 anc2 odc3 anc3 odc4 anc4 odc5 anc5 odc6 anc6 odFlow anFlow odLoad anLoad odDraw anDraw odPick anPick odSame anSame odRaise anRaise odKept anKept odClasses anClasses odGiven anGiven odLaw anLaw : Option Addr} {slc0 slc1 slc2 slc3 slc4 slc5 slc6 slFlow slLoad slDraw slPick slSame slRaise slKept slClasses slGiven slLaw : Array (Option Value)} {occ0 dcc0 pmc0 cdc0 ctc0 occ1 dcc1 pmc1 cdc1 ctc1 occ2 dcc2 pmc2 cdc2 ctc2 occ3 dcc3 pmc3 cdc3 ctc3 occ4 dcc4 pmc4 cdc4 ctc4 occ5 dcc5 pmc5 cdc5 ctc5 occ6 dcc6 pmc6 cdc6 ctc6 ocFlow kVFlow dcFlow pmFlow cdFlow ctFlow ocLoad kVLoad dcLoad pmLoad cdLoad ctLoad ocDraw kVDraw dcDraw pmDraw cdDraw ctDraw ocPick kVPick dcPick pmPick cdPick ctPick ocSame kVSame dcSame pmSame cdSame ctSame ocRaise kVRaise dcRaise pmRaise cdRaise ctRaise ocKept kVKept dcKept pmKept cdKept ctKept ocClasses kVClasses dcClasses pmClasses cdClasses ctClasses ocGiven kVGiven dcGiven pmGiven cdGiven ctGiven ocLaw kVLaw dcLaw pmLaw cdLaw ctLaw : Value}
    (g0 : PySem.W.nsIn K mainGlobals "BadValue" = some (some (.ref c0)))
    (ini0 : PySem.W.excInitIn K c0 XM.exTail "Exception.__new__" = true)
    (ovr0 : PySem.W.excOver K c0 XM.exTail = true)
    (tkn0 : PySem.W.takerIn K c0 "at" = some none)
    (sa0 : PySem.W.findIn K (.ref c0) "__setattr__" = some (some (.builtin "object.__setattr__")))
    (ga0 : PySem.W.findIn K (.ref c0) "__getattribute__" = some (some (.builtin "BaseException.__getattribute__")))
    (gg0 : PySem.W.findIn K (.ref c0) "__getattr__" = some none)
    (no0 : PySem.W.findIn K (.ref c0) "at" = some none)
    (ic0 : PySem.W.findIn K (.ref c0) "__init__" = some (some (.ref i0)))
    (tc0 : PySem.W.typeIn K (.ref i0) = some (.type "function"))
    (kc0 : PySem.W.keepIn K (.ref c0) = true)
    (ex0 : PySem.W.subIn K (.ref c0) (.type "BaseException") = some true)
    (ty0 : PySem.W.typeIn K (.ref c0) = some (.type "type"))
    (hd0 : PySem.W.hasDictIn K c0 = true)
    (is0 : PySem.W.isClsIn K c0 = true)
    (cc0 : PySem.W.findIn K (.ref c0) "__class__" = some (some (.builtin "object.__class__")))
    (mo0 : PySem.W.mroIn K c0 (.type "object") = some true)
    (lc0 : K.lookup i0 = some ⟨occ0, odc0, .func (PySem.W.fnOf "__init__" "BadValue.__init__" (defArgs (inClass (top 2) 0)) (defBody (inClass (top 2) 0)) (defScope (inClass (top 2) 0)) .none .none dcc0 pmc0 anc0 cdc0 ctc0), slc0⟩)
    (co0 : PySem.W.codeIn K cdc0 "BadValue.__init__" = true)
    (s00 : PySem.W.subIn K (.ref c0) (.ref c0) = some true)
    (s01 : PySem.W.subIn K (.ref c0) (.ref c1) = some false)
    (s02 : PySem.W.subIn K (.ref c0) (.ref c2) = some false)
    (s03 : PySem.W.subIn K (.ref c0) (.ref c3) = some false)
    (s04 : PySem.W.subIn K (.ref c0) (.ref c4) = some false)
    (s05 : PySem.W.subIn K (.ref c0) (.ref c5) = some false)
    (s06 : PySem.W.subIn K (.ref c0) (.ref c6) = some false)
    (sB0 : PySem.W.subIn K (.ref c0) (.ref cB) = some true)
    (sxv0 : PySem.W.subIn K (.ref c0) (.type "ValueError") = some false)
    (sxl0 : PySem.W.subIn K (.ref c0) (.type "LookupError") = some false)
    (sxa0 : PySem.W.subIn K (.ref c0) (.type "ArithmeticError") = some false)
    (g1 : PySem.W.nsIn K mainGlobals "BadField" = some (some (.ref c1)))
    (ini1 : PySem.W.excInitIn K c1 XM.exTail "Exception.__new__" = true)
    (ovr1 : PySem.W.excOver K c1 XM.exTail = true)
    (tkn1 : PySem.W.takerIn K c1 "name" = some none)
    (sa1 : PySem.W.findIn K (.ref c1) "__setattr__" = some (some (.builtin "object.__setattr__")))
    (ga1 : PySem.W.findIn K (.ref c1) "__getattribute__" = some (some (.builtin "BaseException.__getattribute__")))
    (gg1 : PySem.W.findIn K (.ref c1) "__getattr__" = some none)
    (no1 : PySem.W.findIn K (.ref c1) "name" = some none)
    (ic1 : PySem.W.findIn K (.ref c1) "__init__" = some (some (.ref i1)))
    (tc1 : PySem.W.typeIn K (.ref i1) = some (.type "function"))
    (kc1 : PySem.W.keepIn K (.ref c1) = true)
    (ex1 : PySem.W.subIn K (.ref c1) (.type "BaseException") = some true)
    (ty1 : PySem.W.typeIn K (.ref c1) = some (.type "type"))
    (hd1 : PySem.W.hasDictIn K c1 = true)
    (is1 : PySem.W.isClsIn K c1 = true)
    (cc1 : PySem.W.findIn K (.ref c1) "__class__" = some (some (.builtin "object.__class__")))
    (mo1 : PySem.W.mroIn K c1 (.type "object") = some true)
    (lc1 : K.lookup i1 = some ⟨occ1, odc1, .func (PySem.W.fnOf "__init__" "BadField.__init__" (defArgs (inClass (top 3) 0)) (defBody (inClass (top 3) 0)) (defScope (inClass (top 3) 0)) .none .none dcc1 pmc1 anc1 cdc1 ctc1), slc1⟩)
    (co1 : PySem.W.codeIn K cdc1 "BadField.__init__" = true)
    (s10 : PySem.W.subIn K (.ref c1) (.ref c0) = some false)
    (s11 : PySem.W.subIn K (.ref c1) (.ref c1) = some true)
    (s12 : PySem.W.subIn K (.ref c1) (.ref c2) = some false)
    (s13 : PySem.W.subIn K (.ref c1) (.ref c3) = some false)
    (s14 : PySem.W.subIn K (.ref c1) (.ref c4) = some false)
    (s15 : PySem.W.subIn K (.ref c1) (.ref c5) = some false)
    (s16 : PySem.W.subIn K (.ref c1) (.ref c6) = some false)
    (sB1 : PySem.W.subIn K (.ref c1) (.ref cB) = some true)
    (sxv1 : PySem.W.subIn K (.ref c1) (.type "ValueError") = some false)
    (sxl1 : PySem.W.subIn K (.ref c1) (.type "LookupError") = some false)
    (sxa1 : PySem.W.subIn K (.ref c1) (.type "ArithmeticError") = some false)
    (g2 : PySem.W.nsIn K mainGlobals "BadPaper" = some (some (.ref c2)))
    (ini2 : PySem.W.excInitIn K c2 XM.exTail "Exception.__new__" = true)
    (ovr2 : PySem.W.excOver K c2 XM.exTail = true)
    (tkn2 : PySem.W.takerIn K c2 "at" = some none)
    (sa2 : PySem.W.findIn K (.ref c2) "__setattr__" = some (some (.builtin "object.__setattr__")))
    (ga2 : PySem.W.findIn K (.ref c2) "__getattribute__" = some (some (.builtin "BaseException.__getattribute__")))
    (gg2 : PySem.W.findIn K (.ref c2) "__getattr__" = some none)
    (no2 : PySem.W.findIn K (.ref c2) "at" = some none)
    (ic2 : PySem.W.findIn K (.ref c2) "__init__" = some (some (.ref i2)))
    (tc2 : PySem.W.typeIn K (.ref i2) = some (.type "function"))
    (kc2 : PySem.W.keepIn K (.ref c2) = true)
    (ex2 : PySem.W.subIn K (.ref c2) (.type "BaseException") = some true)
    (ty2 : PySem.W.typeIn K (.ref c2) = some (.type "type"))
    (hd2 : PySem.W.hasDictIn K c2 = true)
    (is2 : PySem.W.isClsIn K c2 = true)
    (cc2 : PySem.W.findIn K (.ref c2) "__class__" = some (some (.builtin "object.__class__")))
    (mo2 : PySem.W.mroIn K c2 (.type "object") = some true)
    (lc2 : K.lookup i2 = some ⟨occ2, odc2, .func (PySem.W.fnOf "__init__" "BadPaper.__init__" (defArgs (inClass (top 4) 0)) (defBody (inClass (top 4) 0)) (defScope (inClass (top 4) 0)) .none .none dcc2 pmc2 anc2 cdc2 ctc2), slc2⟩)
    (co2 : PySem.W.codeIn K cdc2 "BadPaper.__init__" = true)
    (s20 : PySem.W.subIn K (.ref c2) (.ref c0) = some false)
    (s21 : PySem.W.subIn K (.ref c2) (.ref c1) = some false)
    (s22 : PySem.W.subIn K (.ref c2) (.ref c2) = some true)
    (s23 : PySem.W.subIn K (.ref c2) (.ref c3) = some false)
    (s24 : PySem.W.subIn K (.ref c2) (.ref c4) = some false)
    (s25 : PySem.W.subIn K (.ref c2) (.ref c5) = some false)
    (s26 : PySem.W.subIn K (.ref c2) (.ref c6) = some false)
    (sB2 : PySem.W.subIn K (.ref c2) (.ref cB) = some true)
    (sxv2 : PySem.W.subIn K (.ref c2) (.type "ValueError") = some false)
    (sxl2 : PySem.W.subIn K (.ref c2) (.type "LookupError") = some false)
    (sxa2 : PySem.W.subIn K (.ref c2) (.type "ArithmeticError") = some false)
    (g3 : PySem.W.nsIn K mainGlobals "BadLog" = some (some (.ref c3)))
    (ini3 : PySem.W.excInitIn K c3 XM.exTail "Exception.__new__" = true)
    (ovr3 : PySem.W.excOver K c3 XM.exTail = true)
    (tkn3 : PySem.W.takerIn K c3 "at" = some none)
    (sa3 : PySem.W.findIn K (.ref c3) "__setattr__" = some (some (.builtin "object.__setattr__")))
    (ga3 : PySem.W.findIn K (.ref c3) "__getattribute__" = some (some (.builtin "BaseException.__getattribute__")))
    (gg3 : PySem.W.findIn K (.ref c3) "__getattr__" = some none)
    (no3 : PySem.W.findIn K (.ref c3) "at" = some none)
    (ic3 : PySem.W.findIn K (.ref c3) "__init__" = some (some (.ref i3)))
    (tc3 : PySem.W.typeIn K (.ref i3) = some (.type "function"))
    (kc3 : PySem.W.keepIn K (.ref c3) = true)
    (ex3 : PySem.W.subIn K (.ref c3) (.type "BaseException") = some true)
    (ty3 : PySem.W.typeIn K (.ref c3) = some (.type "type"))
    (hd3 : PySem.W.hasDictIn K c3 = true)
    (is3 : PySem.W.isClsIn K c3 = true)
    (cc3 : PySem.W.findIn K (.ref c3) "__class__" = some (some (.builtin "object.__class__")))
    (mo3 : PySem.W.mroIn K c3 (.type "object") = some true)
    (lc3 : K.lookup i3 = some ⟨occ3, odc3, .func (PySem.W.fnOf "__init__" "BadLog.__init__" (defArgs (inClass (top 5) 0)) (defBody (inClass (top 5) 0)) (defScope (inClass (top 5) 0)) .none .none dcc3 pmc3 anc3 cdc3 ctc3), slc3⟩)
    (co3 : PySem.W.codeIn K cdc3 "BadLog.__init__" = true)
    (s30 : PySem.W.subIn K (.ref c3) (.ref c0) = some false)
    (s31 : PySem.W.subIn K (.ref c3) (.ref c1) = some false)
    (s32 : PySem.W.subIn K (.ref c3) (.ref c2) = some false)
    (s33 : PySem.W.subIn K (.ref c3) (.ref c3) = some true)
    (s34 : PySem.W.subIn K (.ref c3) (.ref c4) = some false)
    (s35 : PySem.W.subIn K (.ref c3) (.ref c5) = some false)
    (s36 : PySem.W.subIn K (.ref c3) (.ref c6) = some false)
    (sB3 : PySem.W.subIn K (.ref c3) (.ref cB) = some true)
    (sxv3 : PySem.W.subIn K (.ref c3) (.type "ValueError") = some false)
    (sxl3 : PySem.W.subIn K (.ref c3) (.type "LookupError") = some false)
    (sxa3 : PySem.W.subIn K (.ref c3) (.type "ArithmeticError") = some false)
    (g4 : PySem.W.nsIn K mainGlobals "BadLine" = some (some (.ref c4)))
    (ini4 : PySem.W.excInitIn K c4 XM.exTail "Exception.__new__" = true)
    (ovr4 : PySem.W.excOver K c4 XM.exTail = true)
    (tkn4 : PySem.W.takerIn K c4 "at" = some none)
    (sa4 : PySem.W.findIn K (.ref c4) "__setattr__" = some (some (.builtin "object.__setattr__")))
    (ga4 : PySem.W.findIn K (.ref c4) "__getattribute__" = some (some (.builtin "BaseException.__getattribute__")))
    (gg4 : PySem.W.findIn K (.ref c4) "__getattr__" = some none)
    (no4 : PySem.W.findIn K (.ref c4) "at" = some none)
    (ic4 : PySem.W.findIn K (.ref c4) "__init__" = some (some (.ref i4)))
    (tc4 : PySem.W.typeIn K (.ref i4) = some (.type "function"))
    (kc4 : PySem.W.keepIn K (.ref c4) = true)
    (ex4 : PySem.W.subIn K (.ref c4) (.type "BaseException") = some true)
    (ty4 : PySem.W.typeIn K (.ref c4) = some (.type "type"))
    (hd4 : PySem.W.hasDictIn K c4 = true)
    (is4 : PySem.W.isClsIn K c4 = true)
    (cc4 : PySem.W.findIn K (.ref c4) "__class__" = some (some (.builtin "object.__class__")))
    (mo4 : PySem.W.mroIn K c4 (.type "object") = some true)
    (lc4 : K.lookup i4 = some ⟨occ4, odc4, .func (PySem.W.fnOf "__init__" "BadLine.__init__" (defArgs (inClass (top 6) 0)) (defBody (inClass (top 6) 0)) (defScope (inClass (top 6) 0)) .none .none dcc4 pmc4 anc4 cdc4 ctc4), slc4⟩)
    (co4 : PySem.W.codeIn K cdc4 "BadLine.__init__" = true)
    (s40 : PySem.W.subIn K (.ref c4) (.ref c0) = some false)
    (s41 : PySem.W.subIn K (.ref c4) (.ref c1) = some false)
    (s42 : PySem.W.subIn K (.ref c4) (.ref c2) = some false)
    (s43 : PySem.W.subIn K (.ref c4) (.ref c3) = some false)
    (s44 : PySem.W.subIn K (.ref c4) (.ref c4) = some true)
    (s45 : PySem.W.subIn K (.ref c4) (.ref c5) = some false)
    (s46 : PySem.W.subIn K (.ref c4) (.ref c6) = some false)
    (sB4 : PySem.W.subIn K (.ref c4) (.ref cB) = some true)
    (sxv4 : PySem.W.subIn K (.ref c4) (.type "ValueError") = some false)
    (sxl4 : PySem.W.subIn K (.ref c4) (.type "LookupError") = some false)
    (sxa4 : PySem.W.subIn K (.ref c4) (.type "ArithmeticError") = some false)
    (g5 : PySem.W.nsIn K mainGlobals "TooMany" = some (some (.ref c5)))
    (ini5 : PySem.W.excInitIn K c5 XM.exTail "Exception.__new__" = true)
    (ovr5 : PySem.W.excOver K c5 XM.exTail = true)
    (tkn5 : PySem.W.takerIn K c5 "word" = some none)
    (sa5 : PySem.W.findIn K (.ref c5) "__setattr__" = some (some (.builtin "object.__setattr__")))
    (ga5 : PySem.W.findIn K (.ref c5) "__getattribute__" = some (some (.builtin "BaseException.__getattribute__")))
    (gg5 : PySem.W.findIn K (.ref c5) "__getattr__" = some none)
    (no5 : PySem.W.findIn K (.ref c5) "word" = some none)
    (ic5 : PySem.W.findIn K (.ref c5) "__init__" = some (some (.ref i5)))
    (tc5 : PySem.W.typeIn K (.ref i5) = some (.type "function"))
    (kc5 : PySem.W.keepIn K (.ref c5) = true)
    (ex5 : PySem.W.subIn K (.ref c5) (.type "BaseException") = some true)
    (ty5 : PySem.W.typeIn K (.ref c5) = some (.type "type"))
    (hd5 : PySem.W.hasDictIn K c5 = true)
    (is5 : PySem.W.isClsIn K c5 = true)
    (cc5 : PySem.W.findIn K (.ref c5) "__class__" = some (some (.builtin "object.__class__")))
    (mo5 : PySem.W.mroIn K c5 (.type "object") = some true)
    (lc5 : K.lookup i5 = some ⟨occ5, odc5, .func (PySem.W.fnOf "__init__" "TooMany.__init__" (defArgs (inClass (top 7) 0)) (defBody (inClass (top 7) 0)) (defScope (inClass (top 7) 0)) .none .none dcc5 pmc5 anc5 cdc5 ctc5), slc5⟩)
    (co5 : PySem.W.codeIn K cdc5 "TooMany.__init__" = true)
    (s50 : PySem.W.subIn K (.ref c5) (.ref c0) = some false)
    (s51 : PySem.W.subIn K (.ref c5) (.ref c1) = some false)
    (s52 : PySem.W.subIn K (.ref c5) (.ref c2) = some false)
    (s53 : PySem.W.subIn K (.ref c5) (.ref c3) = some false)
    (s54 : PySem.W.subIn K (.ref c5) (.ref c4) = some false)
    (s55 : PySem.W.subIn K (.ref c5) (.ref c5) = some true)
    (s56 : PySem.W.subIn K (.ref c5) (.ref c6) = some false)
    (sB5 : PySem.W.subIn K (.ref c5) (.ref cB) = some true)
    (sxv5 : PySem.W.subIn K (.ref c5) (.type "ValueError") = some false)
    (sxl5 : PySem.W.subIn K (.ref c5) (.type "LookupError") = some false)
    (sxa5 : PySem.W.subIn K (.ref c5) (.type "ArithmeticError") = some false)
    (g6 : PySem.W.nsIn K mainGlobals "NothingThere" = some (some (.ref c6)))
    (ini6 : PySem.W.excInitIn K c6 XM.exTail "Exception.__new__" = true)
    (ovr6 : PySem.W.excOver K c6 XM.exTail = true)
    (tkn6 : PySem.W.takerIn K c6 "word" = some none)
    (sa6 : PySem.W.findIn K (.ref c6) "__setattr__" = some (some (.builtin "object.__setattr__")))
    (ga6 : PySem.W.findIn K (.ref c6) "__getattribute__" = some (some (.builtin "BaseException.__getattribute__")))
    (gg6 : PySem.W.findIn K (.ref c6) "__getattr__" = some none)
    (no6 : PySem.W.findIn K (.ref c6) "word" = some none)
    (ic6 : PySem.W.findIn K (.ref c6) "__init__" = some (some (.ref i6)))
    (tc6 : PySem.W.typeIn K (.ref i6) = some (.type "function"))
    (kc6 : PySem.W.keepIn K (.ref c6) = true)
    (ex6 : PySem.W.subIn K (.ref c6) (.type "BaseException") = some true)
    (ty6 : PySem.W.typeIn K (.ref c6) = some (.type "type"))
    (hd6 : PySem.W.hasDictIn K c6 = true)
    (is6 : PySem.W.isClsIn K c6 = true)
    (cc6 : PySem.W.findIn K (.ref c6) "__class__" = some (some (.builtin "object.__class__")))
    (mo6 : PySem.W.mroIn K c6 (.type "object") = some true)
    (lc6 : K.lookup i6 = some ⟨occ6, odc6, .func (PySem.W.fnOf "__init__" "NothingThere.__init__" (defArgs (inClass (top 8) 0)) (defBody (inClass (top 8) 0)) (defScope (inClass (top 8) 0)) .none .none dcc6 pmc6 anc6 cdc6 ctc6), slc6⟩)
    (co6 : PySem.W.codeIn K cdc6 "NothingThere.__init__" = true)
    (s60 : PySem.W.subIn K (.ref c6) (.ref c0) = some false)
    (s61 : PySem.W.subIn K (.ref c6) (.ref c1) = some false)
    (s62 : PySem.W.subIn K (.ref c6) (.ref c2) = some false)
    (s63 : PySem.W.subIn K (.ref c6) (.ref c3) = some false)
    (s64 : PySem.W.subIn K (.ref c6) (.ref c4) = some false)
    (s65 : PySem.W.subIn K (.ref c6) (.ref c5) = some false)
    (s66 : PySem.W.subIn K (.ref c6) (.ref c6) = some true)
    (sB6 : PySem.W.subIn K (.ref c6) (.ref cB) = some true)
    (sxv6 : PySem.W.subIn K (.ref c6) (.type "ValueError") = some false)
    (sxl6 : PySem.W.subIn K (.ref c6) (.type "LookupError") = some false)
    (sxa6 : PySem.W.subIn K (.ref c6) (.type "ArithmeticError") = some false)
    (gB : PySem.W.nsIn K mainGlobals "TalkError" = some (some (.ref cB)))
    (exB : PySem.W.subIn K (.ref cB) (.type "BaseException") = some true)
    (tyB : PySem.W.typeIn K (.ref cB) = some (.type "type"))
    (hdB : PySem.W.hasDictIn K cB = true)
    (spG : PySem.W.specialIn K (.builtin "object.__class__") "__get__" = some (some (.builtin "getset_descriptor.__get__")))
    (tkG : PySem.W.takesIn K (.builtin "object.__class__") = some true)
    (aFlow : PySem.W.nsIn K mainGlobals "_law_flow" = some (some (.ref fFlow)))
    (lFlow : K.lookup fFlow = some ⟨ocFlow, odFlow, .func (PySem.W.fnOf "_law_flow" "_law_flow" (defArgs sFlow) (defBody sFlow) (defScope sFlow) .none kVFlow dcFlow pmFlow anFlow cdFlow ctFlow), slFlow⟩)
    (cFlow : PySem.W.codeIn K cdFlow "_law_flow" = true)
    (kFlow : PySem.W.keepIn K (.ref fFlow) = true)
    (aLoad : PySem.W.nsIn K mainGlobals "_law_load" = some (some (.ref fLoad)))
    (lLoad : K.lookup fLoad = some ⟨ocLoad, odLoad, .func (PySem.W.fnOf "_law_load" "_law_load" (defArgs sLoad) (defBody sLoad) (defScope sLoad) .none kVLoad dcLoad pmLoad anLoad cdLoad ctLoad), slLoad⟩)
    (cLoad : PySem.W.codeIn K cdLoad "_law_load" = true)
    (kLoad : PySem.W.keepIn K (.ref fLoad) = true)
    (aDraw : PySem.W.nsIn K mainGlobals "_law_draw" = some (some (.ref fDraw)))
    (lDraw : K.lookup fDraw = some ⟨ocDraw, odDraw, .func (PySem.W.fnOf "_law_draw" "_law_draw" (defArgs sDraw) (defBody sDraw) (defScope sDraw) .none kVDraw dcDraw pmDraw anDraw cdDraw ctDraw), slDraw⟩)
    (cDraw : PySem.W.codeIn K cdDraw "_law_draw" = true)
    (kDraw : PySem.W.keepIn K (.ref fDraw) = true)
    (aPick : PySem.W.nsIn K mainGlobals "_law_pick" = some (some (.ref fPick)))
    (lPick : K.lookup fPick = some ⟨ocPick, odPick, .func (PySem.W.fnOf "_law_pick" "_law_pick" (defArgs sPick) (defBody sPick) (defScope sPick) .none kVPick dcPick pmPick anPick cdPick ctPick), slPick⟩)
    (cPick : PySem.W.codeIn K cdPick "_law_pick" = true)
    (kPick : PySem.W.keepIn K (.ref fPick) = true)
    (aSame : PySem.W.nsIn K mainGlobals "_law_same" = some (some (.ref fSame)))
    (lSame : K.lookup fSame = some ⟨ocSame, odSame, .func (PySem.W.fnOf "_law_same" "_law_same" (defArgs sSame) (defBody sSame) (defScope sSame) .none kVSame dcSame pmSame anSame cdSame ctSame), slSame⟩)
    (cSame : PySem.W.codeIn K cdSame "_law_same" = true)
    (kSame : PySem.W.keepIn K (.ref fSame) = true)
    (aRaise : PySem.W.nsIn K mainGlobals "_law_raise" = some (some (.ref fRaise)))
    (lRaise : K.lookup fRaise = some ⟨ocRaise, odRaise, .func (PySem.W.fnOf "_law_raise" "_law_raise" (defArgs sRaise) (defBody sRaise) (defScope sRaise) .none kVRaise dcRaise pmRaise anRaise cdRaise ctRaise), slRaise⟩)
    (cRaise : PySem.W.codeIn K cdRaise "_law_raise" = true)
    (kRaise : PySem.W.keepIn K (.ref fRaise) = true)
    (aKept : PySem.W.nsIn K mainGlobals "_law_kept" = some (some (.ref fKept)))
    (lKept : K.lookup fKept = some ⟨ocKept, odKept, .func (PySem.W.fnOf "_law_kept" "_law_kept" (defArgs sKept) (defBody sKept) (defScope sKept) .none kVKept dcKept pmKept anKept cdKept ctKept), slKept⟩)
    (cKept : PySem.W.codeIn K cdKept "_law_kept" = true)
    (kKept : PySem.W.keepIn K (.ref fKept) = true)
    (aClasses : PySem.W.nsIn K mainGlobals "_law_classes" = some (some (.ref fClasses)))
    (lClasses : K.lookup fClasses = some ⟨ocClasses, odClasses, .func (PySem.W.fnOf "_law_classes" "_law_classes" (defArgs sClasses) (defBody sClasses) (defScope sClasses) .none kVClasses dcClasses pmClasses anClasses cdClasses ctClasses), slClasses⟩)
    (cClasses : PySem.W.codeIn K cdClasses "_law_classes" = true)
    (kClasses : PySem.W.keepIn K (.ref fClasses) = true)
    (aGiven : PySem.W.nsIn K mainGlobals "_law_given" = some (some (.ref fGiven)))
    (lGiven : K.lookup fGiven = some ⟨ocGiven, odGiven, .func (PySem.W.fnOf "_law_given" "_law_given" (defArgs sGiven) (defBody sGiven) (defScope sGiven) .none kVGiven dcGiven pmGiven anGiven cdGiven ctGiven), slGiven⟩)
    (cGiven : PySem.W.codeIn K cdGiven "_law_given" = true)
    (kGiven : PySem.W.keepIn K (.ref fGiven) = true)
    (aLaw : PySem.W.nsIn K mainGlobals "law" = some (some (.ref fLaw)))
    (lLaw : K.lookup fLaw = some ⟨ocLaw, odLaw, .func (PySem.W.fnOf "law" "law" (defArgs sLaw) (defBody sLaw) (defScope sLaw) .none kVLaw dcLaw pmLaw anLaw cdLaw ctLaw), slLaw⟩)
    (cLaw : PySem.W.codeIn K cdLaw "law" = true)
    (kLaw : PySem.W.keepIn K (.ref fLaw) = true)
    (z_int : PySem.W.nsIn K mainGlobals "int" = some none)
    (z_list : PySem.W.nsIn K mainGlobals "list" = some none)
    (z_len : PySem.W.nsIn K mainGlobals "len" = some none)
    (z_abs : PySem.W.nsIn K mainGlobals "abs" = some none)
    (z_max : PySem.W.nsIn K mainGlobals "max" = some none)
    (z_isinstance : PySem.W.nsIn K mainGlobals "isinstance" = some none)
    (z_tuple : PySem.W.nsIn K mainGlobals "tuple" = some none)
    (z_all : PySem.W.nsIn K mainGlobals "all" = some none)
    (z_range : PySem.W.nsIn K mainGlobals "range" = some none)
    (z_str : PySem.W.nsIn K mainGlobals "str" = some none)
    (z_bool : PySem.W.nsIn K mainGlobals "bool" = some none)
    (z_ValueError : PySem.W.nsIn K mainGlobals "ValueError" = some none)
    (z_LookupError : PySem.W.nsIn K mainGlobals "LookupError" = some none)
    (z_ArithmeticError : PySem.W.nsIn K mainGlobals "ArithmeticError" = some none) :
    ∃ fd : FuncData, (∀ (s : Shared) (v : Value), BindsTo s fd ⟨[v], []⟩ [("script", v)]) ∧ ∀ base : Heap, K.In base → base.Ns mainGlobals mg → FnOk l.prog w K mg base CX0 5 fa fd ["script"] (spLaw K) := by
  have e := hfa.symm.trans (PySem.W.mg_of X G aLaw)
  cases e
  have t0 : XcT K c0 i0 "at" "BadValue.__init__" := ⟨.inl rfl, ini0, ovr0, tkn0, sa0, ga0, gg0, no0, ic0, tc0, kc0, ex0, ty0, hd0, ⟨_, _, _, _, _, _, _, _, _, _, _, _, _, _, lc0, co0⟩⟩
  have q0 : ClsQ K c0 := ⟨ga0, gg0, ex0, hd0, cc0, spG, tkG, mo0⟩
  have t1 : XcT K c1 i1 "name" "BadField.__init__" := ⟨.inr (.inl rfl), ini1, ovr1, tkn1, sa1, ga1, gg1, no1, ic1, tc1, kc1, ex1, ty1, hd1, ⟨_, _, _, _, _, _, _, _, _, _, _, _, _, _, lc1, co1⟩⟩
  have q1 : ClsQ K c1 := ⟨ga1, gg1, ex1, hd1, cc1, spG, tkG, mo1⟩
  have t2 : XcT K c2 i2 "at" "BadPaper.__init__" := ⟨.inl rfl, ini2, ovr2, tkn2, sa2, ga2, gg2, no2, ic2, tc2, kc2, ex2, ty2, hd2, ⟨_, _, _, _, _, _, _, _, _, _, _, _, _, _, lc2, co2⟩⟩
  have q2 : ClsQ K c2 := ⟨ga2, gg2, ex2, hd2, cc2, spG, tkG, mo2⟩
  have t3 : XcT K c3 i3 "at" "BadLog.__init__" := ⟨.inl rfl, ini3, ovr3, tkn3, sa3, ga3, gg3, no3, ic3, tc3, kc3, ex3, ty3, hd3, ⟨_, _, _, _, _, _, _, _, _, _, _, _, _, _, lc3, co3⟩⟩
  have q3 : ClsQ K c3 := ⟨ga3, gg3, ex3, hd3, cc3, spG, tkG, mo3⟩
  have t4 : XcT K c4 i4 "at" "BadLine.__init__" := ⟨.inl rfl, ini4, ovr4, tkn4, sa4, ga4, gg4, no4, ic4, tc4, kc4, ex4, ty4, hd4, ⟨_, _, _, _, _, _, _, _, _, _, _, _, _, _, lc4, co4⟩⟩
  have q4 : ClsQ K c4 := ⟨ga4, gg4, ex4, hd4, cc4, spG, tkG, mo4⟩
  have t5 : XcT K c5 i5 "word" "TooMany.__init__" := ⟨.inr (.inr rfl), ini5, ovr5, tkn5, sa5, ga5, gg5, no5, ic5, tc5, kc5, ex5, ty5, hd5, ⟨_, _, _, _, _, _, _, _, _, _, _, _, _, _, lc5, co5⟩⟩
  have q5 : ClsQ K c5 := ⟨ga5, gg5, ex5, hd5, cc5, spG, tkG, mo5⟩
  have t6 : XcT K c6 i6 "word" "NothingThere.__init__" := ⟨.inr (.inr rfl), ini6, ovr6, tkn6, sa6, ga6, gg6, no6, ic6, tc6, kc6, ex6, ty6, hd6, ⟨_, _, _, _, _, _, _, _, _, _, _, _, _, _, lc6, co6⟩⟩
  have q6 : ClsQ K c6 := ⟨ga6, gg6, ex6, hd6, cc6, spG, tkG, mo6⟩
  let C : Nat → Addr := fun i => match i with
    | 0 => c0
    | 1 => c1
    | 2 => c2
    | 3 => c3
    | 4 => c4
    | 5 => c5
    | _ => c6
  let I : Nat → Addr := fun i => match i with
    | 0 => i0
    | 1 => i1
    | 2 => i2
    | 3 => i3
    | 4 => i4
    | 5 => i5
    | _ => i6
  have T : Er K mg C I cB :=
    { t0 := t0, t1 := t1, t2 := t2, t3 := t3, t4 := t4, t5 := t5, t6 := t6
      g0 := PySem.W.mg_of X G g0
      g1 := PySem.W.mg_of X G g1
      g2 := PySem.W.mg_of X G g2
      g3 := PySem.W.mg_of X G g3
      g4 := PySem.W.mg_of X G g4
      g5 := PySem.W.mg_of X G g5
      g6 := PySem.W.mg_of X G g6
      gB := PySem.W.mg_of X G gB
      exm := fun i j hi hj => match i, j, hi, hj with
      | 0, 0, _, _ => PySem.W.exm_ref ex0 hd0 ty0 s00
      | 0, 1, _, _ => PySem.W.exm_ref ex1 hd1 ty1 s01
      | 0, 2, _, _ => PySem.W.exm_ref ex2 hd2 ty2 s02
      | 0, 3, _, _ => PySem.W.exm_ref ex3 hd3 ty3 s03
      | 0, 4, _, _ => PySem.W.exm_ref ex4 hd4 ty4 s04
      | 0, 5, _, _ => PySem.W.exm_ref ex5 hd5 ty5 s05
      | 0, 6, _, _ => PySem.W.exm_ref ex6 hd6 ty6 s06
      | 1, 0, _, _ => PySem.W.exm_ref ex0 hd0 ty0 s10
      | 1, 1, _, _ => PySem.W.exm_ref ex1 hd1 ty1 s11
      | 1, 2, _, _ => PySem.W.exm_ref ex2 hd2 ty2 s12
      | 1, 3, _, _ => PySem.W.exm_ref ex3 hd3 ty3 s13
      | 1, 4, _, _ => PySem.W.exm_ref ex4 hd4 ty4 s14
      | 1, 5, _, _ => PySem.W.exm_ref ex5 hd5 ty5 s15
      | 1, 6, _, _ => PySem.W.exm_ref ex6 hd6 ty6 s16
      | 2, 0, _, _ => PySem.W.exm_ref ex0 hd0 ty0 s20
      | 2, 1, _, _ => PySem.W.exm_ref ex1 hd1 ty1 s21
      | 2, 2, _, _ => PySem.W.exm_ref ex2 hd2 ty2 s22
      | 2, 3, _, _ => PySem.W.exm_ref ex3 hd3 ty3 s23
      | 2, 4, _, _ => PySem.W.exm_ref ex4 hd4 ty4 s24
      | 2, 5, _, _ => PySem.W.exm_ref ex5 hd5 ty5 s25
      | 2, 6, _, _ => PySem.W.exm_ref ex6 hd6 ty6 s26
      | 3, 0, _, _ => PySem.W.exm_ref ex0 hd0 ty0 s30
      | 3, 1, _, _ => PySem.W.exm_ref ex1 hd1 ty1 s31
      | 3, 2, _, _ => PySem.W.exm_ref ex2 hd2 ty2 s32
      | 3, 3, _, _ => PySem.W.exm_ref ex3 hd3 ty3 s33
      | 3, 4, _, _ => PySem.W.exm_ref ex4 hd4 ty4 s34
      | 3, 5, _, _ => PySem.W.exm_ref ex5 hd5 ty5 s35
      | 3, 6, _, _ => PySem.W.exm_ref ex6 hd6 ty6 s36
      | 4, 0, _, _ => PySem.W.exm_ref ex0 hd0 ty0 s40
      | 4, 1, _, _ => PySem.W.exm_ref ex1 hd1 ty1 s41
      | 4, 2, _, _ => PySem.W.exm_ref ex2 hd2 ty2 s42
      | 4, 3, _, _ => PySem.W.exm_ref ex3 hd3 ty3 s43
      | 4, 4, _, _ => PySem.W.exm_ref ex4 hd4 ty4 s44
      | 4, 5, _, _ => PySem.W.exm_ref ex5 hd5 ty5 s45
      | 4, 6, _, _ => PySem.W.exm_ref ex6 hd6 ty6 s46
      | 5, 0, _, _ => PySem.W.exm_ref ex0 hd0 ty0 s50
      | 5, 1, _, _ => PySem.W.exm_ref ex1 hd1 ty1 s51
      | 5, 2, _, _ => PySem.W.exm_ref ex2 hd2 ty2 s52
      | 5, 3, _, _ => PySem.W.exm_ref ex3 hd3 ty3 s53
      | 5, 4, _, _ => PySem.W.exm_ref ex4 hd4 ty4 s54
      | 5, 5, _, _ => PySem.W.exm_ref ex5 hd5 ty5 s55
      | 5, 6, _, _ => PySem.W.exm_ref ex6 hd6 ty6 s56
      | 6, 0, _, _ => PySem.W.exm_ref ex0 hd0 ty0 s60
      | 6, 1, _, _ => PySem.W.exm_ref ex1 hd1 ty1 s61
      | 6, 2, _, _ => PySem.W.exm_ref ex2 hd2 ty2 s62
      | 6, 3, _, _ => PySem.W.exm_ref ex3 hd3 ty3 s63
      | 6, 4, _, _ => PySem.W.exm_ref ex4 hd4 ty4 s64
      | 6, 5, _, _ => PySem.W.exm_ref ex5 hd5 ty5 s65
      | 6, 6, _, _ => PySem.W.exm_ref ex6 hd6 ty6 s66
      | n + 7, _, h, _ => absurd h (by omega)
      | _, n + 7, _, h => absurd h (by omega)
      kit := fun i j hi hj => match i, j, hi, hj with
      | 0, 0, _, _ => kit_own is0 ty0 s00 s00
      | 0, 1, _, _ => kit_own is1 ty1 s01 s11
      | 0, 2, _, _ => kit_own is2 ty2 s02 s22
      | 0, 3, _, _ => kit_own is3 ty3 s03 s33
      | 0, 4, _, _ => kit_own is4 ty4 s04 s44
      | 0, 5, _, _ => kit_own is5 ty5 s05 s55
      | 0, 6, _, _ => kit_own is6 ty6 s06 s66
      | 1, 0, _, _ => kit_own is0 ty0 s10 s00
      | 1, 1, _, _ => kit_own is1 ty1 s11 s11
      | 1, 2, _, _ => kit_own is2 ty2 s12 s22
      | 1, 3, _, _ => kit_own is3 ty3 s13 s33
      | 1, 4, _, _ => kit_own is4 ty4 s14 s44
      | 1, 5, _, _ => kit_own is5 ty5 s15 s55
      | 1, 6, _, _ => kit_own is6 ty6 s16 s66
      | 2, 0, _, _ => kit_own is0 ty0 s20 s00
      | 2, 1, _, _ => kit_own is1 ty1 s21 s11
      | 2, 2, _, _ => kit_own is2 ty2 s22 s22
      | 2, 3, _, _ => kit_own is3 ty3 s23 s33
      | 2, 4, _, _ => kit_own is4 ty4 s24 s44
      | 2, 5, _, _ => kit_own is5 ty5 s25 s55
      | 2, 6, _, _ => kit_own is6 ty6 s26 s66
      | 3, 0, _, _ => kit_own is0 ty0 s30 s00
      | 3, 1, _, _ => kit_own is1 ty1 s31 s11
      | 3, 2, _, _ => kit_own is2 ty2 s32 s22
      | 3, 3, _, _ => kit_own is3 ty3 s33 s33
      | 3, 4, _, _ => kit_own is4 ty4 s34 s44
      | 3, 5, _, _ => kit_own is5 ty5 s35 s55
      | 3, 6, _, _ => kit_own is6 ty6 s36 s66
      | 4, 0, _, _ => kit_own is0 ty0 s40 s00
      | 4, 1, _, _ => kit_own is1 ty1 s41 s11
      | 4, 2, _, _ => kit_own is2 ty2 s42 s22
      | 4, 3, _, _ => kit_own is3 ty3 s43 s33
      | 4, 4, _, _ => kit_own is4 ty4 s44 s44
      | 4, 5, _, _ => kit_own is5 ty5 s45 s55
      | 4, 6, _, _ => kit_own is6 ty6 s46 s66
      | 5, 0, _, _ => kit_own is0 ty0 s50 s00
      | 5, 1, _, _ => kit_own is1 ty1 s51 s11
      | 5, 2, _, _ => kit_own is2 ty2 s52 s22
      | 5, 3, _, _ => kit_own is3 ty3 s53 s33
      | 5, 4, _, _ => kit_own is4 ty4 s54 s44
      | 5, 5, _, _ => kit_own is5 ty5 s55 s55
      | 5, 6, _, _ => kit_own is6 ty6 s56 s66
      | 6, 0, _, _ => kit_own is0 ty0 s60 s00
      | 6, 1, _, _ => kit_own is1 ty1 s61 s11
      | 6, 2, _, _ => kit_own is2 ty2 s62 s22
      | 6, 3, _, _ => kit_own is3 ty3 s63 s33
      | 6, 4, _, _ => kit_own is4 ty4 s64 s44
      | 6, 5, _, _ => kit_own is5 ty5 s65 s55
      | 6, 6, _, _ => kit_own is6 ty6 s66 s66
      | n + 7, _, h, _ => absurd h (by omega)
      | _, n + 7, _, h => absurd h (by omega)
      exB := fun i hi => match i, hi with
      | 0, _ => PySem.W.exm_ref exB hdB tyB sB0
      | 1, _ => PySem.W.exm_ref exB hdB tyB sB1
      | 2, _ => PySem.W.exm_ref exB hdB tyB sB2
      | 3, _ => PySem.W.exm_ref exB hdB tyB sB3
      | 4, _ => PySem.W.exm_ref exB hdB tyB sB4
      | 5, _ => PySem.W.exm_ref exB hdB tyB sB5
      | 6, _ => PySem.W.exm_ref exB hdB tyB sB6
      | n + 7, h => absurd h (by omega)
      kno := fun i hi => match i, hi with
      | 0, _ => kit_no sxv0 sxl0 sxa0
      | 1, _ => kit_no sxv1 sxl1 sxa1
      | 2, _ => kit_no sxv2 sxl2 sxa2
      | 3, _ => kit_no sxv3 sxl3 sxa3
      | 4, _ => kit_no sxv4 sxl4 sxa4
      | 5, _ => kit_no sxv5 sxl5 sxa5
      | 6, _ => kit_no sxv6 sxl6 sxa6
      | n + 7, h => absurd h (by omega)
      cq := fun i hi => match i, hi with
      | 0, _ => q0
      | 1, _ => q1
      | 2, _ => q2
      | 3, _ => q3
      | 4, _ => q4
      | 5, _ => q5
      | 6, _ => q6
      | n + 7, h => absurd h (by omega)
    }
  have FFlow := fun_mk (st := sFlow) lFlow cFlow kFlow
  have FLoad := fun_mk (st := sLoad) lLoad cLoad kLoad
  have FDraw := fun_mk (st := sDraw) lDraw cDraw kDraw
  have FPick := fun_mk (st := sPick) lPick cPick kPick
  have FSame := fun_mk (st := sSame) lSame cSame kSame
  have FRaise := fun_mk (st := sRaise) lRaise cRaise kRaise
  have FKept := fun_mk (st := sKept) lKept cKept kKept
  have FClasses := fun_mk (st := sClasses) lClasses cClasses kClasses
  have FGiven := fun_mk (st := sGiven) lGiven cGiven kGiven
  have FLaw := fun_mk (st := sLaw) lLaw cLaw kLaw
  have bFlow := FFlow.binds (ps := ["script"]) fun _ _ _ _ _ _ us hl => match us, hl with | [_], _ => rfl
  have bLoad := FLoad.binds (ps := ["flow"]) fun _ _ _ _ _ _ us hl => match us, hl with | [_], _ => rfl
  have bDraw := FDraw.binds (ps := ["flow", "many"]) fun _ _ _ _ _ _ us hl => match us, hl with | [_, _], _ => rfl
  have bPick := FPick.binds (ps := ["flow", "things"]) fun _ _ _ _ _ _ us hl => match us, hl with | [_, _], _ => rfl
  have bSame := FSame.binds (ps := ["actual", "due"]) fun _ _ _ _ _ _ us hl => match us, hl with | [_, _], _ => rfl
  have bRaise := FRaise.binds (ps := ["kind", "given"]) fun _ _ _ _ _ _ us hl => match us, hl with | [_, _], _ => rfl
  have bKept := FKept.binds (ps := ["kind", "given"]) fun _ _ _ _ _ _ us hl => match us, hl with | [_, _], _ => rfl
  have bClasses := FClasses.binds (ps := ["kind", "given"]) fun _ _ _ _ _ _ us hl => match us, hl with | [_, _], _ => rfl
  have bGiven := FGiven.binds (ps := ["flow", "kind"]) fun _ _ _ _ _ _ us hl => match us, hl with | [_, _], _ => rfl
  have m_int := PySem.W.mg_none_of X G z_int
  have m_list := PySem.W.mg_none_of X G z_list
  have m_len := PySem.W.mg_none_of X G z_len
  have m_abs := PySem.W.mg_none_of X G z_abs
  have m_max := PySem.W.mg_none_of X G z_max
  have m_isinstance := PySem.W.mg_none_of X G z_isinstance
  have m_tuple := PySem.W.mg_none_of X G z_tuple
  have m_all := PySem.W.mg_none_of X G z_all
  have m_range := PySem.W.mg_none_of X G z_range
  have m_str := PySem.W.mg_none_of X G z_str
  have m_bool := PySem.W.mg_none_of X G z_bool
  have m_ValueError := PySem.W.mg_none_of X G z_ValueError
  have m_LookupError := PySem.W.mg_none_of X G z_LookupError
  have m_ArithmeticError := PySem.W.mg_none_of X G z_ArithmeticError
  have mFlow := PySem.W.mg_of X G aFlow
  have mLoad := PySem.W.mg_of X G aLoad
  have mDraw := PySem.W.mg_of X G aDraw
  have mPick := PySem.W.mg_of X G aPick
  have mSame := PySem.W.mg_of X G aSame
  have mRaise := PySem.W.mg_of X G aRaise
  have mKept := PySem.W.mg_of X G aKept
  have mClasses := PySem.W.mg_of X G aClasses
  have mGiven := PySem.W.mg_of X G aGiven
  have mLaw := PySem.W.mg_of X G aLaw
  have T1 : Bt mg := ⟨m_int, m_list, m_len, m_abs, m_max⟩
  have T2 : Bs mg := ⟨m_isinstance, m_tuple, m_list, m_len, m_all, m_range, m_str, m_bool, m_int⟩
  have T3 : Bc mg := ⟨m_isinstance, m_range, m_ValueError, m_LookupError, m_ArithmeticError⟩
  refine ⟨PySem.W.fnOf "law" "law" (defArgs sLaw) (defBody sLaw) (defScope sLaw) .none kVLaw dcLaw pmLaw anLaw cdLaw ctLaw, fun s v => .of_eq rfl, fun base _ _ => ?_⟩
  have GD := ok_draw (P := l.prog) (w := w) (base := base) FDraw T1 FLoad bLoad mLoad
  have GP := ok_pick FPick T1 GD FDraw.kp bDraw mDraw
  have GS := same_all (P := l.prog) (w := w) (base := base) FSame T2 bSame mSame 3
  have GK := ok_kept FKept T FRaise bRaise mRaise GS FSame.kp bSame mSame
  have GC := ok_classes (P := l.prog) (w := w) (base := base) FClasses T T3 FRaise bRaise mRaise
  have GG := ok_given FGiven GD FDraw.kp bDraw mDraw GP FPick.kp bPick mPick
  have GF := ok_flow (P := l.prog) (w := w) (base := base) FFlow T1
  exact ok_law FLaw m_range GF FFlow.kp bFlow mFlow GG FGiven.kp bGiven mGiven GK FKept.kp bKept mKept GC FClasses.kp bClasses mClasses
theorem walk {l : PySem.W.OpenLaw} {q : Program} {loose : List Str} {XP : (Str → Option Value) → Heap → Prop} {YP : World → Heap → Prop} {d : DefRec} {K : Params → PySem.W.Frag} (hn : l.most = some 63) (hdf : d.params.defaults = [])
    (hY : ∀ (w : World) (h : Heap), YP w h → (K w.params).In h)
    (F : ∀ (w : World) (mg : Str → Option Value) (fa : Addr) (h : Heap), (K w.params).In h → h.Ns mainGlobals mg → mg d.name = some (.ref fa) →
      ∃ fd : FuncData, (∀ (s : Shared) (u : Value), BindsTo s fd ⟨[u], []⟩ [("script", u)]) ∧ ∀ base : Heap, (K w.params).In base → base.Ns mainGlobals mg → FnOk l.prog w (K w.params) mg base CX0 5 fa fd ["script"] (spLaw (K w.params))) :
    PySem.W.WalkO q loose XP YP l.row.toRowW d [] (fun f vs => PySem.call f vs) :=
  L2.walk_of (n := 63) (k := 5) (x := "script") (CX := fun _ => CX0) (sp := fun w => spLaw (K w.params)) hn (by decide) hdf ⟨rfl, by decide, by decide⟩ hY F (fun _ _ a ns hl _ hS => ⟨a, ns, rfl, hS, hl, fun _ => rfl⟩) fun _ _ _ _ _ z => z
end Q

set_option Elab.async false
open PySem PySem.W PyProof.Rows
set_option maxRecDepth 100000 in
set_option maxHeartbeats 0 in
theorem PySem.Challenge.cw_sayfill_k00_errors_holds : PySem.Challenge.rw_sayfill_k00_errors.Holds := by
  w_on; o_law; k_head; (case hw => w_witness2)
  k_fill
  refine Q.walk (l := PySem.Challenge.rw_sayfill_k00_errors) rfl rfl (fun w h Y => PySem.W.kIn_of Y) ?F
  case F =>
    intro w mg fa h KX G hmg
    refine' Q.all_mk KX G hmg ?zz_g0 ?zz_ini0 ?zz_ovr0 ?zz_tkn0 ?zz_sa0 ?zz_ga0 ?zz_gg0 ?zz_no0 ?zz_ic0 ?zz_tc0 ?zz_kc0 ?zz_ex0 ?zz_ty0 ?zz_hd0 ?zz_is0 ?zz_cc0 ?zz_mo0 ?zz_lc0 ?zz_co0 ?zz_s00 ?zz_s01 ?zz_s02 ?zz_s03 ?zz_s04 ?zz_s05 ?zz_s06 ?zz_sB0 ?zz_sxv0 ?zz_sxl0 ?zz_sxa0 ?zz_g1 ?zz_ini1 ?zz_ovr1 ?zz_tkn1 ?zz_sa1 ?zz_ga1 ?zz_gg1 ?zz_no1 ?zz_ic1 ?zz_tc1 ?zz_kc1 ?zz_ex1 ?zz_ty1 ?zz_hd1 ?zz_is1 ?zz_cc1 ?zz_mo1 ?zz_lc1 ?zz_co1 ?zz_s10 ?zz_s11 ?zz_s12 ?zz_s13 ?zz_s14 ?zz_s15 ?zz_s16 ?zz_sB1 ?zz_sxv1 ?zz_sxl1 ?zz_sxa1 ?zz_g2 ?zz_ini2 ?zz_ovr2 ?zz_tkn2 ?zz_sa2 ?zz_ga2 ?zz_gg2 ?zz_no2 ?zz_ic2 ?zz_tc2 ?zz_kc2 ?zz_ex2 ?zz_ty2 ?zz_hd2 ?zz_is2 ?zz_cc2 ?zz_mo2 ?zz_lc2 ?zz_co2 ?zz_s20 ?zz_s21 ?zz_s22 ?zz_s23 ?zz_s24 ?zz_s25 ?zz_s26 ?zz_sB2 ?zz_sxv2 ?zz_sxl2 ?zz_sxa2 ?zz_g3 ?zz_ini3 ?zz_ovr3 ?zz_tkn3 ?zz_sa3 ?zz_ga3 ?zz_gg3 ?zz_no3 ?zz_ic3 ?zz_tc3 ?zz_kc3 ?zz_ex3 ?zz_ty3 ?zz_hd3 ?zz_is3 ?zz_cc3 ?zz_mo3 ?zz_lc3 ?zz_co3 ?zz_s30 ?zz_s31 ?zz_s32 ?zz_s33 ?zz_s34 ?zz_s35 ?zz_s36 ?zz_sB3 ?zz_sxv3 ?zz_sxl3 ?zz_sxa3 ?zz_g4 ?zz_ini4 ?zz_ovr4 ?zz_tkn4 ?zz_sa4 ?zz_ga4 ?zz_gg4 ?zz_no4 ?zz_ic4 ?zz_tc4 ?zz_kc4 ?zz_ex4 ?zz_ty4 ?zz_hd4 ?zz_is4 ?zz_cc4 ?zz_mo4 ?zz_lc4 ?zz_co4 ?zz_s40 ?zz_s41 ?zz_s42 ?zz_s43 ?zz_s44 ?zz_s45 ?zz_s46 ?zz_sB4 ?zz_sxv4 ?zz_sxl4 ?zz_sxa4 ?zz_g5 ?zz_ini5 ?zz_ovr5 ?zz_tkn5 ?zz_sa5 ?zz_ga5 ?zz_gg5 ?zz_no5 ?zz_ic5 ?zz_tc5 ?zz_kc5 ?zz_ex5 ?zz_ty5 ?zz_hd5 ?zz_is5 ?zz_cc5 ?zz_mo5 ?zz_lc5 ?zz_co5 ?zz_s50 ?zz_s51 ?zz_s52 ?zz_s53 ?zz_s54 ?zz_s55 ?zz_s56 ?zz_sB5 ?zz_sxv5 ?zz_sxl5 ?zz_sxa5 ?zz_g6 ?zz_ini6 ?zz_ovr6 ?zz_tkn6 ?zz_sa6 ?zz_ga6 ?zz_gg6 ?zz_no6 ?zz_ic6 ?zz_tc6 ?zz_kc6 ?zz_ex6 ?zz_ty6 ?zz_hd6 ?zz_is6 ?zz_cc6 ?zz_mo6 ?zz_lc6 ?zz_co6 ?zz_s60 ?zz_s61 ?zz_s62 ?zz_s63 ?zz_s64 ?zz_s65 ?zz_s66 ?zz_sB6 ?zz_sxv6 ?zz_sxl6 ?zz_sxa6 ?zz_gB ?zz_exB ?zz_tyB ?zz_hdB ?zz_spG ?zz_tkG ?zz_aFlow ?zz_lFlow ?zz_cFlow ?zz_kFlow ?zz_aLoad ?zz_lLoad ?zz_cLoad ?zz_kLoad ?zz_aDraw ?zz_lDraw ?zz_cDraw ?zz_kDraw ?zz_aPick ?zz_lPick ?zz_cPick ?zz_kPick ?zz_aSame ?zz_lSame ?zz_cSame ?zz_kSame ?zz_aRaise ?zz_lRaise ?zz_cRaise ?zz_kRaise ?zz_aKept ?zz_lKept ?zz_cKept ?zz_kKept ?zz_aClasses ?zz_lClasses ?zz_cClasses ?zz_kClasses ?zz_aGiven ?zz_lGiven ?zz_cGiven ?zz_kGiven ?zz_aLaw ?zz_lLaw ?zz_cLaw ?zz_kLaw ?zz_z_int ?zz_z_list ?zz_z_len ?zz_z_abs ?zz_z_max ?zz_z_isinstance ?zz_z_tuple ?zz_z_all ?zz_z_range ?zz_z_str ?zz_z_bool ?zz_z_ValueError ?zz_z_LookupError ?zz_z_ArithmeticError
    (case zz_g0 => k_is)
    (case zz_g1 => k_is)
    (case zz_g2 => k_is)
    (case zz_g3 => k_is)
    (case zz_g4 => k_is)
    (case zz_g5 => k_is)
    (case zz_g6 => k_is)
    (case zz_gB => k_is)
    (case zz_ini0 => first | kx_is | k_is)
    (case zz_ovr0 => first | kx_is | k_is)
    (case zz_tkn0 => k_is)
    (case zz_sa0 => k_is)
    (case zz_ga0 => k_is)
    (case zz_gg0 => k_is)
    (case zz_no0 => k_is)
    (case zz_ic0 => k_is)
    (case zz_tc0 => k_is)
    (case zz_kc0 => k_is)
    (case zz_ex0 => k_is)
    (case zz_ty0 => k_is)
    (case zz_hd0 => k_is)
    (case zz_is0 => k_is)
    (case zz_cc0 => k_is)
    (case zz_mo0 => k_is)
    (case zz_lc0 => k_is)
    (case zz_co0 => k_is)
    (case zz_s00 => k_is)
    (case zz_s01 => k_is)
    (case zz_s02 => k_is)
    (case zz_s03 => k_is)
    (case zz_s04 => k_is)
    (case zz_s05 => k_is)
    (case zz_s06 => k_is)
    (case zz_sB0 => k_is)
    (case zz_sxv0 => k_is)
    (case zz_sxl0 => k_is)
    (case zz_sxa0 => k_is)
    (case zz_ini1 => first | kx_is | k_is)
    (case zz_ovr1 => first | kx_is | k_is)
    (case zz_tkn1 => k_is)
    (case zz_sa1 => k_is)
    (case zz_ga1 => k_is)
    (case zz_gg1 => k_is)
    (case zz_no1 => k_is)
    (case zz_ic1 => k_is)
    (case zz_tc1 => k_is)
    (case zz_kc1 => k_is)
    (case zz_ex1 => k_is)
    (case zz_ty1 => k_is)
    (case zz_hd1 => k_is)
    (case zz_is1 => k_is)
    (case zz_cc1 => k_is)
    (case zz_mo1 => k_is)
    (case zz_lc1 => k_is)
    (case zz_co1 => k_is)
    (case zz_s10 => k_is)
    (case zz_s11 => k_is)
    (case zz_s12 => k_is)
    (case zz_s13 => k_is)
    (case zz_s14 => k_is)
    (case zz_s15 => k_is)
    (case zz_s16 => k_is)
    (case zz_sB1 => k_is)
    (case zz_sxv1 => k_is)
    (case zz_sxl1 => k_is)
    (case zz_sxa1 => k_is)
    (case zz_ini2 => first | kx_is | k_is)
    (case zz_ovr2 => first | kx_is | k_is)
    (case zz_tkn2 => k_is)
    (case zz_sa2 => k_is)
    (case zz_ga2 => k_is)
    (case zz_gg2 => k_is)
    (case zz_no2 => k_is)
    (case zz_ic2 => k_is)
    (case zz_tc2 => k_is)
    (case zz_kc2 => k_is)
    (case zz_ex2 => k_is)
    (case zz_ty2 => k_is)
    (case zz_hd2 => k_is)
    (case zz_is2 => k_is)
    (case zz_cc2 => k_is)
    (case zz_mo2 => k_is)
    (case zz_lc2 => k_is)
    (case zz_co2 => k_is)
    (case zz_s20 => k_is)
    (case zz_s21 => k_is)
    (case zz_s22 => k_is)
    (case zz_s23 => k_is)
    (case zz_s24 => k_is)
    (case zz_s25 => k_is)
    (case zz_s26 => k_is)
    (case zz_sB2 => k_is)
    (case zz_sxv2 => k_is)
    (case zz_sxl2 => k_is)
    (case zz_sxa2 => k_is)
    (case zz_ini3 => first | kx_is | k_is)
    (case zz_ovr3 => first | kx_is | k_is)
    (case zz_tkn3 => k_is)
    (case zz_sa3 => k_is)
    (case zz_ga3 => k_is)
    (case zz_gg3 => k_is)
    (case zz_no3 => k_is)
    (case zz_ic3 => k_is)
    (case zz_tc3 => k_is)
    (case zz_kc3 => k_is)
    (case zz_ex3 => k_is)
    (case zz_ty3 => k_is)
    (case zz_hd3 => k_is)
    (case zz_is3 => k_is)
    (case zz_cc3 => k_is)
    (case zz_mo3 => k_is)
    (case zz_lc3 => k_is)
    (case zz_co3 => k_is)
    (case zz_s30 => k_is)
    (case zz_s31 => k_is)
    (case zz_s32 => k_is)
    (case zz_s33 => k_is)
    (case zz_s34 => k_is)
    (case zz_s35 => k_is)
    (case zz_s36 => k_is)
    (case zz_sB3 => k_is)
    (case zz_sxv3 => k_is)
    (case zz_sxl3 => k_is)
    (case zz_sxa3 => k_is)
    (case zz_ini4 => first | kx_is | k_is)
    (case zz_ovr4 => first | kx_is | k_is)
    (case zz_tkn4 => k_is)
    (case zz_sa4 => k_is)
    (case zz_ga4 => k_is)
    (case zz_gg4 => k_is)
    (case zz_no4 => k_is)
    (case zz_ic4 => k_is)
    (case zz_tc4 => k_is)
    (case zz_kc4 => k_is)
    (case zz_ex4 => k_is)
    (case zz_ty4 => k_is)
    (case zz_hd4 => k_is)
    (case zz_is4 => k_is)
    (case zz_cc4 => k_is)
    (case zz_mo4 => k_is)
    (case zz_lc4 => k_is)
    (case zz_co4 => k_is)
    (case zz_s40 => k_is)
    (case zz_s41 => k_is)
    (case zz_s42 => k_is)
    (case zz_s43 => k_is)
    (case zz_s44 => k_is)
    (case zz_s45 => k_is)
    (case zz_s46 => k_is)
    (case zz_sB4 => k_is)
    (case zz_sxv4 => k_is)
    (case zz_sxl4 => k_is)
    (case zz_sxa4 => k_is)
    (case zz_ini5 => first | kx_is | k_is)
    (case zz_ovr5 => first | kx_is | k_is)
    (case zz_tkn5 => k_is)
    (case zz_sa5 => k_is)
    (case zz_ga5 => k_is)
    (case zz_gg5 => k_is)
    (case zz_no5 => k_is)
    (case zz_ic5 => k_is)
    (case zz_tc5 => k_is)
    (case zz_kc5 => k_is)
    (case zz_ex5 => k_is)
    (case zz_ty5 => k_is)
    (case zz_hd5 => k_is)
    (case zz_is5 => k_is)
    (case zz_cc5 => k_is)
    (case zz_mo5 => k_is)
    (case zz_lc5 => k_is)
    (case zz_co5 => k_is)
    (case zz_s50 => k_is)
    (case zz_s51 => k_is)
    (case zz_s52 => k_is)
    (case zz_s53 => k_is)
    (case zz_s54 => k_is)
    (case zz_s55 => k_is)
    (case zz_s56 => k_is)
    (case zz_sB5 => k_is)
    (case zz_sxv5 => k_is)
    (case zz_sxl5 => k_is)
    (case zz_sxa5 => k_is)
    (case zz_ini6 => first | kx_is | k_is)
    (case zz_ovr6 => first | kx_is | k_is)
    (case zz_tkn6 => k_is)
    (case zz_sa6 => k_is)
    (case zz_ga6 => k_is)
    (case zz_gg6 => k_is)
    (case zz_no6 => k_is)
    (case zz_ic6 => k_is)
    (case zz_tc6 => k_is)
    (case zz_kc6 => k_is)
    (case zz_ex6 => k_is)
    (case zz_ty6 => k_is)
    (case zz_hd6 => k_is)
    (case zz_is6 => k_is)
    (case zz_cc6 => k_is)
    (case zz_mo6 => k_is)
    (case zz_lc6 => k_is)
    (case zz_co6 => k_is)
    (case zz_s60 => k_is)
    (case zz_s61 => k_is)
    (case zz_s62 => k_is)
    (case zz_s63 => k_is)
    (case zz_s64 => k_is)
    (case zz_s65 => k_is)
    (case zz_s66 => k_is)
    (case zz_sB6 => k_is)
    (case zz_sxv6 => k_is)
    (case zz_sxl6 => k_is)
    (case zz_sxa6 => k_is)
    (case zz_exB => k_is)
    (case zz_tyB => k_is)
    (case zz_hdB => k_is)
    (case zz_spG => k_is)
    (case zz_tkG => k_is)
    (case zz_aFlow => k_is)
    (case zz_lFlow => k_is)
    (case zz_cFlow => k_is)
    (case zz_kFlow => k_is)
    (case zz_aLoad => k_is)
    (case zz_lLoad => k_is)
    (case zz_cLoad => k_is)
    (case zz_kLoad => k_is)
    (case zz_aDraw => k_is)
    (case zz_lDraw => k_is)
    (case zz_cDraw => k_is)
    (case zz_kDraw => k_is)
    (case zz_aPick => k_is)
    (case zz_lPick => k_is)
    (case zz_cPick => k_is)
    (case zz_kPick => k_is)
    (case zz_aSame => k_is)
    (case zz_lSame => k_is)
    (case zz_cSame => k_is)
    (case zz_kSame => k_is)
    (case zz_aRaise => k_is)
    (case zz_lRaise => k_is)
    (case zz_cRaise => k_is)
    (case zz_kRaise => k_is)
    (case zz_aKept => k_is)
    (case zz_lKept => k_is)
    (case zz_cKept => k_is)
    (case zz_kKept => k_is)
    (case zz_aClasses => k_is)
    (case zz_lClasses => k_is)
    (case zz_cClasses => k_is)
    (case zz_kClasses => k_is)
    (case zz_aGiven => k_is)
    (case zz_lGiven => k_is)
    (case zz_cGiven => k_is)
    (case zz_kGiven => k_is)
    (case zz_aLaw => k_is)
    (case zz_lLaw => k_is)
    (case zz_cLaw => k_is)
    (case zz_kLaw => k_is)
    (case zz_z_int => k_is)
    (case zz_z_list => k_is)
    (case zz_z_len => k_is)
    (case zz_z_abs => k_is)
    (case zz_z_max => k_is)
    (case zz_z_isinstance => k_is)
    (case zz_z_tuple => k_is)
    (case zz_z_all => k_is)
    (case zz_z_range => k_is)
    (case zz_z_str => k_is)
    (case zz_z_bool => k_is)
    (case zz_z_ValueError => k_is)
    (case zz_z_LookupError => k_is)
    (case zz_z_ArithmeticError => k_is)
#print axioms PySem.Challenge.cw_sayfill_k00_errors_holds

