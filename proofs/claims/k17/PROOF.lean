import PyProof.Rows.All
import Wide.All
import OpenK.AllK
import Wide.FinOn
import HandS.Base
import HandS.Call
import HandS.List
import HandS.Ends
import HandS.Words
import PyProof.ReprRoads
import KE.KExcInit
import KE.KExcIs
import HandS.Exc
import HandS.ExcInit
import KE.KFromBytes
import HandS.IsInst
import HandS.TryOnly
import HandS.WordsExc
import KE.GoesEnum
import KE.GoesMore
import HandS.Comp
import HandS.Iter
import HandS.Walk
import HandS.TupMul
import HandS.WordsList
import HandS.ClsMeth
import KE.KTryMore
import HandS.EndTab
import HandS.OwnEq
import HandS.ExcField
import PyProof.StrLawsChain
import PyProof.StrLawsTight
import HandS.Text
import KE.KExcLine
import KE.RegKIsAll
import HandS.Style
import HandS.TupAny
import HandS.DeepEq
import HandS.Lambda
import HandS.MakeKwOnly
import PySem.Challenge.RW_lightsout_k17_plans_and_their_texts
set_option Elab.async false
set_option linter.all false
set_option maxRecDepth 100000
set_option maxHeartbeats 8000000
/-! The law's own def, run from the law's caller alone: what its body knows more is that no repr runs around it. -/
namespace Cal
open PySem PySem.Spec PyProof.Rows L2

/-- what the law's call wants -/
abbrev Won (P : Program) (w : World) (s : Shared) (fa a : Addr) : Prop :=
  codeAny (model P w) callerA (.call (.ref fa) ⟨[.ref a], []⟩)
    (fun r s' => r = .ok (.ret (.bool true)) ∧ OldK s.heap s'.heap ∧ s'.os = s.os ∧ AllBare s'.gens) s

theorem won {P : Program} {w : World} {K : PySem.W.Frag} {mg mb : Str → Option Value} {fa a : Addr} {s : Shared} {vs : List Value} {ns : List Int}
    (kIn : K.In s.heap) (glo : s.heap.Ns mainGlobals mg) (bns : s.heap.Ns builtinsNs mb) (bbo : ∀ x : Str, x ≠ "__name__" → mb x = bootBuiltins x)
    (lim : s.heap.NoLimit) (gen : s.gens = #[]) (obj : s.heap.get? a = some { cls := .type "list", data := .seq vs.toArray })
    (its : IntsAre vs ns) (few : ns.length ≤ sizeLine)
    (run : ∀ (base : Heap) (H : Hp), K.In base → base.Ns mainGlobals mg → Env0 P w K mg base callerA [] s H → Only H → SqL K H a (ns.map V.int) →
      codeAny (model P w) callerA (.call (.ref fa) ⟨[.ref a], []⟩) (CR CX0 [] P w H s (fun v _ => v = .bl true) E0) s) :
    Won P w s fa a := by
  have vals := vals_ints its
  have size := its.length
  suffices main : ∀ H : Hp, Only H → SqL K H a (ns.map V.int) → HOk P w H s.heap → (∀ b, H b ≠ none → b = a ∧ K.lookup a = none) → Won P w s fa a by
    cases look : K.lookup a with
    | some o =>
      have o2 := kIn a o look
      rw [obj] at o2
      obtain rfl := Option.some.inj o2
      refine main (fun _ => none) (fun _ => Or.inl rfl) (Or.inr ⟨_, vs.toArray, _, look, rfl, rfl, rfl, ?_, ?_⟩) (fun b u z => nomatch z) (fun b z => (z rfl).elim)
      · simpa [size] using few
      · simpa using vals
    | none =>
      let H : Hp := fun b => if b = a then some (.frz { cls := .type "list", data := .seq vs.toArray } (.lst (ns.map V.int))) else none
      have at_a : H a = some (.frz { cls := .type "list", data := .seq vs.toArray } (.lst (ns.map V.int))) := if_pos rfl
      have off : ∀ {b}, b ≠ a → H b = none := fun z => if_neg z
      refine main H (fun b => ?_) (Or.inl (Or.inr ⟨_, at_a⟩)) (fun b u z => ?_) (fun b z => ?_)
      · by_cases e : b = a
        · subst e
          exact Or.inr ⟨_, _, at_a⟩
        · exact Or.inl (off e)
      · by_cases e : b = a
        · subst e
          rw [at_a] at z
          obtain rfl := Option.some.inj z
          exact ⟨obj, by simpa using few, vs, _, vals, obj⟩
        · rw [off e] at z
          cases z
      · by_cases e : b = a
        · exact ⟨e, look⟩
        · exact (z (off e)).elim
  intro H only sq ok here
  have free : ∀ {b : Addr} {o : Obj}, s.heap.get? b = some o → o.data ≠ .seq vs.toArray → H b = none := fun {b o} e d => by
    rcases only b with z | ⟨_, _, z⟩
    · exact z
    · obtain ⟨rfl, _⟩ := here b (by rw [z]; simp)
      rw [obj] at e
      obtain rfl := Option.some.inj e
      exact (d rfl).elim
  have space : ∀ {b : Addr} {m : Str → Option Value}, s.heap.Ns b m → (hidT s.heap H).Ns b m := fun {b m} ⟨o, es, ep, e, d, r⟩ =>
    ⟨o, es, ep, hidT_get e (free e (by rw [d]; intro z; cases z)), d, r⟩
  have kIn2 : K.In (hidT s.heap H) := fun b o e => hidT_get (kIn b o e) (by
    rcases only b with z | ⟨_, _, z⟩
    · exact z
    · obtain ⟨rfl, n⟩ := here b (by rw [z]; simp)
      rw [n] at e
      cases e)
  obtain ⟨mc, l1, l2⟩ := lim
  have env : Env0 P w K mg (hidT s.heap H) callerA [] s H := {
    frames := rfl
    mod := ⟨kIn2, space glo, ⟨mb, space bns, bbo⟩, ⟨mc, space l1, l2⟩⟩
    bs := fun b o e => of_hidT e
    bsz := Nat.le_of_eq (hidT_size _ _)
    funs := trivial
    frf := fun b hb => by simp [frs] at hb
    hok := ok
    bare := .of_eq gen }
  refine codeAny_mono (run _ H kIn2 (space glo) env only sq) fun r s' z => ?_
  match r, z with
  | .error e, z => exact z.elim
  | .ok .next, z => exact z.elim
  | .ok .brk, z => exact z.elim
  | .ok .cont, z => exact z.elim
  | .ok (.ret u), ⟨v, H', os, bare, un, ok', rv, q⟩ =>
    subst q
    obtain rfl : u = Value.bool true := rv
    refine ⟨rfl, OldK.of_keep fun b o e => ?_, os, bare⟩
    rcases only b with z | ⟨ob, xs, z⟩
    · exact un.keep b o e z (by simp [frs]) (by simp)
    · have y1 := (ok b _ z).1
      have y2 := (ok' b _ (un.frzs b ob _ z)).1
      rw [e] at y1
      obtain rfl := Option.some.inj y1
      exact y2

/-- the goal that k_head leaves, from the law's body run at its caller -/
theorem walk {l : PySem.W.OpenLaw} {n : Nat} {q : Program} {loose : List Str} {XP : (Str → Option Value) → Heap → Prop} {YP : World → Heap → Prop} {d : DefRec} {K : Params → PySem.W.Frag}
    (most : l.most = some n) (few : n ≤ sizeLine) (dfl : d.params.defaults = []) (hY : ∀ (w : World) (h : Heap), YP w h → (K w.params).In h)
    (run : ∀ (w : World) (mg : Str → Option Value) (fa : Addr) (h : Heap), (K w.params).In h → h.Ns mainGlobals mg → mg d.name = some (.ref fa) →
      ∀ (s : Shared) (a : Addr) (ns : List Int) (base : Heap) (H : Hp), ns.length ≤ n → (K w.params).In base → base.Ns mainGlobals mg → Env0 l.prog w (K w.params) mg base callerA [] s H → Only H → SqL (K w.params) H a (ns.map V.int) →
        codeAny (model l.prog w) callerA (.call (.ref fa) ⟨[.ref a], []⟩) (CR CX0 [] l.prog w H s (fun v _ => v = .bl true) E0) s) :
    PySem.W.WalkO q loose XP YP l.row.toRowW d [] (fun f vs => PySem.call f vs) := by
  refine Att.attach_call most dfl fun w s₀ s₁ mg mb fa o pm cd doc a vs ns G Y ho hd hcd hmg hobj hints hlen hg => ?_
  have KX := hY w _ Y
  exact won KX G.T.g G.T.b G.T.builtins G.T.nolimit hg hobj hints (Nat.le_trans hlen few) fun base H b1 b2 e0 only sq => run w mg fa _ KX G.T.g hmg s₁ a ns base H hlen b1 b2 e0 only sq

/-- the law's def, by its body: what a body of Fun.ok is, with the caller told -/
theorem law_run {P : Program} {w : World} {K : PySem.W.Frag} {mg : Str → Option Value} {base : Heap} {x qual : Str} {st : Stmt} {f : Addr} {fd : FuncData} {N ps : List Str} {s : Shared} {H : Hp} {us : List Value} {vs : List V} {Q : VK}
    (F : Fun K x qual st f fd) (S : FnScope N ps (defScope st)) (e0 : Env0 P w K mg base callerA [] s H) (bind : Binds K fd ps []) (r : Vals vs us) (hl : vs.length = ps.length)
    (body : ∀ cdv : Value, ∃ t, PSs (cxOf CX0 P w K mg base N qual (defScope st) f cdv callerA [] s H E0).nox (defBody st) t ∧ t { nx := fun _ H' => Q .non H', rt := Q } (start N vs) H) :
    codeAny (model P w) callerA (.call (.ref f) ⟨us, []⟩) (CR CX0 [] P w H s Q E0) s := by
  obtain ⟨oc, od, kV, doc, pm, an, cdv, ct, osl, rfl, lk, hcd⟩ := F.ex
  obtain ⟨t, ht, hq⟩ := body cdv
  have keep : ∀ b o, base.get? b = some o → s.heap.get? b = some o := fun b o e => (e0.bs b o e).1
  have kIn := e0.mod.kin.keeps keep
  have ul : us.length = ps.length := by rw [← r.length]; exact hl
  have hb := bind s us kIn (by simpa using ul)
  rw [List.append_nil] at hb
  refine codeAny_call_function (by decide) (kIn _ _ lk) rfl S.co S.gen rfl (PySem.W.codeRec_of kIn hcd) (hb _ _ _ _ ?_)
  refine wpAny_newFunctionEnv_cells S.kind (fun ⟨y, v⟩ hy => ?_) fun env he s1 z => ?_
  · have := S.par y (List.of_mem_zip hy).1
    rcases this with q | q
    · exact Or.inl q
    · exact Or.inr ⟨q, PySem.W.cellsFrom_some _ _ _ (Or.inl q)⟩
  · subst he
    refine ⟨(e0.mod.nolimit.keeps keep).keeps z.toInCall.keep, codeAny_func ?_⟩
    have I : Inv (cxOf CX0 P w K mg base N qual (defScope st) f cdv callerA [] s H E0) [] (start N vs) H s1 := inv_start S rfl e0 hl r z
    refine wpAny_mono (ht.nox.run [] s1 _ H _ I hq) (fun fl s' y => ?_) fun _ _ y => y
    match fl, y with
    | .ret u, ⟨v, σ', H', J, rv, q⟩ => exact ⟨v, H', J.os, J.bare, J.base, J.hok, rv, q⟩
    | .next, ⟨σ', H', J, q⟩ => exact ⟨.non, H', J.os, J.bare, J.base, J.hok, rfl, q⟩
    | .brk, ⟨_, _, _, q⟩ => exact q.elim
    | .cont, ⟨_, _, _, q⟩ => exact q.elim

/-- no repr runs around the law's own body -/
theorem calm_guards {P : Program} {w : World} {K : PySem.W.Frag} {mg : Str → Option Value} {base : Heap} {N : List Str} {qual : Str} {sc : Scope} {f : Addr} {cdv : Value} {s : Shared} {H : Hp} :
    (cxOf CX0 P w K mg base N qual sc f cdv callerA [] s H E0).nox.A.guards = some [] := rfl

/-! ### repr of data -/
section
variable {X : Cx}
def rRepr (K : PySem.W.Frag) : List V → Hp → VK → Prop := fun xs H Q =>
  ∃ (x : V) (d : PyData), xs = [x] ∧ Dp K H x d ∧ d.showable = true ∧ d.hasDict = false ∧ d.depth ≤ 20 ∧ d.shown.length ≤ sizeLine ∧ Q (.str d.shown) H
theorem call_repr (gu : X.A.guards = some []) (un : X.A.units + 64 < cLine) : CallR X (.builtin "repr") (rRepr X.K) := by
  intro pins s σ H xs us Q I r h
  obtain ⟨x, d, rfl, dp, sh, nd, de, sz, q⟩ := h
  obtain ⟨u, rfl, r1⟩ := vals1 r
  obtain ⟨as, rd⟩ := Dp.reads I d x u dp r1
  have fin : ∀ (h' : Heap) (v : Tok) (tk : Nat), (∀ b o, s.heap.get? b = some o → h'.get? b = some o) → EP X pins σ Q (.str d.shown v) { s with heap := h', toks := tk } :=
    fun h' v tk k => ⟨.str d.shown, H, I.kept k, ⟨v, rfl⟩, q⟩
  cases dp with
  | non =>
    cases r1
    exact PySem.P.repr_of_none (fin s.heap _ _ fun _ _ e => e)
  | bl b =>
    cases r1
    exact PySem.P.repr_of_bool (fin s.heap _ _ fun _ _ e => e)
  | int i =>
    obtain ⟨t, rfl⟩ := r1
    refine PySem.P.repr_of_int (by simpa [PyData.showable] using sh) ?_
    have := fin s.heap s.toks (s.toks + 1) fun _ _ e => e
    simpa only [PyData.shown] using this
  | str y =>
    obtain ⟨t, rfl⟩ := r1
    have := fin s.heap s.toks (s.toks + 1) fun _ _ e => e
    simp only [PyData.shown] at this sz
    exact PySem.P.repr_of_str this sz
  | lst hs ha =>
    cases r1
    exact repr_of_reads' rd sh (fun z => by rw [nd] at z; cases z) gu (by omega) (fun _ _ e => e) fin sz
  | tup hs ha =>
    cases r1
    exact repr_of_reads' rd sh (fun z => by rw [nd] at z; cases z) gu (by omega) (fun _ _ e => e) fin sz
end
end Cal

/-! An own exception of any built-in base made by a call with positional values and keywords: __new__ lays it, its own __init__ runs. -/
namespace Exn
open PySem PySem.Calls PyProof.Rows PySem.Spec
/-- what the classes above an own exception class must be: the one that makes it, no AttributeError, no NameError -/
structure Tail (bm : List Value) (B : String) : Prop where
  has : bm.contains (.type B) = true
  noA : bm.contains (.type "AttributeError") = false
  noN : bm.contains (.type "NameError") = false
section
variable {M : Model} {A : Around} {E : Value → Shared → Prop} {h : Heap} {g : Array GenState} {d : Drawn} {t : Nat} {os : OsState}
variable {nm q : Str} {C N : Addr} {bs bm bmB : List Value} {hd : Bool} {sn : List Str} {sub : List Value} {ab : Bool} {col : Option Bool} {dd : Option Addr}
  {k0 k1 k2 k3 k5 : Option Value} {B newId initId : String} {prog : Program} {w : World} {R : Result → Shared → Prop}

theorem chk_new (F : ExcBaseFacts B newId initId bmB) (tail : Tail bm B) {us : List Value} {kw : List (Str × Value)} {Q : Unit → Shared → Prop}
    (at_C : h.get? C = some (excClassObj nm q C N bs bm hd sn sub ab col dd k0 k1 k2 k3 k5 newId)) (k : Q () ⟨h, g, d, t, os⟩) :
    wpAny M A (checkBuiltinCall newId ⟨.ref C :: us, kw⟩) Q E ⟨h, g, d, t, os⟩ := by
  have has : (Value.ref C :: bm).contains (.type B) = true := by
    rw [List.contains_cons, tail.has]
    exact Bool.or_true _
  have star := F.noStar
  simp only [F.newRow, F.newSplit, F.newKind, checkBuiltinCall]
  repeat (first
    | refine wpAny_loadPart_at at_C ?_
    | (refine wpAny_isSubtype_exc at_C ?_; rw [has])
    | refine wpAny_staticBase_exc at_C ?_
    | refine wpAny_madeBy_exc at_C ?_
    | simp only [Bool.false_eq_true, bne_self_eq_false, if_false]
    | wp_step)
  exact k

theorem new_kw (F : ExcBaseFacts B newId initId bmB) (tail : Tail bm B) {us : List Value} {kw : List (Str × Value)}
    (at_C : h.get? C = some (excClassObj nm q C N bs bm hd sn sub ab col dd k0 k1 k2 k3 k5 newId)) (few : us.length ≤ sizeLine)
    (k : R (.ok (.ret (.ref (h.objs.size + 1)))) ⟨(h.push (PySem.W.kdv_tup us)).push (PySem.HandSPX.excO C h.objs.size), g, d, t, os⟩) :
    codeAny (model prog w) A (.builtin newId ⟨.ref C :: us, kw⟩) R ⟨h, g, d, t, os⟩ := by
  have e0 := F.ends
  have inB : (Value.ref C :: bm).contains (.type B) = true := by
    rw [List.contains_cons, tail.has]
    exact Bool.or_true _
  have noA : (Value.ref C :: bm).contains (.type "AttributeError") = false := by
    rw [List.contains_cons, tail.noA]
    rfl
  have noN : (Value.ref C :: bm).contains (.type "NameError") = false := by
    rw [List.contains_cons, tail.noN]
    rfl
  refine codeAny_builtinAt F.entry ?_
  unfold Builtin.«BaseException.__new__»
  refine PySem.wpAt_bind ?_
  show PySem.wpAt _ _ _ (stack >>= _) _ _ _
  refine PySem.wpAt_bind (PySem.wpAt_stack fun p below => PySem.wpAt_of_wpAny ?_)
  wp_walk
  refine PySem.wpAt_of_wpAny ?_
  rw [F.owner]
  repeat (first
    | with_reducible refine wpAny_madeHere_exc F.canon at_C ?_
    | with_reducible refine wpAny_loadPart_at at_C ?_
    | (with_reducible refine wpAny_isSubtype_exc at_C ?_; first | rw [inB] | rw [noA] | rw [noN])
    | wp_step)
  show R _ _
  rw [Heap.size_push]
  exact k

/-- C(us, kw): the exception is laid, then its own __init__ runs -/
theorem type_call_kw (F : ExcBaseFacts B newId initId bmB) (tail : Tail bm B) {us : List Value} {kw : List (Str × Value)} {fI : Addr} {Q : Fin → Shared → Prop}
    (at_C : h.get? C = some (excClassObj nm q C N bs bm hd sn sub ab col dd k0 k1 k2 k3 k5 newId)) (few : us.length ≤ sizeLine)
    (init : W.Looks (model prog w) h (typeLookup (.ref C) "__init__") (some (.ref fI))) (bind : ∀ self, W.Looks (model prog w) h (bindSpecial (.ref fI) self) (.ref fI, [self]))
    (k : codeAny (model prog w) A (.call (.ref fI) ⟨.ref (h.objs.size + 1) :: us, kw⟩)
      (fun r s' => match r with | .ok (.ret v) => v = .none ∧ Q (.done (.ret (.ref (h.objs.size + 1)))) s' | .ok _ => False | .error e => E e s')
      ⟨(h.push (W.kdv_tup us)).push (HandSPX.excO C h.objs.size), g, d, t, os⟩) :
    wpAny (model prog w) A (Builtin.«type.__call__» ⟨.ref C :: us, kw⟩) Q E ⟨h, g, d, t, os⟩ := by
  have kept : ∀ b o, h.get? b = some o → ((h.push (W.kdv_tup us)).push (HandSPX.excO C h.objs.size)).get? b = some o :=
    fun b o e => Heap.get?_push_of_some _ (Heap.get?_push_of_some _ e)
  have made : ((h.push (W.kdv_tup us)).push (HandSPX.excO C h.objs.size)).get? (h.objs.size + 1) = some (HandSPX.excO C h.objs.size) := by
    heap_get
  have at_C2 := kept _ _ at_C
  have own : (Value.ref C :: bm).contains (.ref C) = true := by simp
  have init2 := init.keeps kept
  have bind2 := (bind (.ref (h.objs.size + 1))).keeps kept
  repeat (first
    | with_reducible refine wpAny_loadPart_at at_C ?_
    | with_reducible refine wpAny_madeBy_exc at_C ?_
    | wp_step)
  refine codeAny_call_builtin_code (Code.quiet_builtin _ F.quiet) (chk_new F tail at_C (new_kw F tail at_C few ?_))
  show wpAny _ _ _ _ _ _
  unfold isInstance
  repeat (first
    | with_reducible refine wpAny_loadPart_at made ?_
    | (with_reducible refine wpAny_isSubtype_exc at_C2 ?_; rw [own])
    | wp_step)
  show wpAny _ _ (typeLookup (.ref C) _) _ _ _
  refine init2.at (wpAny_holding (wpAny_bind (bind2.at ?_)))
  refine wpAny_bind (wpAny_call (codeAny_mono k fun r s' z => ?_))
  match r, z with
  | .error e, z => exact z
  | .ok .next, z => exact z.elim
  | .ok .brk, z => exact z.elim
  | .ok .cont, z => exact z.elim
  | .ok (.ret v), ⟨e, z⟩ =>
    subst e
    first
      | exact wpAny_pure (wpAny_pure z)
      | (wp_walk; exact z)

theorem call_kw (F : ExcBaseFacts B newId initId bmB) (tail : Tail bm B) {us : List Value} {kw : List (Str × Value)} {fI : Addr}
    (at_C : h.get? C = some (excClassObj nm q C N bs bm hd sn sub ab col dd k0 k1 k2 k3 k5 newId)) (few : us.length ≤ sizeLine)
    (init : W.Looks (model prog w) h (typeLookup (.ref C) "__init__") (some (.ref fI))) (bind : ∀ self, W.Looks (model prog w) h (bindSpecial (.ref fI) self) (.ref fI, [self]))
    (k : codeAny (model prog w) (A.under (.builtin "type.__call__" ⟨.ref C :: us, kw⟩)) (.call (.ref fI) ⟨.ref (h.objs.size + 1) :: us, kw⟩) (W.InitBack (h.objs.size + 1) R)
      ⟨(h.push (W.kdv_tup us)).push (HandSPX.excO C h.objs.size), g, d, t, os⟩) :
    codeAny (model prog w) A (.call (.ref C) ⟨us, kw⟩) R ⟨h, g, d, t, os⟩ := by
  have l1 := tc_lookup
  have l2 := tc_bind (.ref C)
  have ty : (⟨h, g, d, t, os⟩ : Shared).TypeIs (.ref C) "type" := ⟨_, at_C, rfl⟩
  refine codeAny_of_tree ?_
  show wpAny _ _ (callAny (.ref C) _) _ _ _
  repeat (any_goals (first | assumption | with_reducible refine wpAny_loadPart_at at_C ?_ | wp_step))
  refine ⟨rfl, codeAny_call_builtin_at (Code.quiet_builtin _ (by decide +kernel)) entry_typeCall ?_⟩
  have chk : ∀ {Q : Unit → Shared → Prop} {A' : Around} {E' : Value → Shared → Prop}, Q () ⟨h, g, d, t, os⟩ → wpAny (model prog w) A' (checkBuiltinCall "type.__call__" ⟨.ref C :: us, kw⟩) Q E' ⟨h, g, d, t, os⟩ := by
    intro Q A' E' hq
    have l3 := tc_sub
    simp only [tc_split, tc_kind, checkBuiltinCall]
    repeat (any_goals (first | assumption | with_reducible refine wpAny_loadPart_at at_C ?_ | with_reducible refine wpAny_onRaise ?_ | with_reducible refine wpAny_map ?_ | wp_step))
  refine chk (type_call_kw F tail at_C few init bind (codeAny_mono k fun r s' z => ?_))
  match r, z with
  | .error e, z => exact z
  | .ok .next, z => exact z.elim
  | .ok .brk, z => exact z.elim
  | .ok .cont, z => exact z.elim
  | .ok (.ret v), z => exact z
end
end Exn

namespace Exn
open PySem PySem.Spec PyProof.Rows L2

/-- what the written part says of an own exception class over a built-in one, whose mro is bmB; B: the built-in one whose __new__ makes it -/
structure Ecl (K : W.Frag) (C : Addr) (B newId initId : String) (bmB : List Value) : Prop where
  base : ∃ bm, ExcBaseFacts B newId initId bm
  tail : Tail bmB B
  store : ∃ B', StoreFacts B' bmB "object.__setattr__" "object"
  made : W.excInitIn K C bmB newId = true
  over : W.excOver K C bmB = true
  sa : W.findIn K (.ref C) "__setattr__" = some (some (.builtin "object.__setattr__"))
  ga : W.findIn K (.ref C) "__getattribute__" = some (some (.builtin "BaseException.__getattribute__"))
  gt : W.findIn K (.ref C) "__getattr__" = some none
  hd : W.hasDictIn K C = true
  sub : W.subIn K (.ref C) (.type "BaseException") = some true
  ca : W.findIn K (.ref C) "__class__" = some (some (.builtin "object.__class__"))
  mo : W.mroIn K C (.type "object") = some true
  kp : W.keepIn K (.ref C) = true

theorem Tail.of {bm bmB : List Value} {B : String} (t : Tail bmB B) (e : ∀ Y : String, bm.contains (.type Y) = bmB.contains (.type Y)) : Tail bm B := ⟨by rw [e]; exact t.has, by rw [e]; exact t.noA, by rw [e]; exact t.noN⟩
section
variable {prog : Program} {w : World} {A : Around} {E : Value → Shared → Prop} {R : Result → Shared → Prop} {hp : Heap} {g : Array GenState} {d : Drawn} {t : Nat} {os : OsState}
variable {K : W.Frag} {C : Addr} {B newId initId : String} {bmB : List Value}
theorem store_first {x t0 : Addr} {f : Str} {tk : Tok} {v : Value} (T : Ecl K C B newId initId bmB) (X : K.In hp) (at_x : hp.get? x = some (W.excObj C t0 none .none)) (no : W.findIn K (.ref C) f = some none)
    (k : ∀ h' tk' dx, (∀ b o, b ≠ x → hp.get? b = some o → h'.get? b = some o) → hp.objs.size ≤ dx → dx ≠ x → h'.get? x = some (W.excObj C t0 (some dx) .none) → h'.Ns1 dx (fun y => if y = f then some v else none) →
      R (.ok (.ret .none)) ⟨h', g, d, tk', os⟩) :
    codeAny (model prog w) A (.call (.builtin "object.__setattr__") ⟨[.ref x, .str f tk, v], []⟩) R ⟨hp, g, d, t, os⟩ := by
  obtain ⟨cd, hc, hdict⟩ := W.any_some T.hd
  obtain ⟨B', SF⟩ := T.store
  have ne : x ≠ hp.objs.size := Nat.ne_of_lt (Heap.lt_size at_x)
  have I : W.InstAt hp x (W.excObj C t0 none .none) C none := ⟨at_x, rfl, rfl, trivial⟩
  refine W.osa_openX (s := ⟨hp, g, d, t, os⟩) SF X I T.over (NoAttr.taker no) fun b => ?_
  refine wpAny_bind (wpAny_pure (wpAny_bind (W.instanceDict_exc at_x (W.looks_clsIn X hc) hdict ?_)))
  show wpAny _ _ (Builtin.ObjectAttr.storeInDict hp.objs.size (.str f tk) f v) _ _ _
  refine HandSPX.store_in_new ?_ fun h' tk' ns same => ?_
  · refine ⟨_, #[], 0, (Heap.get?_update_ne _ _ _ _ (Ne.symm ne)).trans (Heap.get?_push_at rfl rfl), rfl, fun e he => ?_, fun _ => rfl⟩
    simp at he
  · have px : (hp.push (W.dictOf [] 0)).get? x = some (W.excObj C t0 none .none) := Heap.get?_push_of_some _ at_x
    refine k h' tk' hp.objs.size (fun b o hb ho => ?_) (Nat.le_refl _) (Ne.symm ne) ?_ ns
    · have hb2 : b ≠ hp.objs.size := Nat.ne_of_lt (Heap.lt_size ho)
      rw [same.2 b hb2, Heap.get?_update_ne _ _ _ _ hb]
      exact Heap.get?_push_of_some _ ho
    · rw [same.2 x ne]
      exact Heap.get?_update_self _ px rfl
end

section
variable {X : Cx} {pins : List (Addr × Obj)} {σ : L2.St} {H : Hp} {s : Shared} {A : Around} {E : Value → Shared → Prop}
variable {C : Addr} {B newId initId : String} {bmB : List Value}
/-- self.f = y in an own __init__ -/
theorem keep_one {a : Addr} {f : Str} {y : V} {u : Value} {Q : Unit → Shared → Prop} (T : Ecl X.K C B newId initId bmB) (I : Inv X pins σ H s) (e : H a = some (exo a C none)) (no : W.findIn X.K (.ref C) f = some none) (ry : RelV y u)
    (k : ∀ dx s', H dx = none → dx ≠ a → Inv X pins σ (upd (upd H dx (exd dx [(f, y)])) a (exo a C (some dx))) s' → Q () s') :
    wpAny (model X.prog X.w) A (setAttr (.ref a) f u) Q E s := by
  obtain ⟨t0, at_a⟩ := exo_at I.hok e
  obtain ⟨hp, g, d, t, os⟩ := s
  refine W.set_plain I.kIn (ox := W.excObj C t0 none .none) (od := none) ⟨at_a, rfl, rfl, trivial⟩ T.sa ?_
  refine store_first T I.kIn at_a no fun h' tk' dx keep big ne at_x ns => ?_
  have free : H dx = none := I.hok.fresh big
  have old : ∀ {b : Addr} {o : Obj}, hp.get? b = some o → b ≠ dx := fun {b o} z =>
    Nat.ne_of_lt (Nat.lt_of_lt_of_le (Heap.lt_size z) big)
  have off : ∀ {b : Addr}, H b = none → b ≠ a := fun {b} z y => by
    subst y
    rw [e] at z
    cases z
  have at_d : ∀ {b : Addr} {o : HO}, H b = some o → b ≠ dx := fun {b o} z y => by
    subst y
    rw [free] at z
    cases z
  have un : Un X.fs [] H (upd (upd H dx (exd dx [(f, y)])) a (exo a C (some dx))) hp h' := by
    constructor
    · exact fun b o z n _ _ => keep b o (off n) z
    · exact fun b o z n _ _ => ⟨o.slots, keep b o (off n) z⟩
    · intro b o z n _
      rw [upd_ne (off n), upd_ne (old z)]
      exact n
    · intro b o z _
      by_cases q : b = a
      · exact ⟨_, q ▸ at_x⟩
      · exact ⟨o, keep b o q z⟩
    · intro b xs z
      rw [upd_ne (at_ne e z exo_tup), upd_ne (at_d z)]
      exact z
    · intro b o v z
      rw [upd_ne (at_ne e z exo_frz), upd_ne (at_d z)]
      exact z
    · intro b ps z
      refine ⟨#[], ?_⟩
      rw [upd_ne (at_ne e z exo_tbl), upd_ne (at_d z), z]
      simp
  refine k dx _ free ne (I.un (t' := tk') un fun b o z => ?_)
  by_cases q : b = a
  · subst q
    rw [upd_same] at z
    obtain rfl := Option.some.inj z
    exact exo_ok at_x
  · rw [upd_ne q] at z
    by_cases q2 : b = dx
    · subst q2
      rw [upd_same] at z
      obtain rfl := Option.some.inj z
      exact exd_ok ns (relO_put (fs := []) ry fun _ => True.intro)
    · rw [upd_ne q2] at z
      refine (I.hok b o z).stay (fun c v hc y => keep c v ?_ y) (fun c hc => ?_) (fun c xs hc => ?_)
      · rcases hc with hc | hc
        · exact hc ▸ q
        · exact at_ne e hc exo_own
      · rw [upd_ne (at_ne e hc exo_own), upd_ne (at_d hc)]
        exact hc
      · rw [upd_ne (at_ne e hc exo_tup), upd_ne (at_d hc)]
        exact hc

theorem ps_keep {o e : Expr} {to te : TE} {f : Str} {p' pos : Pos} (T : Ecl X.K C B newId initId bmB) (no : W.findIn X.K (.ref C) f = some none) (ho : PE X o to) (he : PE X e te)
    (hs : swapsWith e (some (.Attribute o f p')) pos.line X.env = pure false := by rfl) :
    PS X (.Assign [.Attribute o f p'] e pos) (fun D σ H => te σ H fun y H1 => to σ H1 fun x H2 => ∃ a, x = .ref a ∧ H2 a = some (exo a C none) ∧
      ∀ dx, H2 dx = none → dx ≠ a → D.nx σ (upd (upd H2 dx (exd dx [(f, y)])) a (exo a C (some dx)))) := by
  refine ⟨fun pins s σ H D I h => plainObj_wpAny_Assign_Attribute ?_ hs⟩
  refine thn (he.run pins s σ H _ I h) fun v s1 ⟨y, H1, I1, r1, q1⟩ => ?_
  refine thn (ho.run pins s1 σ H1 _ I1 q1) fun u s2 ⟨x, H2, I2, r2, a, ex, ea, q⟩ => ?_
  subst ex
  obtain rfl : u = Value.ref a := r2
  exact keep_one T I2 ea no r1 fun dx s' n ne J => ⟨σ, _, J, q dx n ne⟩

/-- such an object stands at a -/
theorem inst_at {a : Addr} {dx : Addr} {fs : List (Str × V)} (I : Inv X pins σ H s) (e : H a = some (exo a C (some dx))) (ed : H dx = some (exd dx fs)) :
    ∃ ox od mA, W.InstAt s.heap a ox C (some od) ∧ s.heap.Ns1 dx mA ∧ s.heap.get? dx = some od ∧ ∀ f, RelO (fs.lookup f) (mA f) := by
  obtain ⟨t0, at_a⟩ := exo_at I.hok e
  obtain ⟨mA, ns, rel⟩ := exd_at I.hok ed
  obtain ⟨o, es, ep, ho, r⟩ := ns
  exact ⟨_, o, mA, ⟨at_a, rfl, rfl, ho⟩, ⟨o, es, ep, ho, r⟩, ho, rel⟩

/-- what an instance of an own exception class is, with a dict of its own or without -/
def Bare (C : Addr) (H : Hp) (a : Addr) : Prop := H a = some (exo a C none) ∨ ∃ dx fs, H a = some (exo a C (some dx)) ∧ H dx = some (exd dx fs)

structure ClsGet (K : W.Frag) : Prop where
  get : W.specialIn K (.builtin "object.__class__") "__get__" = some (some (.builtin "getset_descriptor.__get__"))
  takes : W.takesIn K (.builtin "object.__class__") = some true

theorem cls_some {K : W.Frag} {C : Addr} (h : W.hasDictIn K C = true) : (W.clsIn K C).isSome = true := by
  obtain ⟨cd, hc, _⟩ := W.any_some h
  rw [hc]
  rfl

/-- isinstance(e, c) of such an instance -/
theorem call_isE (T : Ecl X.K C B newId initId bmB) (G : ClsGet X.K) :
    CallR X (.builtin "isinstance") (fun xs H Q => ∃ (a : Addr) (c : V) (u : Value) (b : Bool), xs = [.ref a, c] ∧ ClsV c u ∧ Bare C H a ∧ W.kitOne X.K (.ref C) u = some b ∧ Q (.bl b) H) := by
  intro pins s σ H xs us Q I r h
  obtain ⟨a, c, u, b, rfl, k, bare, e, q⟩ := h
  obtain ⟨u1, u2, rfl, r1, r2⟩ := vals2 r
  have e2 := k.eq r2
  subst e2
  obtain rfl : u1 = Value.ref a := r1
  have fin : ∀ tk, EP X pins σ Q (.bool b) { s with toks := tk } := fun tk => ⟨.bl b, H, I.tok tk, rfl, q⟩
  rcases bare with ea | ⟨dx, fs, ea, ed⟩
  · obtain ⟨t0, at_a⟩ := exo_at I.hok ea
    exact W.kia_one (W.kitx_exc (ox := W.excObj C t0 none .none) (od := none) (cls_some T.hd) T.ga T.gt T.sub T.ca G.get G.takes T.mo) I.kIn ⟨at_a, rfl, rfl, trivial⟩ e (fun z => nomatch z) fin
  · obtain ⟨ox, od, mA, J, _⟩ := inst_at I ea ed
    exact W.kia_one (W.kitx_exc (ox := ox) (od := some od) (cls_some T.hd) T.ga T.gt T.sub T.ca G.get G.takes T.mo) I.kIn J e (fun z => nomatch z) fin

/-- e.f of such an instance -/
theorem pe_at {o : Expr} {to : TE} {f : Str} {pos : Pos} (T : Ecl X.K C B newId initId bmB) (no : W.findIn X.K (.ref C) f = some none) (ho : PE X o to) (hb : attributeBase o f X.env (eval o X.env) = eval o X.env := by rfl) :
    PE X (.Attribute o f pos) (fun σ H Q => to σ H fun x H1 => ∃ a dx fs v, x = .ref a ∧ H1 a = some (exo a C (some dx)) ∧ H1 dx = some (exd dx fs) ∧ fs.lookup f = some v ∧ Q v H1) := by
  refine ⟨fun pins s σ H Q I h => attr_of hb ?_⟩
  refine thn (ho.run pins s σ H _ I h) fun u s1 ⟨x, H1, I1, rx, a, dx, fs, v, ex, ea, ed, l, q⟩ => ?_
  subst ex
  obtain rfl : u = Value.ref a := rx
  obtain ⟨ox, od, mA, J, ns, hod, rel⟩ := inst_at I1 ea ed
  obtain ⟨od', ho', hl⟩ := lookIn_ns ns
  rw [hod] at ho'
  obtain rfl := Option.some.inj ho'
  have r2 := rel f
  rw [l] at r2
  obtain ⟨u', hu, ru⟩ := RelO.some_of (v := v) (o := mA f) r2
  refine HandSPX.exc_get I1.kIn J T.ga T.gt T.sub (W.findObj_own T.hd no rfl ?_) (handed_of ru) ⟨v, H1, I1.tok _, ru, q⟩
  rw [hl, hu]
end
end Exn

namespace Exn
open PySem PySem.Spec PyProof.Rows L2

/-- def __init__(self, f): self.f = f -/
def spKeep (C : Addr) (f : Str) : Sp := fun vs H Q _ => ∃ (a : Addr) (v : V), vs = [.ref a, v] ∧ H a = some (exo a C none) ∧
  ∀ dx, H dx = none → dx ≠ a → Q .non (upd (upd H dx (exd dx [(f, v)])) a (exo a C (some dx)))
/-- def __init__(self): pass -/
def spBare (C : Addr) : Sp := fun vs H Q _ => ∃ a : Addr, vs = [.ref a] ∧ H a = some (exo a C none) ∧ Q .non H

section
variable {P : Program} {w : World} {K : W.Frag} {mg : Str → Option Value} {base : Heap} {C : Addr} {B newId initId : String} {bmB : List Value}
theorem ok_keep {f : Str} {p1 p2 p3 p4 : Pos} {qual : Str} {st : Stmt} {fI : Addr} {fd : FuncData} (F : Fun K "__init__" qual st fI fd) (T : Ecl K C B newId initId bmB) (no : W.findIn K (.ref C) f = some none)
    (hB : defBody st = [.Assign [.Attribute (.Name "self" p1) f p2] (.Name f p3) p4]) (S : FnScope ["self", f] ["self", f] (defScope st)) (v0 : Vis (defScope st) "self") (v1 : Vis (defScope st) f)
    (n1 : (f == ("__debug__" : Str)) = false) (n2 : (f == ("__classdict__" : Str)) = false) : FnOk P w K mg base CX0 1 fI fd ["self", f] (spKeep C f) := by
  refine F.ok S (fun vs H Q E h => ?_) (fun cdv A outer s H vs Q E hr h => ?_)
  · obtain ⟨a, v, rfl, _⟩ := h
    rfl
  · obtain ⟨a, v, rfl, ea, k⟩ := h
    rw [hB]
    refine ⟨_, pss_one (ps_keep T no (pv 0 rfl v0) (pv 1 rfl v1 n1 n2)), ?_⟩
    exact ⟨v, rfl, .ref a, rfl, a, rfl, ea, fun dx n ne => k dx n ne⟩
theorem ok_bare {p4 : Pos} {qual : Str} {st : Stmt} {fI : Addr} {fd : FuncData} (F : Fun K "__init__" qual st fI fd)
    (hB : defBody st = [.Pass p4]) (S : FnScope ["self"] ["self"] (defScope st)) : FnOk P w K mg base CX0 1 fI fd ["self"] (spBare C) := by
  refine F.ok S (fun vs H Q E h => ?_) (fun cdv A outer s H vs Q E hr h => ?_)
  · obtain ⟨a, rfl, _⟩ := h
    rfl
  · obtain ⟨a, rfl, ea, k⟩ := h
    rw [hB]
    exact ⟨_, pss_one ps_pass, k⟩
end

section
variable {X : Cx} {pins : List (Addr × Obj)} {σ : L2.St} {H : Hp} {s : Shared}
variable {C fI : Addr} {B newId initId : String} {bmB : List Value} {k : Nat} {fd : FuncData} {ps : List Str} {sp : Sp}
/-- C(..) of an own exception class: the new exception is handed back -/
theorem run_exn {us ws : List Value} {vs : List V} {kw : List (Str × Value)} {Q : VK} (T : Ecl X.K C B newId initId bmB) (iC : W.findIn X.K (.ref C) "__init__" = some (some (.ref fI))) (tI : W.typeIn X.K (.ref fI) = some (.type "function"))
    (G : FnOk X.prog X.w X.K X.mg X.base CX0 k fI fd ps sp) (hr : Room (k + 1) X.A) (bd : ∀ (s : Shared) (a : Addr), BindsTo s fd ⟨.ref a :: us, kw⟩ (ps.zip (.ref a :: ws))) (r : Vals vs ws) (few : us.length ≤ sizeLine) (I : Inv X pins σ H s)
    (h : ∀ a, H a = none → sp (.ref a :: vs) (upd H a (exo a C none)) (fun v H2 => v = .non ∧ Q (.ref a) H2) E0) :
    wpAny (model X.prog X.w) X.A (call (.ref C) us kw) (EP X pins σ Q) X.xe s := by
  obtain ⟨nm, N, qn, bs, bm, hd, sn, sub, ab, col, dd, k0, k1, k2, k3, k5, at_C, tail⟩ := W.excInit_of I.kIn T.made
  obtain ⟨bm0, base⟩ := T.base
  obtain ⟨hp, g, dr, tk, os⟩ := s
  have big : hp.objs.size ≤ hp.objs.size + 1 := Nat.le_succ _
  have new := h (hp.objs.size + 1) (I.hok.fresh big)
  have kept : ∀ b o, hp.get? b = some o → ((hp.push (W.kdv_tup us)).push (HandSPX.excO C hp.objs.size)).get? b = some o :=
    fun b o e => Heap.get?_push_of_some _ (Heap.get?_push_of_some _ e)
  have made : ((hp.push (W.kdv_tup us)).push (HandSPX.excO C hp.objs.size)).get? (hp.objs.size + 1) = some (HandSPX.excO C hp.objs.size) := by
    heap_get
  have J : Inv X pins σ (upd H (hp.objs.size + 1) (exo (hp.objs.size + 1) C none)) ⟨(hp.push (W.kdv_tup us)).push (HandSPX.excO C hp.objs.size), g, dr, tk, os⟩ :=
    I.laid (t' := tk) kept big (exo_ok made)
  have r2 : Vals (V.ref (hp.objs.size + 1) :: vs) (Value.ref (hp.objs.size + 1) :: ws) := .cons rfl r
  refine wpAny_call (call_kw base (T.tail.of tail) at_C few (W.looks_findIn I.kIn iC) (fun self => W.bind_fn I.kIn self tI) ?_)
  refine codeAny_mono (G.run _ X.stack _ _ ⟨Value.ref (hp.objs.size + 1) :: us, kw⟩ _ _ _ E0 (hr.make C us kw) (J.env0.make C us kw) (bd _ _) r2 new) fun r s' z => ?_
  match r, z with
  | .error e, z => exact z.elim
  | .ok .next, z => exact z.elim
  | .ok .brk, z => exact z.elim
  | .ok .cont, z => exact z.elim
  | .ok (.ret u), z =>
    obtain ⟨v, H', J2, rv, ev, q⟩ := J.after z
    subst ev
    refine ⟨rv, ⟨V.ref (hp.objs.size + 1), H', ?_, rfl, q⟩⟩
    refine ⟨J2.ok, J2.os, J2.bare, J2.base, J2.loc, J2.cell, J2.free, J2.freeC, J2.pin, J2.hok, J2.len⟩
end
end Exn

namespace Exn
open PySem PySem.Spec PyProof.Rows L2

/-- an own exception class whose __init__ keeps one thing, by the name x of the module -/
structure Cl1 (P : Program) (w : World) (K : W.Frag) (mg : Str → Option Value) (base : Heap) (x : Str) (C : Addr) (f : Str) (B newId initId : String) (bmB : List Value) : Prop where
  T : Ecl K C B newId initId bmB
  no : W.findIn K (.ref C) f = some none
  m : mg x = some (.ref C)
  ty : W.typeIn K (.ref C) = some (.type "type")
  run : ∃ fI fd, W.findIn K (.ref C) "__init__" = some (some (.ref fI)) ∧ W.typeIn K (.ref fI) = some (.type "function") ∧ FnOk P w K mg base CX0 1 fI fd ["self", f] (spKeep C f) ∧
    (∀ (s : Shared) (a u : Value), BindsTo s fd ⟨[a, u], []⟩ [("self", a), (f, u)]) ∧ ∀ (s : Shared) (a u : Value), BindsTo s fd ⟨[a], [(f, u)]⟩ [("self", a), (f, u)]

/-- where a made exception stands -/
def made (H : Hp) (C : Addr) (f : Str) (v : V) (a dx : Addr) : Hp := upd (upd H dx (exd dx [(f, v)])) a (exo a C (some dx))
theorem made_eq {H : Hp} {C : Addr} {f : Str} {v : V} {a dx : Addr} (ne : dx ≠ a) : upd (upd (upd H a (exo a C none)) dx (exd dx [(f, v)])) a (exo a C (some dx)) = made H C f v a dx := by
  funext b
  unfold made
  by_cases h1 : b = a
  · rw [h1, upd_same, upd_same]
  · rw [upd_ne h1, upd_ne h1]
    by_cases h2 : b = dx
    · rw [h2, upd_same, upd_same]
    · rw [upd_ne h2, upd_ne h2, upd_ne h1]
/-- C(v): what is asked -/
def tExn (C : Addr) (f : Str) (te : TE) : TE := fun σ H Q => te σ H fun u H1 => ∃ v, [u] = [v] ∧ ∀ a dx, H1 a = none → H1 dx = none → dx ≠ a → Q (.ref a) (made H1 C f v a dx)

section
variable {X : Cx} {C : Addr} {x f : Str} {B newId initId : String} {bmB : List Value} {e : Expr} {te : TE} {p kp pos : Pos}
theorem sp_made {H : Hp} {v : V} {Q : VK} (q : ∀ a dx, H a = none → H dx = none → dx ≠ a → Q (.ref a) (made H C f v a dx)) (a : Addr) (na : H a = none) :
    spKeep C f [.ref a, v] (upd H a (exo a C none)) (fun u H2 => u = .non ∧ Q (.ref a) H2) E0 := by
  refine ⟨a, v, rfl, upd_same, fun dx nd ne => ⟨rfl, ?_⟩⟩
  rw [made_eq ne]
  rw [upd_ne ne] at nd
  exact q a dx na nd ne
theorem pe_exn (c : Cl1 X.prog X.w X.K X.mg X.base x C f B newId initId bmB) (hr : Room 2 X.A) (hg : Gl X x) (he : PE X e te)
    (hdb : (x == ("__debug__" : Str)) = false := by decide) (hs : starEach [e] X.env = (false, eval e X.env) :: starEach [] X.env := by rfl) :
    PE X (.Call (.Name x p) [e] [] pos) (tExn C f te) := by
  obtain ⟨fI, fd, iC, tI, G, b1, b2⟩ := c.run
  refine ⟨fun pins s σ H Q I h => ?_⟩
  refine wpAny_Call_Name_kw (ld_glob I hg c.m ?_ hdb)
  refine W.callWith_K (h₀ := X.base) I.ok.mod.kin c.T.kp (thn ((pa_cons he pa_nil hs).run pos pins s σ H (fun vs H1 => ∃ v, vs = [v] ∧ ∀ a dx, H1 a = none → H1 dx = none → dx ≠ a → Q (.ref a) (made H1 C f v a dx)) I h) fun us s1 ⟨vs, H1, I1, r, v, ev, q⟩ => ⟨I1.kIn, ?_⟩) hs (by rfl)
  subst ev
  obtain ⟨u, rfl, r1⟩ := vals1 r
  exact run_exn c.T iC tI G hr (fun s a => b1 s _ _) (.cons r1 .nil) (by show 1 ≤ sizeLine; decide) I1 fun a na => sp_made q a na
/-- C(f=e) -/
theorem pe_exnK (c : Cl1 X.prog X.w X.K X.mg X.base x C f B newId initId bmB) (hr : Room 2 X.A) (hg : Gl X x) (he : PE X e te)
    (hdb : (x == ("__debug__" : Str)) = false := by decide) (hall : (backToKw pos (keywordEach [⟨some f, e, kp⟩] X.env)).all (·.1.isSome) = true := by rfl)
    (hks : (backToKw pos (keywordEach [⟨some f, e, kp⟩] X.env)).filterMap (·.1) = [f] := by rfl)
    (hpl : ((backTo pos (starEach [] X.env)).any (·.1) || (backToKw pos (keywordEach [⟨some f, e, kp⟩] X.env)).any (·.1.isNone)) = false := by rfl) :
    PE X (.Call (.Name x p) [] [⟨some f, e, kp⟩] pos) (tExn C f te) := by
  obtain ⟨fI, fd, iC, tI, G, b1, b2⟩ := c.run
  refine ⟨fun pins s σ H Q I h => ?_⟩
  refine wpAny_Call_Name_kw (ld_glob I hg c.m ?_ hdb)
  refine W.callWith_KW0 (h₀ := X.base) I.ok.mod.kin c.T.kp hall ?_ hpl
  refine thn ((pk_cons he pk_nil).run pos pins s σ H (fun vs H1 => ∃ v, vs = [v] ∧ ∀ a dx, H1 a = none → H1 dx = none → dx ≠ a → Q (.ref a) (made H1 C f v a dx)) I h) fun us s1 ⟨vs, H1, I1, r, v, ev, q⟩ => ⟨I1.kIn, ?_⟩
  rw [hks]
  subst ev
  obtain ⟨u, rfl, r1⟩ := vals1 r
  exact run_exn (us := []) c.T iC tI G hr (fun s a => b2 s _ _) (.cons r1 .nil) (Nat.zero_le _) I1 fun a na => sp_made q a na
/-- raise C(f=e): what makes it -/
theorem pmk_exnK (c : Cl1 X.prog X.w X.K X.mg X.base x C f B newId initId bmB) (hr : Room 2 X.A) (hg : Gl X x) (he : PE X e te)
    (hdb : (x == ("__debug__" : Str)) = false := by decide) (hall : (backToKw pos (keywordEach [⟨some f, e, kp⟩] X.env)).all (·.1.isSome) = true := by rfl)
    (hks : (backToKw pos (keywordEach [⟨some f, e, kp⟩] X.env)).filterMap (·.1) = [f] := by rfl)
    (hpl : ((backTo pos (starEach [] X.env)).any (·.1) || (backToKw pos (keywordEach [⟨some f, e, kp⟩] X.env)).any (·.1.isNone)) = false := by rfl) :
    PMk X (.Call (.Name x p) [] [⟨some f, e, kp⟩] pos) (fun σ H Q => te σ H fun u H1 => ∃ v, [u] = [v] ∧ ∀ d, H1 d = none → Q (.ref C) (some d) (upd H1 d (.xd [(f, v)]))) := by
  obtain ⟨fI, fd, iC, tI, G, b1, b2⟩ := c.run
  intro pins s σ H Q I h
  refine wpAny_Call_Name_kw (ld_glob I hg c.m ?_ hdb)
  refine W.callWith_KW0 (h₀ := X.base) I.ok.mod.kin c.T.kp hall ?_ hpl
  refine thn ((pk_cons he pk_nil).run pos pins s σ H (fun vs H1 => ∃ v, vs = [v] ∧ ∀ d, H1 d = none → Q (.ref C) (some d) (upd H1 d (.xd [(f, v)]))) I h) fun us s1 ⟨vs, H1, I1, r, v, ev, q⟩ => ⟨I1.kIn, ?_⟩
  rw [hks]
  subst ev
  obtain ⟨u, rfl, r1⟩ := vals1 r
  obtain ⟨nm, N, qn, bs, bm, hd, sn, sub, ab, col, dd, k0, k1, k2, k3, k5, at_C, tail⟩ := W.excInit_of I1.kIn c.T.made
  obtain ⟨bm0, base⟩ := c.T.base
  obtain ⟨hp, g, dr, tk, os⟩ := s1
  have big : hp.objs.size ≤ hp.objs.size + 1 := Nat.le_succ _
  have na : H1 (hp.objs.size + 1) = none := I1.hok.fresh big
  have kept : ∀ b o, hp.get? b = some o → ((hp.push (W.kdv_tup [])).push (HandSPX.excO C hp.objs.size)).get? b = some o :=
    fun b o e => Heap.get?_push_of_some _ (Heap.get?_push_of_some _ e)
  have here : ((hp.push (W.kdv_tup [])).push (HandSPX.excO C hp.objs.size)).get? (hp.objs.size + 1) = some (HandSPX.excO C hp.objs.size) := by
    heap_get
  have J : Inv X pins σ (upd H1 (hp.objs.size + 1) (exo (hp.objs.size + 1) C none)) ⟨(hp.push (W.kdv_tup [])).push (HandSPX.excO C hp.objs.size), g, dr, tk, os⟩ :=
    I1.laid (t' := tk) kept big (exo_ok here)
  have new : spKeep C f [.ref (hp.objs.size + 1), v] (upd H1 (hp.objs.size + 1) (exo (hp.objs.size + 1) C none))
      (fun y H2 => y = .non ∧ ∃ d, H2 = made H1 C f v (hp.objs.size + 1) d ∧ H1 d = none ∧ d ≠ hp.objs.size + 1) E0 := by
    refine ⟨_, v, rfl, upd_same, fun dx nd ne => ⟨rfl, dx, made_eq ne, ?_, ne⟩⟩
    rw [upd_ne ne] at nd
    exact nd
  have r2 : Vals [V.ref (hp.objs.size + 1), v] [Value.ref (hp.objs.size + 1), u] := .cons rfl (.cons r1 .nil)
  refine wpAny_call (call_kw (us := []) base (c.T.tail.of tail) at_C (Nat.zero_le _) (W.looks_findIn I1.kIn iC) (fun self => W.bind_fn I1.kIn self tI) ?_)
  refine codeAny_mono (G.run _ X.stack _ _ ⟨[Value.ref (hp.objs.size + 1)], [(f, u)]⟩ _ _ _ E0 (hr.make C [] [(f, u)]) (J.env0.make C [] [(f, u)]) (b2 _ _ _) r2 new) fun r s' z => ?_
  match r, z with
  | .error e, z => exact z.elim
  | .ok .next, z => exact z.elim
  | .ok .brk, z => exact z.elim
  | .ok .cont, z => exact z.elim
  | .ok (.ret y), z =>
    obtain ⟨v2, H2, os2, bare2, un2, hok2, rv, ev, d, rfl, nd, ne⟩ := z
    subst ev
    obtain ⟨h2, g2, d2, t2, os'⟩ := s'
    have fin := mk_end (X := X) (Q := Q) (d2 := d2) (t2 := t2) (fs := [(f, v)]) (raises_own c.T.sub c.ty) I1 big kept un2 hok2 os2 bare2 upd_same (by unfold made; rw [upd_ne ne, upd_same]) nd (by
      have eq : upd (del (made H1 C f v (hp.objs.size + 1) d) (hp.objs.size + 1)) d (.xd [(f, v)]) = upd H1 d (.xd [(f, v)]) := by
        funext b
        by_cases hb : b = d
        · rw [hb, upd_same, upd_same]
        · rw [upd_ne hb, upd_ne hb]
          by_cases ha : b = hp.objs.size + 1
          · rw [ha, del_same, na]
          · rw [del_ne ha]
            unfold made
            rw [upd_ne ha, upd_ne hb]
      rw [eq]
      exact q d nd)
    exact ⟨rv, fin⟩
end
end Exn

namespace Exn
open PySem PySem.Spec PyProof.Rows L2

/-- an own exception class whose __init__ takes nothing and does nothing -/
structure Cl0 (P : Program) (w : World) (K : W.Frag) (mg : Str → Option Value) (base : Heap) (x : Str) (C : Addr) (B newId initId : String) (bmB : List Value) : Prop where
  T : Ecl K C B newId initId bmB
  m : mg x = some (.ref C)
  run : ∃ fI fd, W.findIn K (.ref C) "__init__" = some (some (.ref fI)) ∧ W.typeIn K (.ref fI) = some (.type "function") ∧ FnOk P w K mg base CX0 1 fI fd ["self"] (spBare C) ∧
    ∀ (s : Shared) (a : Value), BindsTo s fd ⟨[a], []⟩ [("self", a)]
section
variable {X : Cx} {C : Addr} {x f : Str} {B newId initId : String} {bmB : List Value} {p pos : Pos}
theorem pe_exn0 (c : Cl0 X.prog X.w X.K X.mg X.base x C B newId initId bmB) (hr : Room 2 X.A) (hg : Gl X x) (hdb : (x == ("__debug__" : Str)) = false := by decide) :
    PE X (.Call (.Name x p) [] [] pos) (fun σ H Q => ∀ a, H a = none → Q (.ref a) (upd H a (exo a C none))) := by
  obtain ⟨fI, fd, iC, tI, G, b1⟩ := c.run
  refine ⟨fun pins s σ H Q I h => ?_⟩
  refine wpAny_Call_Name_kw (ld_glob I hg c.m ?_ hdb)
  refine W.callWith_K0 I.kIn c.T.kp (run_exn (us := []) (vs := []) (ws := []) c.T iC tI G hr (fun s a => b1 s _) .nil (Nat.zero_le _) I fun a na => ?_)
  exact ⟨a, rfl, upd_same, rfl, h a na⟩

/-- isinstance(e, c), e the caught exception that a suite holds, with a dict of its own -/
theorem call_isS {a : Addr} {oe : Obj} {cls : Value} {d : Option Addr} {pn : List (Addr × Obj)} {D : Addr} (T : Ecl X.K D B newId initId bmB) (G : ClsGet X.K) (hz : Zc cls d oe) (hf : ∃ vs, oe.data = .fields vs) :
    CallR (X.suite a ((a, oe) :: pn)) (.builtin "isinstance") (fun xs H Q => ∃ (c : V) (u : Value) (b : Bool) (dd : Addr) (fs : List (Str × V)), xs = [.ref a, c] ∧ ClsV c u ∧ cls = .ref D ∧ d = some dd ∧ H dd = some (.xd fs) ∧
      W.kitOne X.K (.ref D) u = some b ∧ Q (.bl b) H) := by
  intro pins s σ H xs us Q I r h
  obtain ⟨c, u, b, dd, fs, rfl, k, rfl, rfl, ed, e, q⟩ := h
  obtain ⟨u1, u2, rfl, r1, r2⟩ := vals2 r
  obtain rfl := k.eq r2
  obtain rfl : u1 = Value.ref a := r1
  obtain ⟨at_a, _⟩ := I.pin (a, oe) (List.mem_append_left _ List.mem_cons_self)
  obtain ⟨vs, hd⟩ := hf
  have ox : ObjOk X.prog X.w H s.heap dd (.xd fs) := I.hok dd _ ed
  obtain ⟨mA, ⟨od, es, ep, ho, _⟩, _⟩ := ox
  have J : W.InstAt s.heap a oe D (some od) := ⟨at_a, hz.1, by unfold W.notCls; rw [hd], by rw [hz.2]; exact ho⟩
  exact W.kia_one (W.kitx_exc (ox := oe) (od := some od) (cls_some T.hd) T.ga T.gt T.sub T.ca G.get G.takes T.mo) I.kIn J e (fun z => nomatch z) fun tk => ⟨.bl b, H, I.kept (t' := tk) fun _ _ z => z, rfl, q⟩
end
end Exn
namespace Keys
open PySem PySem.Spec PyProof.Rows
/-! KeyError, as a base of own classes -/
abbrev keyTail : List Value := [.type "KeyError", .type "LookupError", .type "Exception", .type "BaseException", .type "object"]
theorem store_KeyError : StoreFacts "KeyError" keyTail "object.__setattr__" "object" where
  mro := by kernel_rfl
  slot := by
    refine .of (owner := "object") (n := "__setattr__") ?_ (by decide +kernel) (by decide +kernel) (by decide +kernel) ?_ ?_
    · rw [typeLookup_type, builtinLookup_eq_fast]; kernel_rfl
    · first
        | exact .inl (by decide +kernel)
        | exact .inr (by decide +kernel)
    · rw [isSubtype_type]; kernel_rfl
  entry := F.entry_object_sa
  kind := by decide +kernel
  split := by decide +kernel
  hasOwner := by decide +kernel
  args := fun a b c => by unfold argsOk; kernel_rfl
  passes := fun self => by kernel_rfl
theorem tail_KeyError : Exn.Tail keyTail "LookupError" := ⟨by decide +kernel, by decide +kernel, by decide +kernel⟩
abbrev exTail : List Value := [.type "Exception", .type "BaseException", .type "object"]
theorem tail_Exception : Exn.Tail exTail "Exception" := ⟨by decide +kernel, by decide +kernel, by decide +kernel⟩
end Keys

/-! raise C(v) for an own class whose __init__ keeps one thing, by position -/
namespace Exn
open PySem PySem.Spec PyProof.Rows L2
section
variable {X : Cx} {C : Addr} {x f : Str} {B newId initId : String} {bmB : List Value} {e : Expr} {te : TE} {p kp pos : Pos}
/-- raise C(e): what makes it -/
theorem pmk_exn (c : Cl1 X.prog X.w X.K X.mg X.base x C f B newId initId bmB) (hr : Room 2 X.A) (hg : Gl X x) (he : PE X e te)
    (hdb : (x == ("__debug__" : Str)) = false := by decide) (hs : starEach [e] X.env = (false, eval e X.env) :: starEach [] X.env := by rfl) :
    PMk X (.Call (.Name x p) [e] [] pos) (fun σ H Q => te σ H fun u H1 => ∃ v, [u] = [v] ∧ ∀ d, H1 d = none → Q (.ref C) (some d) (upd H1 d (.xd [(f, v)]))) := by
  obtain ⟨fI, fd, iC, tI, G, b1, b2⟩ := c.run
  intro pins s σ H Q I h
  refine wpAny_Call_Name_kw (ld_glob I hg c.m ?_ hdb)
  refine W.callWith_K (h₀ := X.base) I.ok.mod.kin c.T.kp (thn ((pa_cons he pa_nil hs).run pos pins s σ H (fun vs H1 => ∃ v, vs = [v] ∧ ∀ d, H1 d = none → Q (.ref C) (some d) (upd H1 d (.xd [(f, v)]))) I h) fun us s1 ⟨vs, H1, I1, r, v, ev, q⟩ => ⟨I1.kIn, ?_⟩) hs (by rfl)
  subst ev
  obtain ⟨u, rfl, r1⟩ := vals1 r
  obtain ⟨nm, N, qn, bs, bm, hd, sn, sub, ab, col, dd, k0, k1, k2, k3, k5, at_C, tail⟩ := W.excInit_of I1.kIn c.T.made
  obtain ⟨bm0, base⟩ := c.T.base
  obtain ⟨hp, g, dr, tk, os⟩ := s1
  have big : hp.objs.size ≤ hp.objs.size + 1 := Nat.le_succ _
  have na : H1 (hp.objs.size + 1) = none := I1.hok.fresh big
  have kept : ∀ b o, hp.get? b = some o → ((hp.push (W.kdv_tup [u])).push (HandSPX.excO C hp.objs.size)).get? b = some o :=
    fun b o e => Heap.get?_push_of_some _ (Heap.get?_push_of_some _ e)
  have here : ((hp.push (W.kdv_tup [u])).push (HandSPX.excO C hp.objs.size)).get? (hp.objs.size + 1) = some (HandSPX.excO C hp.objs.size) := by
    heap_get
  have J : Inv X pins σ (upd H1 (hp.objs.size + 1) (exo (hp.objs.size + 1) C none)) ⟨(hp.push (W.kdv_tup [u])).push (HandSPX.excO C hp.objs.size), g, dr, tk, os⟩ :=
    I1.laid (t' := tk) kept big (exo_ok here)
  have new : spKeep C f [.ref (hp.objs.size + 1), v] (upd H1 (hp.objs.size + 1) (exo (hp.objs.size + 1) C none))
      (fun y H2 => y = .non ∧ ∃ d, H2 = made H1 C f v (hp.objs.size + 1) d ∧ H1 d = none ∧ d ≠ hp.objs.size + 1) E0 := by
    refine ⟨_, v, rfl, upd_same, fun dx nd ne => ⟨rfl, dx, made_eq ne, ?_, ne⟩⟩
    rw [upd_ne ne] at nd
    exact nd
  have r2 : Vals [V.ref (hp.objs.size + 1), v] [Value.ref (hp.objs.size + 1), u] := .cons rfl (.cons r1 .nil)
  refine wpAny_call (call_kw (us := [u]) base (c.T.tail.of tail) at_C (by show 1 ≤ sizeLine; decide) (W.looks_findIn I1.kIn iC) (fun self => W.bind_fn I1.kIn self tI) ?_)
  refine codeAny_mono (G.run _ X.stack _ _ ⟨[Value.ref (hp.objs.size + 1), u], []⟩ _ _ _ E0 (hr.make C [u] []) (J.env0.make C [u] []) (b1 _ _ _) r2 new) fun r s' z => ?_
  match r, z with
  | .error e, z => exact z.elim
  | .ok .next, z => exact z.elim
  | .ok .brk, z => exact z.elim
  | .ok .cont, z => exact z.elim
  | .ok (.ret y), z =>
    obtain ⟨v2, H2, os2, bare2, un2, hok2, rv, ev, d, rfl, nd, ne⟩ := z
    subst ev
    obtain ⟨h2, g2, d2, t2, os'⟩ := s'
    have fin := mk_end (X := X) (Q := Q) (d2 := d2) (t2 := t2) (fs := [(f, v)]) (raises_own c.T.sub c.ty) I1 big kept un2 hok2 os2 bare2 upd_same (by unfold made; rw [upd_ne ne, upd_same]) nd (by
      have eq : upd (del (made H1 C f v (hp.objs.size + 1) d) (hp.objs.size + 1)) d (.xd [(f, v)]) = upd H1 d (.xd [(f, v)]) := by
        funext b
        by_cases hb : b = d
        · rw [hb, upd_same, upd_same]
        · rw [upd_ne hb, upd_ne hb]
          by_cases ha : b = hp.objs.size + 1
          · rw [ha, del_same, na]
          · rw [del_ne ha]
            unfold made
            rw [upd_ne ha, upd_ne hb]
      rw [eq]
      exact q d nd)
    exact ⟨rv, fin⟩
end
end Exn

/-! enumerate over a tuple -/
namespace EnuT
open PySem PySem.Spec PyProof.Rows L2

set_option maxHeartbeats 4000000 in
theorem meets_one {v : Value} {o : Obj} {G : Heap → Prop} (B : Begins v o G) :
    Meets (Builtin.«enumerate.__new__» ⟨[.type "enumerate", v], []⟩) (fun _ R s => G s.heap ∧
      R (.ok (.ret (.ref (s.heap.push o).objs.size)))
        { s with heap := (s.heap.push o).push { cls := .type "enumerate", data := .fields #[.none, .bool false, .ref s.heap.objs.size, rawInt 0, .none, .none] } }) :=
  .of_wp fun prog w A R s h => by
    obtain ⟨hp, g, d, tk, os⟩ := s
    obtain ⟨h1, h⟩ := h
    have sub := sub_enumerate
    have iter : ∀ {A' : Around} {E : Value → Shared → Prop} {Q : Value → Shared → Prop}, Q (.ref hp.objs.size) ⟨hp.push o, g, d, tk, os⟩ →
        wpAny (model prog w) A' (pyIter v) Q E ⟨hp, g, d, tk, os⟩ := fun q => B.iter prog w _ _ ⟨hp, g, d, tk, os⟩ _ h1 q
    wp_walk using iter
    refine wpAny_stack_any fun st => wpAny_pure ?_
    split
    · rename_i c _ _ _ _ _
      cases (c == Value.type "enumerate") <;> (wp_walk using iter; exact ⟨_, rfl, h⟩)
    · wp_walk using iter
      exact ⟨_, rfl, h⟩

theorem call_one {prog : Program} {w : World} {A : Around} {E : Value → Shared → Prop} {s : Shared} {v : Value} {o : Obj} {G : Heap → Prop} {Q : Value → Shared → Prop} (B : Begins v o G) (h1 : G s.heap)
    (k : ∀ h', IsEnum h' (s.heap.objs.size + 1) s.heap.objs.size 0 .none → h'.get? s.heap.objs.size = some o →
      (∀ b u, s.heap.get? b = some u → h'.get? b = some u) → Q (.ref (s.heap.objs.size + 1)) { s with heap := h' }) :
    wpAny (model prog w) A (call (.type "enumerate") [v]) Q E s := by
  refine callType_new F.called_enumerate (by decide) (F.typeCall_enumerate_1 _) (F.newCall_enumerate_1 _) (fun obj => F.args_object_init_2 obj _) F.entry_enumerate_new (meets_one B) ⟨h1, ?_⟩
  have sz : (s.heap.push o).objs.size = s.heap.objs.size + 1 := Heap.size_push ..
  show _ ∧ _
  rw [sz]
  have at_e : IsEnum ((s.heap.push o).push { cls := .type "enumerate", data := .fields #[.none, .bool false, .ref s.heap.objs.size, rawInt 0, .none, .none] }) (s.heap.objs.size + 1) s.heap.objs.size 0 .none := by
    have z := Heap.get?_push_size (s.heap.push o) (o := { cls := .type "enumerate", data := .fields #[.none, .bool false, .ref s.heap.objs.size, rawInt 0, .none, .none] }) rfl
    rw [sz] at z
    exact z
  refine ⟨⟨_, at_e, rfl⟩, k _ at_e (Heap.get?_push_of_some _ (Heap.get?_push_size _ B.free)) fun b u e => Heap.get?_push_of_some _ (Heap.get?_push_of_some _ e)⟩

/-- the tuple at a, each item in a new pair -/
def Iet (K : W.Frag) (a : Addr) : It :=
  ⟨fun i H => ∃ (xs : List V) (x : V), SqT K H a xs ∧ xs[i]? = some x,
    fun i H v H' => ∃ T x, v = .ref T ∧ H T = none ∧ H' = upd H T (.tup [.int (i : Nat), x]) ∧ ∀ xs, SqT K H a xs → xs[i]? = some x,
    fun i H => ∃ xs : List V, SqT K H a xs ∧ xs.length = i⟩

theorem turn_et {P : Program} {w : World} {K : W.Frag} {elts : List Expr} {kk : Nat} {tpos : Pos} (a e it : Addr) :
    Turn P w K (.Tuple elts kk tpos) (Iet K a) [e, it] e (fun i h => (∃ old, IsEnum h e it ((i : Nat) : Int) old) ∧ h.IsTupleIter it a i ∧ e ≠ it) where
  mem := List.mem_cons_self ..
  obj := fun i h st b hb => by
    obtain ⟨⟨old, he⟩, ⟨o, ho, hc, hd⟩, _⟩ := st
    have hb2 : b = e ∨ b = it := by simpa using hb
    rcases hb2 with rfl | rfl
    · exact ⟨_, he, fun v q => nomatch q⟩
    · exact ⟨o, ho, fun v q => by rw [hd] at q; cases q⟩
  keep := fun i h h' st k => by
    obtain ⟨⟨old, he⟩, hi, ne⟩ := st
    exact ⟨⟨old, k e (List.mem_cons_self ..) _ he⟩, hi.at fun o q => k it (by simp) o q, ne⟩
  item := by
    intro X hP hw hK hc i pins s σ H E I hf st hg
    subst hP hw hK
    obtain ⟨⟨old, he⟩, hit, ne⟩ := st
    obtain ⟨xs, x, hq, hx⟩ := hg
    obtain ⟨its, rv, p, hz⟩ := I.tuple hq
    obtain ⟨u, hu, ru⟩ := rv.get hx
    have tup : s.heap.IsTuple a its.toArray := p
    have ea : e ≠ a := fun z => by
      obtain ⟨o, ho, hc, _⟩ := p
      rw [← z] at ho
      have he' : s.heap.get? e = some _ := he
      rw [ho] at he'
      cases he'
      exact absurd (Value.type.inj hc) (by decide)
    have ia : a ≠ it := fun z => by
      obtain ⟨o, ho, hc, _⟩ := p
      obtain ⟨o', ho', hc', _⟩ := hit
      rw [z, ho'] at ho
      cases ho
      rw [hc'] at hc
      exact absurd (Value.type.inj hc) (by decide)
    have le : e < s.heap.objs.size := Heap.lt_size he
    have li : it < s.heap.objs.size := by
      obtain ⟨_, q, _⟩ := hit
      exact Heap.lt_size q
    have lt : i < its.toArray.size := by
      have := (List.getElem?_eq_some_iff.mp hu).1
      simpa using this
    refine wpAny_pyNext_enum_itemD (Draws.tuple (A := X.A.in1) (I.ok.hd hc) it a ia its.toArray) he ⟨hit, tup⟩ lt ne (by simp [ne, ea]) fun y h' tk hy ho st' hT hsz hk => ?_
    have eu : y = u := by
      have z : its.toArray[i]? = some y := hy
      rw [List.getElem?_toArray, hu] at z
      exact (Option.some.inj z).symm
    subst eu
    refine ⟨_, rfl, wpAny_letOwnedTupleGo_enum (s := { s with heap := h', toks := tk + 1 }) ho fun h'' he' sb => ?_⟩
    have at_T : h''.get? s.heap.objs.size = some { cls := .type "tuple", data := .seq #[.int i tk, y] } := (sb.2 _ (Nat.ne_of_gt le)).trans hT
    have new : ObjOk X.prog X.w (upd H s.heap.objs.size (.tup [.int (i : Nat), x])) h'' s.heap.objs.size (.tup [.int (i : Nat), x]) :=
      ⟨by show 2 ≤ sizeLine; decide, [.int i tk, y], .cons ⟨_, rfl⟩ (.cons ru .nil), ⟨_, at_T, rfl, _, rfl⟩⟩
    have J : Inv X pins σ (upd H s.heap.objs.size (.tup [.int (i : Nat), x])) { s with heap := h'', toks := tk + 1 } := by
      refine I.turnedNew (ch := [e, it]) (fun b ob hb q => ?_) hf (Nat.le_refl _) new
      have b1 : b ≠ e := fun z => hb (by simp [z])
      have b2 : b ≠ it := fun z => hb (by simp [z])
      exact (sb.2 b b1).trans (hk b ob b1 b2 q)
    refine ⟨.ref s.heap.objs.size, _, J, rfl, ⟨_, x, rfl, I.hok.fresh (Nat.le_refl _), rfl, fun ys hy => ?_⟩, ⟨⟨y, ?_⟩, st'.1.at fun o q => (sb.2 it (Ne.symm ne)).trans q, ne⟩, fun b hb => ?_⟩
    · rw [I.tuple_inj hy hq]
      exact hx
    · have e1 : ((i + 1 : Nat) : Int) = (i : Int) + 1 := by omega
      rw [e1]
      exact he'
    · have lb : b < s.heap.objs.size := by
        have hb2 : b = e ∨ b = it := by simpa using hb
        rcases hb2 with rfl | rfl
        · exact le
        · exact li
      rw [upd_ne (Nat.ne_of_lt lb)]
      exact (hf b hb).1
  done := by
    intro X hP hw hK hc i pins s σ H E I hf st hg
    subst hP hw hK
    obtain ⟨⟨old, he⟩, hit, ne⟩ := st
    obtain ⟨xs, hq, hx⟩ := hg
    obtain ⟨its, rv, p, hz⟩ := I.tuple hq
    have tup : s.heap.IsTuple a its.toArray := p
    have ia : a ≠ it := fun z => by
      obtain ⟨o, ho, hc, _⟩ := p
      obtain ⟨o', ho', hc', _⟩ := hit
      rw [z, ho'] at ho
      cases ho
      rw [hc'] at hc
      exact absurd (Value.type.inj hc) (by decide)
    obtain ⟨f0, f1, f2, f3, f4, f5⟩ := hf it (by simp)
    have sz : i = its.toArray.size := by
      have := rv.length
      simp
      omega
    subst sz
    refine wpAny_pyNext_enum_endD (Draws.tuple (A := X.A.in1) (I.ok.hd hc) it a ia its.toArray) he ⟨hit, tup⟩ fun h' eb => ⟨rfl, I.turned (t' := s.toks) (fun b o hb q => eb b o hb q) f0 f1 f3 f4 f5⟩
  self := fun A i s Q E st h => by
    obtain ⟨⟨_, he⟩, _⟩ := st
    exact wpAny_pyIter_enum he h

/-- enumerate over a list or over a tuple -/
def iEnS (K : W.Frag) (ta : TA) : TI := fun σ H R => ta σ H fun vs H1 => ∃ a, vs = [V.ref a] ∧ ((∃ xs, SqL K H1 a xs ∧ R (Ite K a) H1) ∨ (∃ xs, SqT K H1 a xs ∧ R (Iet K a) H1))
theorem pi_enumS {X : Cx} {e : Expr} {ta : TA} {p pos tpos : Pos} {elts : List Expr} {kk : Nat} (hg : Gl X "enumerate") (hm : X.mg "enumerate" = none) (ha : PA X [e] ta) (hs : starEach [e] X.env = [(false, eval e X.env)] := by rfl) :
    PI X (.Tuple elts kk tpos) (.Call (.Name "enumerate" p) [e] [] pos) (iEnS X.K ta) where
  run := fun pins s σ H R I h =>
    Call_ (ld_blt I hg hm boot_enumerate (PyProof.Rows.callWith_type1 (thn (ha.run pos pins s σ H _ I h) fun us s1 x => by
      obtain ⟨vs, H1, I1, r1, a, rfl, q⟩ := x
      obtain ⟨u, rfl, ra⟩ := vals1 r1
      cases ra
      rcases q with ⟨xs, hq, q⟩ | ⟨xs, hq, q⟩
      · obtain ⟨its, rv, p', hz⟩ := I1.list hq
        refine call_enumerate_list (PlainL.isList p') fun h' he hit hsz hk => ?_
        have I2 := I1.kept (t' := s1.toks) hk
        refine wpAny_pyIter_enum he ⟨_, [s1.heap.objs.size + 1, s1.heap.objs.size], _, Ite X.K a, H1, rfl, I2, turn_enum a _ _, ?_, ?_, q⟩
        · exact ⟨⟨_, he⟩, hit, Nat.succ_ne_self _⟩
        · intro b hb
          have le : s1.heap.objs.size ≤ b := by
           rcases (by simpa using hb : b = s1.heap.objs.size + 1 ∨ b = s1.heap.objs.size) with rfl | rfl <;> omega
          exact I1.fpOk le (I1.hok.fresh le)
      · obtain ⟨its, rv, p', hz⟩ := I1.tuple hq
        have tup : s1.heap.IsTuple a its.toArray := p'
        refine call_one (begins_tuple a its.toArray) tup fun h' he hit hk => ?_
        have I2 := I1.kept (t' := s1.toks) hk
        refine wpAny_pyIter_enum he ⟨_, [s1.heap.objs.size + 1, s1.heap.objs.size], _, Iet X.K a, H1, rfl, I2, turn_et a _ _, ?_, ?_, q⟩
        · exact ⟨⟨_, he⟩, ⟨_, hit, rfl, rfl⟩, Nat.succ_ne_self _⟩
        · intro b hb
          have le : s1.heap.objs.size ≤ b := by
           rcases (by simpa using hb : b = s1.heap.objs.size + 1 ∨ b = s1.heap.objs.size) with rfl | rfl <;> omega
          exact I1.fpOk le (I1.hok.fresh le)) hs rfl) (by decide) (by decide)) rfl
theorem walk_enumT {K : W.Frag} {a : Addr} {xs : List V} : Walk (Iet K a) xs.length (fun H => SqT K H a xs) (YPair (fun i => some (.int (i : Nat))) (fun i => xs[i]?)) where
  goes := fun i H hi hq => ⟨xs, xs[i], hq, by simp [hi]⟩
  stops := fun H hq => ⟨xs, hq, rfl⟩
  yields := fun i H v H' hi hq h => by
    obtain ⟨T, x, rfl, hT, rfl, hx⟩ := h
    exact ⟨T, _, x, rfl, hT, rfl, rfl, hx xs hq⟩

/-- a dict comprehension over what walks -/
theorem dc_it {J : It} {n : Nat} {G : Hp → Prop} {Y : Nat → Hp → V → Hp → Prop} (w : Walk J n G Y) {g : TG} {tt : TT} {tk tv : TE} {vs : List Nat} {σ : L2.St} {H1 : Hp} {D : Addr} {Qd : Hp → Prop} (Pv : Nat → Hp → Prop)
    (h0 : Pv 0 (upd H1 D (.dK []))) (hl : ∀ i H, i ≤ n → Pv i H → G H)
    (hs : ∀ (i : Nat) (x : V) (H H' : Hp), i < n → Pv i H → Y i H x H' → g x (wipe σ vs) H' fun σ2 H2 => wipe σ2 vs = wipe σ vs ∧ tt σ2 H2 fun b H3 => if b = true then tk σ2 H3 fun y H4 => tv σ2 H4 fun z H5 =>
      ∃ kvs k, y = kV k ∧ H5 D = some (.dK kvs) ∧ kvs.length < sizeLine ∧ Pv (i + 1) (upd H5 D (.dK (putK kvs k z))) else Pv (i + 1) H3)
    (hd : ∀ H, Pv n H → Qd H) :
    ∃ W : Nat → Nat → Hp → Prop, (∃ m, W 0 m (upd H1 D (.dK []))) ∧ ∀ i m H, W i m H → (J.stop i H ∧ Qd H) ∨ (J.go i H ∧ ∃ Nx : Hp → Prop, (∀ H', Nx H' → ∃ m', m' < m ∧ W (i + 1) m' H') ∧
      ∀ x H', J.yld i H x H' → g x (wipe σ vs) H' fun σ2 H2 => wipe σ2 vs = wipe σ vs ∧ tt σ2 H2 fun b H3 => if b = true then tk σ2 H3 fun y H4 => tv σ2 H4 fun z H5 =>
        ∃ kvs k, y = kV k ∧ H5 D = some (.dK kvs) ∧ kvs.length < sizeLine ∧ Nx (upd H5 D (.dK (putK kvs k z))) else Nx H3) := by
  refine ⟨fun i m H => i ≤ n ∧ m = n - i ∧ Pv i H, ⟨n, Nat.zero_le _, rfl, h0⟩, ?_⟩
  rintro i m H ⟨hi, rfl, hp⟩
  by_cases h : i < n
  · refine .inr ⟨w.goes i H h (hl i H hi hp), Pv (i + 1), fun H' q => ⟨n - (i + 1), by omega, by omega, rfl, q⟩, fun x H' hy => ?_⟩
    exact hs i x H H' h hp (w.yields i H x H' h (hl i H hi hp) hy)
  · obtain rfl : i = n := by omega
    exact .inl ⟨w.stops H (hl _ H hi hp), hd H hp⟩

/-! ### tuple * 0 and tuple * 1 -/
end EnuT

/-! a def called by keywords alone -/
namespace EnuT
open PySem PySem.Spec PyProof.Rows L2
theorem pe_callK0 {X : Cx} {CX : CXT} {k : Nat} {f : Addr} {fd : FuncData} {ps ks : List Str} {sp : Sp} {E : XK} {x : Str} {p pos : Pos} {kws : List Keyword} {tk : TA} {g : List Value → List Value → List Value} {gV : List V → List V → List V}
    (F : FnOk X.prog X.w X.K X.mg X.base CX k f fd ps sp) (hr : Room k X.A) (hg : Gl X x) (hm : X.mg x = some (.ref f)) (kp : W.keepIn X.K (.ref f) = true) (hb : KBinds X.K fd ps ks g gV) (hx : Passes CX X E) (hk : PK X kws tk)
    (hall : (backToKw pos (keywordEach kws X.env)).all (·.1.isSome) = true := by rfl) (hks : (backToKw pos (keywordEach kws X.env)).filterMap (·.1) = ks := by rfl) (hdb : (x == ("__debug__" : Str)) = false := by decide)
    (hpl : ((backTo pos (starEach [] X.env)).any (·.1) || (backToKw pos (keywordEach kws X.env)).any (·.1.isNone)) = false := by rfl) :
    PE X (.Call (.Name x p) [] kws pos) (tCallK sp gV E tNil tk) := by
  refine ⟨fun pins s σ H Q I h => ?_⟩
  refine wpAny_Call_Name_kw (ld_glob I hg hm ?_ hdb)
  refine W.callWith_KW0 (h₀ := X.base) I.ok.mod.kin kp hall ?_ hpl
  refine thn (hk.run pos pins s σ H (fun zs H2 => sp (gV [] zs) H2 Q E) I h) fun ws s1 ⟨zs, H1, I1, r, q⟩ => ⟨I1.kIn, ?_⟩
  rw [hks]
  exact run_fnk F hr hb hx I1 .nil r q
end EnuT

/-! tuple * 0 and tuple * 1 -/
namespace EnuT
open PySem PySem.Spec PyProof.Rows L2
theorem mul_zero (l : Addr) (items : Array Value) (n : Nat) (dd : Option Addr) (sl : Array (Option Value)) (u : Tok) (ne : items.isEmpty = false) :
    Meets (Builtin.«tuple.__mul__» ⟨[.ref l, .int 0 u], []⟩) (fun _ R s => s.heap.get? l = some { cls := .type "tuple", dict := dd, data := .seq items n, slots := sl } ∧
      R (.ok (.ret (.ref s.heap.objs.size))) { s with heap := s.heap.push { cls := .type "tuple", data := .seq #[] } }) :=
  .of_wp fun prog w A R s h => by
    obtain ⟨hp, g, d, tk, os⟩ := s
    obtain ⟨h1, h⟩ := h
    have e1 : (items.isEmpty || (0 : Int) == 1) = false := by rw [ne]; rfl
    wp_walk using e1
    exact ⟨_, rfl, h⟩
theorem mul_one (l : Addr) (items : Array Value) (n : Nat) (dd : Option Addr) (sl : Array (Option Value)) (u : Tok) (ne : items.isEmpty = false) :
    Meets (Builtin.«tuple.__mul__» ⟨[.ref l, .int 1 u], []⟩) (fun _ R s => s.heap.get? l = some { cls := .type "tuple", dict := dd, data := .seq items n, slots := sl } ∧
      R (.ok (.ret (.ref l))) s) :=
  .of_wp fun prog w A R s h => by
    obtain ⟨hp, g, d, tk, os⟩ := s
    obtain ⟨h1, h⟩ := h
    have e1 : (items.isEmpty || (1 : Int) == 1) = true := by rw [ne]; rfl
    wp_walk using e1
    exact ⟨_, rfl, h⟩
def TupA (H : Hp) (v : V) (xs : List V) : Prop := ∃ a, v = .ref a ∧ H a = some (.tup xs)
/-- tuple * k, from k = 0 on -/
def rRepA : R2 := fun x y H Q => ∃ l k xs, x = .ref l ∧ y = .int k ∧ H l = some (.tup xs) ∧ xs ≠ [] ∧ 0 ≤ k ∧ k ≤ 1000 ∧ xs.length ≤ 1000 ∧
  ∀ v H', Same H H' → TupA H' v (List.replicate k.toNat xs).flatten → Q v H'
theorem same_new {H : Hp} {l : Addr} {o : HO} (n : H l = none) : Same H (upd H l o) := fun b u e => by
  rw [upd_ne (ne_of_none e n)]
  exact e
theorem rep_small {X : Cx} {pins : List (Addr × Obj)} {σ : L2.St} {H : Hp} {s : Shared} {l : Addr} {xs : List V} {Q : VK} {t : Tok} {k : Int} (I : L2.Inv X pins σ H s) (hT : H l = some (.tup xs)) (hne : xs ≠ []) (hk : k = 0 ∨ k = 1)
    (q : ∀ v H', Same H H' → TupA H' v (List.replicate k.toNat xs).flatten → Q v H') : wpAny (model X.prog X.w) X.A (binaryOp .Mult (.ref l) (.int k t)) (EP X pins σ Q) X.xe s := by
  obtain ⟨its, r, ⟨⟨cls, dd, data, sl⟩, ho, hc, n, hd⟩, hz⟩ := I.tuple (SqT.of hT)
  simp only at hc hd
  subst hc hd
  have ty : s.TypeIs (.ref l) "tuple" := ⟨_, ho, rfl⟩
  have emp : its.toArray.isEmpty = false := by
    cases its with
    | nil => cases r; exact (hne rfl).elim
    | cons _ _ => rfl
  refine wpAny_binaryOp_repeat_ref (T := "tuple") (U := "int") (by decide) ty (fun s' => typeIs_int s' _ _) noFill_tuple_mul PySem.F.fills_int_mul PySem.F.slot_int_rmul repeat_tuple PySem.F.slot_int_index.lookup ?_
  refine call_meets PySem.F.slot_int_rmul (typeIs_int _ _ _) PySem.F.entry_int_rmul (PySem.F.args_int_rmul_2 _ _) (int_rmul_tuple k t l its.toArray n dd sl) ⟨ho, ?_⟩
  refine ⟨rfl, ty, ?_⟩
  rcases hk with rfl | rfl
  · refine call_meets PySem.F.slot_tuple_mul ty PySem.F.entry_tuple_mul (PySem.F.args_tuple_mul_2 _ _) (mul_zero l its.toArray n dd sl t emp) ⟨ho, ?_⟩
    have new : ObjOk X.prog X.w (upd H s.heap.objs.size (.tup [])) (s.heap.push { cls := .type "tuple", data := .seq #[] }) s.heap.objs.size (.tup []) := ⟨by show 0 ≤ sizeLine; decide, [], .nil, IsTup.new _ _⟩
    refine ⟨.ref s.heap.objs.size, _, I.laid (fun b u e => Heap.get?_push_of_some _ e) (Nat.le_refl _) new, rfl, q _ _ (same_new (I.hok.fresh (Nat.le_refl _))) ⟨_, rfl, upd_same⟩⟩
  · refine call_meets PySem.F.slot_tuple_mul ty PySem.F.entry_tuple_mul (PySem.F.args_tuple_mul_2 _ _) (mul_one l its.toArray n dd sl t emp) ⟨ho, ?_⟩
    refine ⟨.ref l, H, I, rfl, q _ _ (Same.refl _) ⟨l, rfl, ?_⟩⟩
    rw [hT]
    simp
theorem op_repA {X : Cx} : OpR X (binaryOp .Mult) rRepA := by
  intro pins s σ H x y v u Q I rx ry h
  obtain ⟨l, k, xs, rfl, rfl, hT, hne, k0, k1, lx, q⟩ := h
  obtain rfl : v = Value.ref l := rx
  obtain ⟨t, rfl⟩ := ry
  rcases (by omega : k = 0 ∨ k = 1 ∨ 2 ≤ k) with z | z | z
  · exact rep_small I hT hne (.inl z) q
  · exact rep_small I hT hne (.inr z) q
  · exact op_repT pins s σ H (.ref l) (.int k) _ _ Q I rfl ⟨t, rfl⟩ ⟨l, k, xs, rfl, rfl, SqT.of hT, hne, z, k1, lx, fun p hp => q _ _ (same_new hp) ⟨p, rfl, upd_same⟩⟩
end EnuT

/-! a static method, called on its class -/
namespace Stc
open PySem PySem.Spec PyProof.Rows L2
/-- C.m is a staticmethod: its record at p, its def at g -/
structure SMet (K : PySem.W.Frag) (C : Addr) (mc : Value) (m : Str) (p g : Addr) : Prop where
  at_ : PySem.W.findCls K (.ref C) mc m = some (.get (.builtin "staticmethod.__get__") (.ref p) .none (.ref C))
  rc : ∃ rest, PySem.W.recIn K p "staticmethod" = some (.ref g :: rest)
  kp : PySem.W.keepIn K (.ref g) = true
section
variable {X : Cx} {pins : List (Addr × Obj)} {σ : L2.St} {H : Hp} {s : Shared} {C p g : Addr} {mc : Value} {m : Str} {A : Around} {E : Value → Shared → Prop}
theorem getmethsm_ok {pl : Sem Bool} {Q : Value × List Value → Shared → Prop} (I : Inv X pins σ H s) (r : ClX.CRead X.K C mc) (k : SMet X.K C mc m p g)
    (h : ∀ s', Inv X pins σ H s' → Q (.ref g, []) s') : wpAny (model X.prog X.w) A (getMethod (.ref C) m pl) Q E s := by
  obtain ⟨rest, hp⟩ := k.rc
  refine PySem.W.method_cls I.kIn r.ga (PySem.W.cls_bind I.kIn r.rd k.at_ ?_)
  refine wpAny_call (PySem.W.sm_get (s := { s with toks := s.toks + 1 }) I.kIn hp (PySem.W.handed_on rfl ?_))
  exact h _ (I.tok _)
end
/-- C.m(..), m a static method -/
def tSMeth (C : Addr) (sp : Sp) (E : XK) (ta : TE) (t : TA) : TE := fun σ H Q => ta σ H fun x H1 => x = .ref C ∧ t σ H1 fun vs H2 => sp vs H2 Q E
def tSMethK (C : Addr) (sp : Sp) (gV : List V → List V → List V) (E : XK) (ta : TE) (t : TA) : TE := fun σ H Q => ta σ H fun x H1 => x = .ref C ∧ t σ H1 fun zs H2 => sp (gV [] zs) H2 Q E
section
variable {X : Cx} {CX : CXT} {k : Nat} {C p g : Addr} {mc : Value} {sp : Sp} {E : XK} {o e : Expr} {es : List Expr} {m : Str} {pos apos : Pos} {ta : TE} {t : TA} {pl : Sem Bool} {fd : FuncData} {ps ks : List Str}
theorem pe_smeth (he : PE X o ta) (r : ClX.CRead X.K C mc) (c : SMet X.K C mc m p g) (F : FnOk X.prog X.w X.K X.mg X.base CX k g fd ps sp) (hr : Room k X.A) (hb : Binds X.K fd ps []) (hx : Passes CX X E) (ha : PA X (e :: es) t)
    (hst : starEach (e :: es) X.env = (false, eval e X.env) :: starEach es X.env := by rfl) (hpl : (backTo pos (starEach es X.env)).any (·.1) = false := by rfl)
    (ht : eval (.Call (.Attribute o m apos) (e :: es) [] pos) X.env = (do
      let ov ← eval o X.env
      standAt apos.atName
      let (f, first) ← holding [ov] (getMethod ov m pl)
      callWith pos f first (backTo pos (starEach (e :: es) X.env)) (backToKw pos (keywordEach [] X.env))) := by rfl) :
    PE X (.Call (.Attribute o m apos) (e :: es) [] pos) (tSMeth C sp E ta t) := by
  refine ⟨fun pins s σ H Q I h => ?_⟩
  refine PySem.W.methodCall_KW (pl := pl) (thn (he.run pins s σ H _ I h) fun u s1 ⟨x, H1, I1, rx, ex, q⟩ => ?_) ht
  subst ex
  obtain rfl : u = Value.ref C := rx
  refine getmethsm_ok I1 r c fun s2 I2 => ?_
  refine PySem.W.callWith_K (h₀ := X.base) I.ok.mod.kin c.kp (thn (ha.run pos pins s2 σ H1 _ I2 q) fun us s3 ⟨vs, H2, I3, rv, q2⟩ => ⟨I3.kIn, ?_⟩) hst hpl
  exact run_fn F hr hb .nil hx I3 rv (by rw [List.append_nil]; exact q2)
theorem pe_smethK {g' : List Value → List Value → List Value} {gV : List V → List V → List V} {kws : List Keyword} (he : PE X o ta) (r : ClX.CRead X.K C mc) (c : SMet X.K C mc m p g) (F : FnOk X.prog X.w X.K X.mg X.base CX k g fd ps sp) (hr : Room k X.A) (hb : KBinds X.K fd ps ks g' gV) (hx : Passes CX X E) (hk : PK X kws t)
    (hall : (backToKw pos (keywordEach kws X.env)).all (·.1.isSome) = true := by rfl) (hks : (backToKw pos (keywordEach kws X.env)).filterMap (·.1) = ks := by rfl)
    (hpl : ((backTo pos (starEach [] X.env)).any (·.1) || (backToKw pos (keywordEach kws X.env)).any (·.1.isNone)) = false := by rfl)
    (ht : eval (.Call (.Attribute o m apos) [] kws pos) X.env = (do
      let ov ← eval o X.env
      standAt apos.atName
      let (f, first) ← holding [ov] (getMethod ov m pl)
      callWith pos f first (backTo pos (starEach [] X.env)) (backToKw pos (keywordEach kws X.env))) := by rfl) :
    PE X (.Call (.Attribute o m apos) [] kws pos) (tSMethK C sp gV E ta t) := by
  refine ⟨fun pins s σ H Q I h => ?_⟩
  refine PySem.W.methodCall_KW (pl := pl) (thn (he.run pins s σ H _ I h) fun u s1 ⟨x, H1, I1, rx, ex, q⟩ => ?_) ht
  subst ex
  obtain rfl : u = Value.ref C := rx
  refine getmethsm_ok I1 r c fun s2 I2 => ?_
  refine PySem.W.callWith_KW0 (h₀ := X.base) I.ok.mod.kin c.kp hall ?_ hpl
  refine thn (hk.run pos pins s2 σ H1 (fun zs H2 => sp (gV [] zs) H2 Q E) I2 q) fun ws s3 ⟨zs, H2, I3, rz, q2⟩ => ⟨I3.kIn, ?_⟩
  rw [hks]
  exact run_fnk F hr hb hx I3 .nil rz q2
end
end Stc

/-! try .. except A as e: .. except (B, C) as e: ..; several clauses, each of a class or of two -/
namespace Trt
open PySem PySem.Spec PyProof.Rows L2
theorem flying_kept {base h h' : Heap} {l : List Env} {e : Addr} {Z : Obj → Prop} (x : HandSPX.FlyingZ base l e Z h) (k : ∀ b o, h.get? b = some o → h'.get? b = some o) : HandSPX.FlyingZ base l e Z h' := by
  obtain ⟨f1, f2, f3, oe, vs, T, oT, ts, he, hz, hd, h1, hnT, hTe, hT, hdT, h3⟩ := x
  exact ⟨fun b o e => k _ _ (f1 b o e), f2, f3.of_keeps fun b o e _ => ⟨o, k _ _ e, rfl⟩, oe, vs, T, oT, ts, k _ _ he, hz, hd, h1, hnT, hTe, k _ _ hT, hdT, h3⟩
/-- the slots are as many as the names -/
theorem takes_len {X : Cx} {W : WX} (t : Takes X W) : Takes X (fun cls d σ H => σ.length = X.N.length → W cls d σ H) :=
  fun u s' ⟨a, B, sI, pins, σ, H, cls, d, e, I, nb, up, sky, na, os, ag, w⟩ => t u s' ⟨a, B, sI, pins, σ, H, cls, d, e, I, nb, up, sky, na, os, ag, w I.len⟩
/-- a clause's test: what it says of an exception of a class -/
def Tst (X : Cx) (t : Expr) (cs : List Value) : Prop := ∀ (a : Addr) (oe : Obj) (pn pins : List (Addr × Obj)) (σ : L2.St) (H : Hp) (s : Shared) (cls : Value) (b : Bool) (Q : Bool → Shared → Prop) (E : Value → Shared → Prop),
  Inv (X.suite a ((a, oe) :: pn)) pins σ H s → PySem.W.Looks (model X.prog X.w) s.heap (typeOf (.ref a)) cls → PySem.W.exmAny X.K cls cs = some b →
  (∀ h', (∀ b o, s.heap.get? b = some o → h'.get? b = some o) → Q b { s with heap := h' }) →
  wpAny (model X.prog X.w) (X.A.mark (some (.ref a))) (eval t X.env) (fun c s1 => wpAny (model X.prog X.w) (X.A.mark (some (.ref a))) (excMatches (.ref a) c) Q E s1) E s
section
variable {X : Cx} {x x1 x2 : Str} {c c1 c2 : Value} {np p1 p2 tp : Pos} {kk : Nat}
theorem name_val {a : Addr} {oe : Obj} {pn pins : List (Addr × Obj)} {σ : L2.St} {H : Hp} {s : Shared} {Q : Value → Shared → Prop} {E : Value → Shared → Prop} (S : Inv (X.suite a ((a, oe) :: pn)) pins σ H s) (hc : Names X x c) (q : Q c s) :
    wpAny (model X.prog X.w) (X.A.mark (some (.ref a))) (eval (.Name x np) X.env) Q E s := by
  obtain ⟨hg, hdbg, hm | ⟨hm, hv, hnn⟩⟩ := hc
  · exact ld_glob (X := X.suite a ((a, oe) :: pn)) S hg hm q hdbg
  · exact ld_blt (X := X.suite a ((a, oe) :: pn)) S hg hm hv q hnn hdbg
theorem tst_one (hc : Names X x c) : Tst X (.Name x np) [c] := fun a oe pn pins σ H s cls b Q E S LT e q => by
  have e1 : PySem.W.exmOne X.K cls c = some b := by
    obtain ⟨b1, d1, h1, h2, h3⟩ := PySem.W.exmAny_cons e
    have h2 : some false = some d1 := h2
    cases h2
    rw [Bool.or_false] at h3
    rw [h3]
    exact h1
  refine name_val S hc ((PySem.W.exm_one S.kIn LT e1).here ?_)
  exact q s.heap fun _ _ z => z
theorem tst_two (h1 : Names X x1 c1) (h2 : Names X x2 c2) (hs : starEach [.Name x1 p1, .Name x2 p2] X.env = (false, eval (.Name x1 p1) X.env) :: starEach [.Name x2 p2] X.env := by rfl) (hs2 : starEach [.Name x2 p2] X.env = (false, eval (.Name x2 p2) X.env) :: starEach [] X.env := by rfl) :
    Tst X (.Tuple [.Name x1 p1, .Name x2 p2] kk tp) [c1, c2] := fun a oe pn pins σ H s cls b Q E S LT e q => by
  refine wpAny_Tuple ?_
  refine wpAny_items_cons (name_val S h1 ?_) hs
  refine wpAny_items_cons (name_val S h2 ?_) hs2
  refine wpAny_items_nil ⟨by show 2 ≤ sizeLine; decide, ?_⟩
  have kp : ∀ q o, s.heap.get? q = some o → (s.heap.push { cls := .type "tuple", data := .seq [c1, c2].toArray }).get? q = some o := fun _ _ z => Heap.get?_push_of_some _ z
  exact (PySem.W.exm_tup2 (S.kIn.keeps kp) (LT.keeps kp) (Heap.get?_push_size s.heap rfl) e).here (q _ kp)
end
/-- what the clauses wish of an exception of the body: each its classes, its name's slot, its suite -/
def wMA (K : PySem.W.Frag) (Wout : WX) (D : Ends) : List (List Value × Nat × (Addr → Value → Option Addr → TS)) → WX
  | [] => Wout
  | (cs, i, ts) :: r => fun cls d σ H => ∃ b, PySem.W.exmAny K cls cs = some b ∧
    (b = true → ∀ a, H a = none → ts a cls d { nx := fun σ' H' => D.nx (σ'.set i none) H', rt := D.rt, bk := fun σ' H' => D.bk (σ'.set i none) H', ct := fun σ' H' => D.ct (σ'.set i none) H' } (σ.set i (some (.ref a))) H) ∧
    (b = false → wMA K Wout D r cls d σ H)
inductive HdsA (X : Cx) : List ExceptHandler → List (List Value × Nat × (Addr → Value → Option Addr → TS)) → Prop
  | nil : HdsA X [] []
  | cons {t : Expr} {cs : List Value} {n : Str} {i : Nat} {ts : Addr → Value → Option Addr → TS} {b₀ : Stmt} {suite : List Stmt} {pos' : Pos} {hds : List ExceptHandler} {l : List (List Value × Nat × (Addr → Value → Option Addr → TS))} (hc : Tst X t cs) (hi : X.N[i]? = some n) (hln : X.env.kindOf n = some .local)
      (hsu : ∀ (a : Addr) (oe : Obj) (cls : Value) (d : Option Addr) (pn : List (Addr × Obj)), Zc cls d oe → (∃ vs, oe.data = .fields vs) → PSs (X.suite a ((a, oe) :: pn)) (b₀ :: suite) (ts a cls d)) (r : HdsA X hds l) :
      HdsA X (.ExceptHandler (some t) (some n) (b₀ :: suite) pos' :: hds) ((cs, i, ts) :: l)
section
variable {X : Cx} {body : List Stmt} {h₀ : ExceptHandler} {hds : List ExceptHandler} {l : List (List Value × Nat × (Addr → Value → Option Addr → TS))} {pos : Pos} {tb : WX → TS} {Wout : WX}
theorem ps_try_manyA (hs : X.stack = X.env :: X.outer) (hf : X.env.frame = some X.env.locals) (hN : X.N.Nodup) (tk : Takes X Wout)
    (hb : ∀ (W : WX) (pn : List (Addr × Obj)) (xe : Value → Shared → Prop), Takes (X.tr pn xe) W → PassesOwn (model X.prog X.w) X.A X.env xe → PSs (X.tr pn xe) body (tb W))
    (hh : HdsA X (h₀ :: hds) l) : PS X (.Try body (h₀ :: hds) [] [] pos) (fun D σ H => tb (wMA X.K Wout D l) D σ H) := by
  refine ⟨fun pins s σ H D I h => ?_⟩
  have ok := I.ok
  have hfr : X.A.frames = some (X.env :: X.outer) := by rw [ok.frames, hs]
  refine wpAny_Try_except ?_
  refine wpAny_mono ((hb (wMA X.K Wout D l) (X.pn ++ pins) (fun e s₁ => wpAny (model X.prog X.w) X.A (noteFrame e X.env) (fun _ s₂ => wpAny (model X.prog X.w) X.A (setFlight e none) (fun _ s₃ =>
    wpAny (model X.prog X.w) X.A (handleBy e X.env (h₀ :: hds)) (SP X pins D) X.xe s₃) X.xe s₂) X.xe s₁) (fun u s' xx => ?_) PassesOwn.looking).run [] s σ H D (I.toTry _) h) (fun f s1 hsp => ?_) (fun e s1 he => he)
  · -- the catch
    obtain ⟨a, B, sI, pins', σ', H', cls, d, rfl, J', nb, up, sky, na, os, ag, w⟩ := xx
    have J : Inv X pins σ' H' sI := J'.ofTry ok
    have sky' : Sky B (X.env :: X.outer) a (Zc cls d) X.env.locals s'.heap := by rw [← hs]; exact sky
    show wpAny (model X.prog X.w) X.A (noteFrame (.ref a) X.env) _ _ _
    refine Sky.land Zc.steady hfr hf sky' fun h3 fl3 up3 => ?_
    have notFr : ∀ {h : Heap} {o : Obj} {vs : Array Value}, h.FunFrames B (X.env :: X.outer) → h.get? a = some o → o.data = .fields vs → a ∉ frs (X.env :: X.outer) := fun {h o vs} ff e dd hm => by
      obtain ⟨_, o', e', hnf⟩ := ff.mem hm
      rw [e] at e'; cases e'
      exact hnf _ dd
    have go : ∀ {hds' : List ExceptHandler} {l' : List (List Value × Nat × (Addr → Value → Option Addr → TS))}, HdsA X hds' l' → ∀ h3, HandSPX.FlyingZ B (X.env :: X.outer) a (Zc cls d) h3 → s'.heap.UpToSlots h3 → wMA X.K Wout D l' cls d σ' H' →
        wpAny (model X.prog X.w) X.A (handleBy (.ref a) X.env hds') (SP X pins D) X.xe { s' with heap := h3 } := by
      intro hds' l' hk
      induction hk with
      | nil =>
        intro h3 fl3 up3 w
        refine wpAny_handleBy_nil ?_
        obtain ⟨k1, k2, k3, oe, vs, T, oT, ts', he, hz, hd, h1, hr⟩ := id fl3
        unfold PySem.passOn
        refine wpAny_bind (wpAny_field he hd h1 ?_)
        rw [if_neg (show ¬ ((Value.ref T == Value.none) = true) from by simp)]
        have fin : wpAny (model X.prog X.w) X.A (setFlight (.ref a) X.env.frame) (fun _ s4 => wpAny (model X.prog X.w) X.A (throw (.ref a) : Sem Flow) (SP X pins D) X.xe s4) X.xe { s' with heap := h3 } := by
          rw [hf]
          refine HandSPX.setFlight_upZ fl3 fun h4 hh4 up4 => wpAny_throw (tk _ _ ?_)
          exact ⟨a, B, sI, pins, σ', H', cls, d, rfl, J, nb, (up.trans up3).trans up4, .inr (.inr (by rw [hs]; exact hh4)), na, os, ag, w⟩
        first
          | exact wpAny_bind (wpAny_pure (wpAny_bind fin))
          | exact wpAny_bind fin
      | @cons t cs n i ts b₀ suite pos' hds2 l2 hc hi hln hsu r ih =>
        intro h3 fl3 up3 w
        have J3 : Inv X pins σ' H' { s' with heap := h3 } := J.landed nb fl3.1 (up.trans up3) os ag
        obtain ⟨oe3, vs3, he3, hz3, hd3⟩ := fl3.there
        have nfr := notFr fl3.2.2.1 he3 hd3
        have nL : a ≠ X.env.locals := fun z => nfr (List.mem_filterMap.mpr ⟨X.env, List.mem_cons_self, by rw [hf, z]⟩)
        have nF : a ∉ X.fs := fun hm => by
          obtain ⟨e, he, q⟩ := List.mem_filterMap.mp hm
          exact nfr (List.mem_filterMap.mpr ⟨e, List.mem_cons_of_mem _ he, q⟩)
        have S3 := J3.suite he3 hd3 na nL nF
        obtain ⟨b, hb1, hyes, hno⟩ := w
        have hloc : Loc X.env.scope n := .inl hln
        refine wpAny_handleBy_cons (codeAny_handlers_test ?_) (by intro q; cases q)
        have LT : PySem.W.Looks (model X.prog X.w) h3 (typeOf (.ref a)) cls := fun A Q E s k q => wpAny_typeOf_ref (k _ _ he3) (by rw [hz3.1]; exact q)
        refine hc a oe3 (X.pn ++ pins) [] σ' H' _ cls b _ _ S3 LT hb1 fun h3' k3 => ?_
        have fl3' := flying_kept fl3 k3
        have up3' : s'.heap.UpToSlots h3' := up3.trans fun b o e _ => ⟨o.slots, k3 b o e⟩
        cases b with
        | true =>
          refine codeAny_handlers_suite_as ?_
          refine HandSPX.lands_againZ fl3' fun h4 fl4 up4 => ?_
          have J4 : Inv X pins σ' H' { s' with heap := h4 } := J.landed nb fl4.1 ((up.trans up3').trans up4) os ag
          obtain ⟨oe4, vs4, he4, hz4, hd4⟩ := fl4.there
          have nfr4 := notFr fl4.2.2.1 he4 hd4
          have S4 := J4.suite he4 hd4 na nL nF
          refine store_ok (X := X.suite a ((a, oe4) :: (X.pn ++ pins))) (v := .ref a) S4 hN hi hloc rfl (fun s5 S5 => ?_) (.inr hln)
          refine wpAny_mono ((hsu a oe4 cls d (X.pn ++ pins) hz4 ⟨_, hd4⟩).run [] s5 _ H' _ S5 (hyes rfl a na)) (fun f s6 hsp => ?_) (fun _ _ z => False.elim z)
          have end_ : ∀ {σ6 : L2.St} {H6 : Hp} {Q : Shared → Prop}, Inv (X.suite a ((a, oe4) :: (X.pn ++ pins))) [] σ6 H6 s6 → (∀ s7, Inv X pins (σ6.set i none) H6 s7 → Q s7) →
              wpAny (model X.prog X.w) X.A (do bindName X.env n .none; unbindBehindTheSuite X.env n pos') (fun _ s7 => Q s7) X.xe s6 := fun {σ6 H6 Q} S6 hq => gone_ok (S6.unsuite ok) hN hi hln hq
          cases f with
          | next =>
            obtain ⟨σ6, H6, S6, q6⟩ := hsp
            exact end_ S6 fun s7 J7 => ⟨_, _, J7, q6⟩
          | brk =>
            obtain ⟨σ6, H6, S6, q6⟩ := hsp
            exact end_ S6 fun s7 J7 => ⟨_, _, J7, q6⟩
          | cont =>
            obtain ⟨σ6, H6, S6, q6⟩ := hsp
            exact end_ S6 fun s7 J7 => ⟨_, _, J7, q6⟩
          | ret u =>
            obtain ⟨v6, σ6, H6, S6, r6, q6⟩ := hsp
            exact end_ S6 fun s7 J7 => ⟨_, _, _, J7, r6, q6⟩
        | false =>
          show wpAny _ X.A (handleBy (.ref a) X.env hds2) _ _ _
          exact ih h3' fl3' up3' (hno rfl)
    exact go hh h3 fl3 up3 w
  · cases f with
    | next =>
      obtain ⟨σ', H', J', q⟩ := hsp
      exact wpAny_execs_nil ⟨σ', H', J'.ofTry ok, q⟩
    | brk =>
      obtain ⟨σ', H', J', q⟩ := hsp
      exact ⟨σ', H', J'.ofTry ok, q⟩
    | cont =>
      obtain ⟨σ', H', J', q⟩ := hsp
      exact ⟨σ', H', J'.ofTry ok, q⟩
    | ret u =>
      obtain ⟨v, σ', H', J', r, q⟩ := hsp
      exact ⟨v, σ', H', J'.ofTry ok, r, q⟩
end
end Trt

/-! The law's own def at its caller, where lambdas are made: tables of code objects that grow. -/
namespace Cal
open PySem PySem.Spec PyProof.Rows L2

/-- the tables, empty as the top left them -/
structure Tbl0 (K : W.Frag) (h : Heap) (p : Addr × Addr) : Prop where
  tab : h.get? p.2 = some (W.tabObj #[])
  out : K.lookup p.2 = none
  hd : W.CodeHd h p.1 p.2

theorem wonT {P : Program} {w : World} {K : W.Frag} {mg mb : Str → Option Value} {fa a : Addr} {s : Shared} {vs : List Value} {ns : List Int} {cs : List (Addr × Addr)}
    (kIn : K.In s.heap) (glo : s.heap.Ns mainGlobals mg) (bns : s.heap.Ns builtinsNs mb) (bbo : ∀ x : Str, x ≠ "__name__" → mb x = bootBuiltins x)
    (lim : s.heap.NoLimit) (gen : s.gens = #[]) (obj : s.heap.get? a = some { cls := .type "list", data := .seq vs.toArray })
    (its : IntsAre vs ns) (few : ns.length ≤ sizeLine) (tabs : ∀ p ∈ cs, Tbl0 K s.heap p)
    (bmain : ∃ (bm : Addr) (ob : Obj), mg "__builtins__" = some (.ref bm) ∧ bm ≠ builtinsNs ∧ s.heap.get? bm = some ob ∧ ob.cls = .type "module" ∧ ob.dict = some builtinsNs ∧ ob.data = .plain)
    (run : ∀ (base : Heap) (H : Hp), K.In base → base.Ns mainGlobals mg → (∀ p ∈ cs, LamX.TabB base mg p.1 p.2) → Env0 P w K mg base callerA [] s H → (∀ p ∈ cs, H p.2 = some (.tbl #[])) → SqL K H a (ns.map V.int) →
      codeAny (model P w) callerA (.call (.ref fa) ⟨[.ref a], []⟩) (CR CX0 [] P w H s (fun v _ => v = .bl true) E0) s) :
    Won P w s fa a := by
  have vals := vals_ints its
  have size := its.length
  have isT : ∀ b, b ∈ cs.map (·.2) → s.heap.get? b = some (W.tabObj #[]) ∧ K.lookup b = none := fun b hb => by
    obtain ⟨p, hp, rfl⟩ := List.mem_map.mp hb
    exact ⟨(tabs p hp).tab, (tabs p hp).out⟩
  have aT : a ∉ cs.map (·.2) := fun z => by
    have q := (isT a z).1
    rw [obj] at q
    exact nomatch (congrArg Obj.data (Option.some.inj q))
  -- H0: what is tracked but for the tables
  suffices main : ∀ H0 : Hp, Only H0 → (∀ b, H0 b ≠ none → b = a ∧ K.lookup a = none) → (K.lookup a = none → ∃ o, H0 a = some (.frz o (.lst (ns.map V.int)))) → (∀ b u, H0 b = some u → ObjOk P w (fun c => if c ∈ cs.map (·.2) then some (.tbl #[]) else H0 c) s.heap b u) → Won P w s fa a by
    cases look : K.lookup a with
    | some o => exact main (fun _ => none) (fun _ => .inl rfl) (fun b z => (z rfl).elim) (fun z => by rw [look] at z; cases z) (fun b u z => nomatch z)
    | none =>
      refine main (fun b => if b = a then some (.frz { cls := .type "list", data := .seq vs.toArray } (.lst (ns.map V.int))) else none) (fun b => ?_) (fun b z => ?_) (fun _ => ⟨_, if_pos rfl⟩) (fun b u z => ?_)
      · by_cases e : b = a
        · exact .inr ⟨_, _, if_pos e⟩
        · exact .inl (if_neg e)
      · by_cases e : b = a
        · exact ⟨e, look⟩
        · exact (z (if_neg e)).elim
      · by_cases e : b = a
        · rw [if_pos e] at z
          obtain rfl := Option.some.inj z
          rw [e]
          exact ⟨obj, by simpa using few, vs, _, vals, obj⟩
        · rw [if_neg e] at z
          cases z
  intro H0 only here there ok0
  generalize eH : (fun c => if c ∈ cs.map (·.2) then some (.tbl #[]) else H0 c) = H at ok0
  have inT : ∀ {b}, b ∈ cs.map (·.2) → H b = some (.tbl #[]) := fun {b} hb => by rw [← eH]; exact if_pos hb
  have offT : ∀ {b}, b ∉ cs.map (·.2) → H b = H0 b := fun {b} hb => by rw [← eH]; exact if_neg hb
  have tbl : ∀ p ∈ cs, H p.2 = some (.tbl #[]) := fun p hp => inT (List.mem_map.mpr ⟨p, hp, rfl⟩)
  have ok : HOk P w H s.heap := fun b u z => by
    by_cases hb : b ∈ cs.map (·.2)
    · rw [inT hb] at z
      obtain rfl := Option.some.inj z
      exact (isT b hb).1
    · exact ok0 b u ((offT hb).symm.trans z)
  have sq : SqL K H a (ns.map V.int) := by
    cases look : K.lookup a with
    | some o =>
      have o2 := kIn a o look
      rw [obj] at o2
      obtain rfl := Option.some.inj o2
      exact .inr ⟨_, vs.toArray, _, look, rfl, rfl, rfl, by simpa [size] using few, by simpa using vals⟩
    | none =>
      obtain ⟨o, e⟩ := there look
      exact .inl (.inr ⟨o, (offT aT).trans e⟩)
  have free : ∀ {b : Addr} {o : Obj}, s.heap.get? b = some o → o.data ≠ .seq vs.toArray → o.data ≠ .fields #[] → H b = none := fun {b o} e d d2 => by
    by_cases hb : b ∈ cs.map (·.2)
    · have := (isT b hb).1
      rw [e] at this
      obtain rfl := Option.some.inj this
      exact (d2 rfl).elim
    · rw [offT hb]
      rcases only b with z | ⟨_, _, z⟩
      · exact z
      · obtain ⟨rfl, _⟩ := here b (by rw [z]; simp)
        rw [obj] at e
        obtain rfl := Option.some.inj e
        exact (d rfl).elim
  have kfree : ∀ {b : Addr} {o : Obj}, K.lookup b = some o → H b = none := fun {b o} e => by
    by_cases hb : b ∈ cs.map (·.2)
    · rw [(isT b hb).2] at e
      cases e
    · rw [offT hb]
      rcases only b with z | ⟨_, _, z⟩
      · exact z
      · obtain ⟨rfl, n⟩ := here b (by rw [z]; simp)
        rw [n] at e
        cases e
  have space : ∀ {b : Addr} {m : Str → Option Value}, s.heap.Ns b m → (hidT s.heap H).Ns b m := fun {b m} ⟨o, es, ep, e, d, r⟩ =>
    ⟨o, es, ep, hidT_get e (free e (by rw [d]; intro z; cases z) (by rw [d]; intro z; cases z)), d, r⟩
  have kIn2 : K.In (hidT s.heap H) := fun b o e => hidT_get (kIn b o e) (kfree e)
  obtain ⟨mc, l1, l2⟩ := lim
  have env : Env0 P w K mg (hidT s.heap H) callerA [] s H := {
    frames := rfl
    mod := ⟨kIn2, space glo, ⟨mb, space bns, bbo⟩, ⟨mc, space l1, l2⟩⟩
    bs := fun b o e => of_hidT e
    bsz := Nat.le_of_eq (hidT_size _ _)
    funs := trivial
    frf := fun b hb => by simp [frs] at hb
    hok := ok
    bare := .of_eq gen }
  have TB : ∀ p ∈ cs, LamX.TabB (hidT s.heap H) mg p.1 p.2 := fun p hp => by
    have t := tabs p hp
    refine ⟨?_, ?_, fun z => ?_⟩
    · obtain ⟨o, us, file, tf, flags, tg, inF, text, tt, e1, r1, r2, r3, r⟩ := t.hd
      refine ⟨o, us, file, tf, flags, tg, inF, text, tt, hidT_get e1 (free e1 (fun z => ?_) fun z => ?_), r1, r2, r3, r⟩ <;> rw [r2] at z
      · cases z
      · cases z
        simp at r3
    · obtain ⟨bm, ob, b1, b2, b3, b4, b5, b6⟩ := bmain
      refine ⟨bm, ob, b1, b2, fun q => ?_, fun q => ?_, hidT_get b3 (free b3 (fun z => ?_) fun z => ?_), b4, b5, b6⟩
      · obtain ⟨o, es, ep, e, hd, _⟩ := glo
        rw [q, e] at b3
        cases b3
        rw [hd] at b6
        cases b6
      · rw [q, t.tab] at b3
        cases b3
        cases b6
      · rw [b6] at z
        cases z
      · rw [b6] at z
        cases z
    · obtain ⟨o, es, ep, e, hd, _⟩ := glo
      rw [z, t.tab] at e
      cases e
      cases hd
  refine codeAny_mono (run _ H kIn2 (space glo) TB env tbl sq) fun r s' z => ?_
  match r, z with
  | .error e, z => exact z.elim
  | .ok .next, z => exact z.elim
  | .ok .brk, z => exact z.elim
  | .ok .cont, z => exact z.elim
  | .ok (.ret u), ⟨v, H', os, bare, un, ok', rv, q⟩ =>
    subst q
    obtain rfl : u = Value.bool true := rv
    have stays : ∀ b o, b ∉ cs.map (·.2) → s.heap.get? b = some o → s'.heap.get? b = some o := fun b o nb e => by
      rcases only b with z | ⟨ob, xs, z⟩
      · exact un.keep b o e ((offT nb).trans z) (by simp [frs]) (by simp)
      · have z1 := (offT nb).trans z
        have y1 := (ok b _ z1).1
        have y2 := (ok' b _ (un.frzs b ob _ z1)).1
        rw [e] at y1
        obtain rfl := Option.some.inj y1
        exact y2
    have grown : ∀ p ∈ cs, ∃ more : Array Value, s'.heap.get? p.2 = some (W.tabObj more) := fun p hp => by
      obtain ⟨more, z⟩ := un.tbls p.2 #[] (tbl p hp)
      exact ⟨_, ok' p.2 _ z⟩
    refine ⟨rfl, ⟨fun b o e => ?_, fun b o e => ?_⟩, os, bare⟩ <;> by_cases hb : b ∈ cs.map (·.2)
    · obtain ⟨p, hp, rfl⟩ := List.mem_map.mp hb
      obtain ⟨more, hm⟩ := grown p hp
      rw [(tabs p hp).tab] at e
      cases e
      exact .inr (.inl ⟨((tabs p hp).hd.tab (tabs p hp).tab).isCodeTable, rfl, #[], more, rfl, by rw [Array.empty_append]; exact hm⟩)
    · exact .inl (stays b o hb e)
    · obtain ⟨p, hp, rfl⟩ := List.mem_map.mp hb
      obtain ⟨more, hm⟩ := grown p hp
      exact ⟨_, hm⟩
    · exact ⟨o, stays b o hb e⟩

/-- the goal that k_head leaves, where lambdas are made: the defs that make them by their names -/
theorem walkT {l : PySem.W.OpenLaw} {n : Nat} {q : Program} {loose : List Str} {XP : (Str → Option Value) → Heap → Prop} {YP : World → Heap → Prop} {d : DefRec} {K : Params → PySem.W.Frag} (xs : List Str)
    (most : l.most = some n) (few : n ≤ sizeLine) (dfl : d.params.defaults = []) (hY : ∀ (w : World) (h : Heap), YP w h → (K w.params).In h) (recs : ∀ x ∈ xs, ((recsOf q).find? (fun e => e.name == x)).isSome = true)
    (run : ∀ (w : World) (mg : Str → Option Value) (fa : Addr) (h : Heap), (K w.params).In h → h.Ns mainGlobals mg → mg d.name = some (.ref fa) →
      ∃ cs : List (Addr × Addr), (∀ p ∈ cs, (K w.params).lookup p.2 = none ∧ ∃ x ∈ xs, W.tabIn (K w.params) x = some p) ∧
      ∀ (s : Shared) (a : Addr) (ns : List Int) (base : Heap) (H : Hp), ns.length ≤ n → (K w.params).In base → base.Ns mainGlobals mg → (∀ p ∈ cs, LamX.TabB base mg p.1 p.2) → Env0 l.prog w (K w.params) mg base callerA [] s H → (∀ p ∈ cs, H p.2 = some (.tbl #[])) → SqL (K w.params) H a (ns.map V.int) →
        codeAny (model l.prog w) callerA (.call (.ref fa) ⟨[.ref a], []⟩) (CR CX0 [] l.prog w H s (fun v _ => v = .bl true) E0) s) :
    PySem.W.WalkO q loose XP YP l.row.toRowW d [] (fun f vs => PySem.call f vs) := by
  refine Att.attach_call most dfl fun w s₀ s₁ mg mb fa o pm cd doc a vs ns G Y ho hd hcd hmg hobj hints hlen hg => ?_
  have KX := hY w _ Y
  obtain ⟨cs, ht, go⟩ := run w mg fa _ KX G.T.g hmg
  refine wonT (cs := cs) KX G.T.g G.T.b G.T.builtins G.T.nolimit hg hobj hints (Nat.le_trans hlen few) (fun p hp => ?_) G.T.bmain fun base H b1 b2 tb e0 h0 sq => go s₁ a ns base H hlen b1 b2 tb e0 h0 sq
  obtain ⟨no, x, hx, e⟩ := ht p hp
  obtain ⟨dd, hdd⟩ := Option.isSome_iff_exists.mp (recs x hx)
  obtain ⟨c1, c2⟩ := W.tab_of (c := p.1) (P := p.2) G.T KX hdd e
  exact ⟨c2, no, c1⟩
end Cal

/-! x == y by x's own __eq__, whatever it answers -/
namespace Oeq
open PySem PySem.Spec PyProof.Rows L2
/-- what y's type is -/
inductive TyEq (H : Hp) : V → Value → Prop
  | str (s : Str) : TyEq H (.str s) (.type "str")
  | lst {a : Addr} {xs : List V} (h : H a = some (.lst xs)) : TyEq H (.ref a) (.type "list")
  | tup {a : Addr} {xs : List V} (h : H a = some (.tup xs)) : TyEq H (.ref a) (.type "tuple")
  | ins {a C dx : Addr} {fs : List (Str × V)} (h : H a = some (.ins C dx fs)) : TyEq H (.ref a) (.ref C)
theorem TyEq.looks {X : Cx} {pins : List (Addr × Obj)} {σ : L2.St} {H : Hp} {s : Shared} {y : V} {v tb : Value} (t : TyEq H y tb) (I : Inv X pins σ H s) (r : RelV y v) : PySem.W.Looks (model X.prog X.w) s.heap (typeOf v) tb := by
  cases t with
  | str z =>
    obtain ⟨t, rfl⟩ := r
    exact PySem.W.Looks.of_pure rfl
  | lst h =>
    cases r
    obtain ⟨z, its, k, r, e⟩ := I.hok _ _ h
    exact fun A Q E s k q => wpAny_typeOf_ref (k _ _ e) q
  | tup h =>
    cases r
    obtain ⟨its, r, e, z⟩ := I.tuple (X := X) (.inl (.inl h))
    obtain ⟨o, ho, hc, n, hd⟩ := e
    exact fun A Q E s k q => wpAny_typeOf_ref (k _ _ ho) (by rw [hc]; exact q)
  | ins h =>
    cases r
    obtain ⟨mB, J, _⟩ := ins_get I.hok h
    obtain ⟨od, J, _⟩ := J.look
    exact J.type
def rEqO (K : PySem.W.Frag) (C : Addr) (sp : Sp) : R2 := fun x y H Q => ∃ a dx fs tb, x = .ref a ∧ H a = some (.ins C dx fs) ∧ TyEq H y tb ∧ PySem.W.notFirst K C tb = true ∧ sp [x, y] H (fun v H' => ∃ b, v = .bl b ∧ Q (.bl b) H') E0
theorem op_eqO {X : Cx} {n : Nat} {C f : Addr} {fd : FuncData} {ps : List Str} {sp : Sp} (F : FnOk X.prog X.w X.K X.mg X.base CX0 n f fd ps sp) (hs : PySem.W.findIn X.K (.ref C) "__eq__" = some (some (.ref f))) (hf : PySem.W.isFn X.K (.ref f) = true) (hb : Binds X.K fd ps []) (hr : Room n X.A) :
    OpR X (compareOp .Eq) (rEqO X.K C sp) := by
  intro pins s σ H x y v u Q I rx ry h
  obtain ⟨a, dx, fs, tb, rfl, ha, ty, nf, q⟩ := h
  cases rx
  obtain ⟨mA, J, _⟩ := ins_get I.hok ha
  obtain ⟨od, J, _⟩ := J.look
  obtain ⟨m, hF⟩ := I.fr
  show wpAny (model X.prog X.w) X.A (richCompare .Eq (.ref a) u) _ _ _
  refine PySem.W.cmp_K (op := .Eq) (tb := tb) hr.units0 hF I.ok.mod.kin J (ty.looks I ry) nf hs hf ?_
  refine thn (run_fn (us := [.ref a, u]) (vs := [.ref a, y]) F hr hb .nil pass0 I (.cons rfl (.cons ry .nil)) q) fun w s1 z => ?_
  obtain ⟨v1, H1, I1, r1, b, rfl, q1⟩ := z
  cases r1
  exact ⟨.bl b, H1, I1, rfl, q1⟩
end Oeq

namespace Exn
open PySem PySem.Spec PyProof.Rows L2
theorem Ecl.xf {K : W.Frag} {C : Addr} {B newId initId : String} {bmB : List Value} (T : Ecl K C B newId initId bmB) : XfC K C := ⟨T.ga, T.gt, T.sub, T.hd⟩
section
variable {X : Cx} {a : Addr} {oe : Obj} {cls : Value} {d : Option Addr} {pn : List (Addr × Obj)}
/-- error.f in a suite, of whichever of the told classes the error is -/
theorem pe_errF {e : Expr} {te : TE} {pos : Pos} {n : Str} (hz : Zc cls d oe) (hf : ∃ vs, oe.data = .fields vs) (he : PE (X.suite a ((a, oe) :: pn)) e te) (hb : attributeBase e n X.env (eval e X.env) = eval e X.env := by rfl) :
    PE (X.suite a ((a, oe) :: pn)) (.Attribute e n pos) (fun σ H Q => (∃ C, cls = .ref C ∧ XfC X.K C ∧ W.findIn X.K (.ref C) n = some none) ∧
      te σ H fun x H1 => x = .ref a ∧ ∃ (dd : Addr) (fs : List (Str × V)) (v : V), d = some dd ∧ H1 dd = some (.xd fs) ∧ fs.lookup n = some v ∧ Q v H1) := by
  refine ⟨fun pins s σ H Q I h => ?_⟩
  obtain ⟨⟨C, ec, T, no⟩, h⟩ := h
  refine (pe_xf T no hz hf he hb).run pins s σ H Q I (Eq.mp (congrArg (te σ H) ?_) h)
  funext x H1
  exact propext ⟨fun ⟨e1, r⟩ => ⟨e1, ec, r⟩, fun ⟨e1, _, r⟩ => ⟨e1, r⟩⟩
/-- isinstance(error, c) in a suite -/
theorem call_isF (G : ClsGet X.K) (hz : Zc cls d oe) (hf : ∃ vs, oe.data = .fields vs) :
    CallR (X.suite a ((a, oe) :: pn)) (.builtin "isinstance") (fun xs H Q => ∃ (D : Addr) (B newId initId : String) (bmB : List Value), Ecl X.K D B newId initId bmB ∧ ∃ (c : V) (u : Value) (b : Bool) (dd : Addr) (fs : List (Str × V)), xs = [.ref a, c] ∧ ClsV c u ∧ cls = .ref D ∧ d = some dd ∧ H dd = some (.xd fs) ∧
      W.kitOne X.K (.ref D) u = some b ∧ Q (.bl b) H) := by
  intro pins s σ H xs us Q I r h
  obtain ⟨D, B, newId, initId, bmB, T, h⟩ := h
  exact call_isS T G hz hf pins s σ H xs us Q I r h
end
end Exn

/-! a def whose code object is told: it makes lambdas -/
namespace Cal
open PySem PySem.Spec PyProof.Rows L2
section
variable {P : Program} {w : World} {K : PySem.W.Frag} {mg : Str → Option Value} {base : Heap} {x qual : Str} {st : Stmt} {f c T : Addr} {fd : FuncData} {N ps : List Str}
theorem code_of {oc : Value} {od : Option Addr} {sl : Array (Option Value)} (a : W.nsIn K mainGlobals x = some (some (.ref f))) (l : K.lookup f = some ⟨oc, od, .func fd, sl⟩) (t : W.tabIn K x = some (c, T)) : fd.code = .ref c := by
  unfold W.tabIn at t
  rw [a] at t
  simp only [l] at t
  split at t
  · rename_i c2 e
    split at t
    · split at t
      · cases t
        exact e
      · cases t
    · cases t
  · cases t
theorem okC {k : Nat} {sp : Sp} (F : Fun K x qual st f fd) (hc : fd.code = .ref c) (S : FnScope N ps (defScope st)) (len : ∀ vs H Q E, sp vs H Q E → vs.length = ps.length)
    (hbody : ∀ (A : Around) (outer : List Env) (s : Shared) (H : Hp) (vs : List V) (Q : VK) (E : XK), Room k (A.deeper (envOfC qual (defScope st) s.heap.objs.size f (.ref c))) → sp vs H Q E →
      ∃ t, PSs (cxOf CX0 P w K mg base N qual (defScope st) f (.ref c) A outer s H E).nox (defBody st) t ∧ t { nx := fun _ H' => Q .non H', rt := Q } (start N vs) H) : FnOk P w K mg base CX0 (k + 1) f fd ps sp := by
  obtain ⟨oc, od, kV, doc, pm, an, cdv, ct, osl, rfl, lk, hcd⟩ := F.ex
  obtain rfl : cdv = .ref c := hc
  refine fn_of lk hcd S len fun A outer s H vs Q E hr hsp => ?_
  obtain ⟨t, h, q⟩ := hbody A outer s H vs Q E hr hsp
  exact ⟨t, h.nox, q⟩
theorem law_runC {s : Shared} {H : Hp} {us : List Value} {vs : List V} {Q : VK}
    (F : Fun K x qual st f fd) (hc : fd.code = .ref c) (S : FnScope N ps (defScope st)) (e0 : Env0 P w K mg base callerA [] s H) (bind : Binds K fd ps []) (r : Vals vs us) (hl : vs.length = ps.length)
    (body : ∃ t, PSs (cxOf CX0 P w K mg base N qual (defScope st) f (.ref c) callerA [] s H E0).nox (defBody st) t ∧ t { nx := fun _ H' => Q .non H', rt := Q } (start N vs) H) :
    codeAny (model P w) callerA (.call (.ref f) ⟨us, []⟩) (CR CX0 [] P w H s Q E0) s := by
  obtain ⟨oc, od, kV, doc, pm, an, cdv, ct, osl, rfl, lk, hcd⟩ := F.ex
  obtain rfl : cdv = .ref c := hc
  obtain ⟨t, ht, hq⟩ := body
  have keep : ∀ b o, base.get? b = some o → s.heap.get? b = some o := fun b o e => (e0.bs b o e).1
  have kIn := e0.mod.kin.keeps keep
  have ul : us.length = ps.length := by rw [← r.length]; exact hl
  have hb := bind s us kIn (by simpa using ul)
  rw [List.append_nil] at hb
  refine codeAny_call_function (by decide) (kIn _ _ lk) rfl S.co S.gen rfl (PySem.W.codeRec_of kIn hcd) (hb _ _ _ _ ?_)
  refine wpAny_newFunctionEnv_cells S.kind (fun ⟨y, v⟩ hy => ?_) fun env he s1 z => ?_
  · rcases S.par y (List.of_mem_zip hy).1 with q | q
    · exact Or.inl q
    · exact Or.inr ⟨q, PySem.W.cellsFrom_some _ _ _ (Or.inl q)⟩
  · subst he
    refine ⟨(e0.mod.nolimit.keeps keep).keeps z.toInCall.keep, codeAny_func ?_⟩
    have I : Inv (cxOf CX0 P w K mg base N qual (defScope st) f (.ref c) callerA [] s H E0) [] (start N vs) H s1 := inv_start S rfl e0 hl r z
    refine wpAny_mono (ht.nox.run [] s1 _ H _ I hq) (fun fl s' y => ?_) fun _ _ y => y
    match fl, y with
    | .ret u, ⟨v, σ', H', J, rv, q⟩ => exact ⟨v, H', J.os, J.bare, J.base, J.hok, rv, q⟩
    | .next, ⟨σ', H', J, q⟩ => exact ⟨.non, H', J.os, J.bare, J.base, J.hok, rfl, q⟩
    | .brk, ⟨_, _, _, q⟩ => exact q.elim
    | .cont, ⟨_, _, _, q⟩ => exact q.elim
end
end Cal

/-! split undoes join -/
namespace Tx
open PySem
abbrev L (s : Str) : List Nat := s.cps.toList
theorem ext {a b : Str} (h : L a = L b) : a = b := Str.ext' (Array.toList_inj.mp h)
theorem L_append (a b : Str) : L (a ++ b) = L a ++ L b := by simp [L, Str.cps_append]
theorem len_L (s : Str) : s.length = (L s).length := by simp [L, Str.length]
theorem cut_eq {c : Nat} : ∀ {a b r q : List Nat}, c ∉ a → c ∉ b → a ++ c :: r = b ++ c :: q → a = b ∧ r = q
  | [], [], _, _, _, _, h => ⟨rfl, by simpa using h⟩
  | [], y :: b, _, _, _, hb, h => by
    simp at h
    exact absurd (List.mem_cons.mpr (.inl h.1)) hb
  | x :: a, [], _, _, ha, _, h => by
    simp at h
    exact absurd (List.mem_cons.mpr (.inl h.1.symm)) ha
  | x :: a, y :: b, r, q, ha, hb, h => by
    simp at h
    obtain ⟨rfl, h⟩ := h
    obtain ⟨e1, e2⟩ := cut_eq (a := a) (b := b) (fun z => ha (List.mem_cons_of_mem _ z)) (fun z => hb (List.mem_cons_of_mem _ z)) h
    exact ⟨by rw [e1], e2⟩
theorem L_join (sep x y : Str) (r : List Str) : L (Str.join sep (x :: y :: r)) = L x ++ (L sep ++ L (Str.join sep (y :: r))) := by
  show L (x ++ sep ++ Str.join sep (y :: r)) = _
  rw [L_append, L_append, List.append_assoc]
theorem join_inj {c : Nat} : ∀ {xs ys : List Str}, xs ≠ [] → ys ≠ [] → (∀ p, p ∈ xs → c ∉ L p) → (∀ p, p ∈ ys → c ∉ L p) → Str.join ⟨#[c]⟩ xs = Str.join ⟨#[c]⟩ ys → xs = ys
  | [], _, h, _, _, _, _ => absurd rfl h
  | _ :: _, [], _, h, _, _, _ => absurd rfl h
  | [x], [y], _, _, _, _, h => by
    have h : x = y := h
    rw [h]
  | [x], y :: z :: r, _, _, hx, _, h => by
    have e : L x = L y ++ (c :: L (Str.join ⟨#[c]⟩ (z :: r))) := by
      have := congrArg L h
      rw [L_join] at this
      exact this
    exact absurd (by rw [e]; simp) (hx x (List.mem_cons_self ..))
  | x :: z :: r, [y], _, _, _, hy, h => by
    have e : L y = L x ++ (c :: L (Str.join ⟨#[c]⟩ (z :: r))) := by
      have := congrArg L h
      rw [L_join] at this
      exact this.symm
    exact absurd (by rw [e]; simp) (hy y (List.mem_cons_self ..))
  | x :: z :: r, y :: w :: q, _, _, hx, hy, h => by
    have e : L x ++ c :: L (Str.join ⟨#[c]⟩ (z :: r)) = L y ++ c :: L (Str.join ⟨#[c]⟩ (w :: q)) := by
      have := congrArg L h
      rw [L_join, L_join] at this
      exact this
    obtain ⟨e1, e2⟩ := cut_eq (hx x (List.mem_cons_self ..)) (hy y (List.mem_cons_self ..)) e
    rw [ext e1, join_inj (List.cons_ne_nil _ _) (List.cons_ne_nil _ _) (fun p hp => hx p (List.mem_cons_of_mem _ hp)) (fun p hp => hy p (List.mem_cons_of_mem _ hp)) (ext e2)]
theorem split_ne (x y : Str) : Txt.split x y ≠ [] := by
  unfold Txt.split
  split
  · exact List.cons_ne_nil _ _
  · split
    · exact List.cons_ne_nil _ _
    · rw [StrLaws.partsBetween_eq]
      obtain ⟨p, r, e⟩ := StrLaws.partsFrom_ne x y.length 0 (Builtin.Str.occurrences x y 0 x.length (x.length + 1))
      rw [e]
      exact List.cons_ne_nil _ _
/-- split undoes join, where no part has the sign -/
theorem split_join {c : Nat} {xs : List Str} (ne : xs ≠ []) (h : ∀ p, p ∈ xs → c ∉ L p) : Txt.split (Txt.join ⟨#[c]⟩ xs) ⟨#[c]⟩ = xs := by
  refine join_inj (split_ne _ _) ne (fun p hp => StrLaws.split_free _ c p hp) h ?_
  rw [StrLaws.join_split]
  exact StrLaws.glued_eq_join _ _
theorem split_len {c : Nat} {s : Str} : ∀ p, p ∈ Txt.split s ⟨#[c]⟩ → p.length ≤ s.length := by
  intro p hp
  have e := StrLaws.join_split s ⟨#[c]⟩
  have key : ∀ (xs : List Str), p ∈ xs → p.length ≤ (Str.join ⟨#[c]⟩ xs).length := by
    intro xs
    induction xs with
    | nil => intro h; cases h
    | cons x xs ih =>
      intro h
      cases xs with
      | nil =>
        obtain rfl := List.mem_singleton.mp h
        exact Nat.le_refl _
      | cons y r =>
        rw [len_L (Str.join _ _), L_join]
        simp only [List.length_append]
        rcases List.mem_cons.mp h with rfl | z
        · rw [len_L]; omega
        · have := ih z
          rw [len_L (Str.join _ _)] at this
          omega
  rw [← e]
  exact key _ hp
end Tx

/-! what the written part says of own exception classes, of own classes, of constant tuples of words -/
namespace Fx
open PySem PySem.Spec PyProof.Rows L2
open Exn Keys
def clsB (K : W.Frag) (C : Addr) (bm : List Value) (newId : String) (f : Str) : Bool :=
  W.excInitIn K C bm newId && W.excOver K C bm && decide (W.findIn K (.ref C) "__setattr__" = some (some (.builtin "object.__setattr__"))) &&
  decide (W.findIn K (.ref C) "__getattribute__" = some (some (.builtin "BaseException.__getattribute__"))) && decide (W.findIn K (.ref C) "__getattr__" = some none) && W.hasDictIn K C &&
  decide (W.subIn K (.ref C) (.type "BaseException") = some true) && decide (W.findIn K (.ref C) "__class__" = some (some (.builtin "object.__class__"))) && decide (W.mroIn K C (.type "object") = some true) &&
  W.keepIn K (.ref C) && decide (W.findIn K (.ref C) f = some none) && decide (W.typeIn K (.ref C) = some (.type "type"))
theorem ecl_of {K : W.Frag} {C : Addr} {bm : List Value} {B newId initId : String} {f : Str} (h : clsB K C bm newId f = true) (hb : ∃ bm', ExcBaseFacts B newId initId bm') (ht : Tail bm B) (hs : ∃ B', StoreFacts B' bm "object.__setattr__" "object") :
    Ecl K C B newId initId bm ∧ W.findIn K (.ref C) f = some none ∧ W.typeIn K (.ref C) = some (.type "type") := by
  unfold clsB at h
  simp only [Bool.and_eq_true, decide_eq_true_eq] at h
  obtain ⟨⟨⟨⟨⟨⟨⟨⟨⟨⟨⟨h1, h2⟩, h3⟩, h4⟩, h5⟩, h6⟩, h7⟩, h8⟩, h9⟩, h10⟩, h11⟩, h12⟩ := h
  exact ⟨⟨hb, ht, hs, h1, h2, h3, h4, h5, h6, h7, h8, h9, h10⟩, h11, h12⟩
/-- the text of an __init__ that keeps one thing -/
structure InitTxt (st : Stmt) (f : Str) : Prop where
  body : ∃ p1 p2 p3 p4, defBody st = [.Assign [.Attribute (.Name "self" p1) f p2] (.Name f p3) p4]
  sc : FnScope ["self", f] ["self", f] (defScope st)
  v0 : Vis (defScope st) "self"
  v1 : Vis (defScope st) f
  n1 : (f == ("__debug__" : Str)) = false
  n2 : (f == ("__classdict__" : Str)) = false
  bp : ∀ (qual : Str) (kV doc pm : Value) (an : Option Addr) (cdv ct a u : Value), bindArgs (W.fnOf "__init__" qual (defArgs st) (defBody st) (defScope st) .none kV doc pm an cdv ct) ⟨[a, u], []⟩ = pure [(("self" : Str), a), (f, u)]
  bk : ∀ (qual : Str) (kV doc pm : Value) (an : Option Addr) (cdv ct a u : Value), bindArgs (W.fnOf "__init__" qual (defArgs st) (defBody st) (defScope st) .none kV doc pm an cdv ct) ⟨[a], [(f, u)]⟩ = pure [(("self" : Str), a), (f, u)]
theorem exE : ∃ bm', ExcBaseFacts "Exception" "Exception.__new__" "Exception.__init__" bm' := ⟨_, PySem.F.excBase_Exception⟩
theorem exS : ∃ B', StoreFacts B' exTail "object.__setattr__" "object" := ⟨_, PySem.F.store_Exception⟩
theorem keE : ∃ bm', ExcBaseFacts "LookupError" "LookupError.__new__" "LookupError.__init__" bm' := ⟨_, PySem.F.excBase_LookupError⟩
theorem keS : ∃ B', StoreFacts B' keyTail "object.__setattr__" "object" := ⟨_, store_KeyError⟩
section
variable {P : Program} {w : World} {K : W.Frag} {h : Heap} {mg : Str → Option Value} {base : Heap}
theorem cl1_mk {x : Str} {C fI : Addr} {f qual : Str} {st : Stmt} {bm : List Value} {B newId initId : String} {oc kV doc pm cdv ct : Value} {od an : Option Addr} {sl : Array (Option Value)} (X : K.In h) (G : h.Ns mainGlobals mg)
    (aC : W.nsIn K mainGlobals x = some (some (.ref C))) (cb : clsB K C bm newId f = true) (iC : W.findIn K (.ref C) "__init__" = some (some (.ref fI))) (tI : W.typeIn K (.ref fI) = some (.type "function"))
    (l : K.lookup fI = some ⟨oc, od, .func (W.fnOf "__init__" qual (defArgs st) (defBody st) (defScope st) .none kV doc pm an cdv ct), sl⟩) (c : W.codeIn K cdv qual = true) (kI : W.keepIn K (.ref fI) = true)
    (ke : InitTxt st f) (hb : ∃ bm', ExcBaseFacts B newId initId bm') (ht : Tail bm B) (hs : ∃ B', StoreFacts B' bm "object.__setattr__" "object") : Cl1 P w K mg base x C f B newId initId bm := by
  obtain ⟨E, no, ty⟩ := ecl_of (initId := initId) cb hb ht hs
  obtain ⟨p1, p2, p3, p4, hB⟩ := ke.body
  have F := fun_mk (st := st) l c kI
  exact ⟨E, no, W.mg_of X G aC, ty, fI, _, iC, tI, ok_keep F E no hB ke.sc ke.v0 ke.v1 ke.n1 ke.n2, fun s a u => .of_eq (ke.bp ..), fun s a u => .of_eq (ke.bk ..)⟩
end
/-- what the written part says of an own class whose objects keep what they are given: its attributes fs -/
def ownB (K : W.Frag) (C : Addr) (fs : List Str) : Bool :=
  W.plainGet K C Str.empty && W.hasDictIn K C && W.plainOver K C && decide (W.findIn K (.ref C) "__setattr__" = some (some (.builtin "object.__setattr__"))) && W.makesIn K C && W.keepIn K (.ref C) &&
  decide (W.findIn K (.ref C) "__class__" = some (some (.builtin "object.__class__"))) && decide (W.specialIn K (.builtin "object.__class__") "__get__" = some (some (.builtin "getset_descriptor.__get__"))) &&
  decide (W.takesIn K (.builtin "object.__class__") = some true) && decide (W.mroIn K C (.type "object") = some true) && decide (W.kitOne K (.ref C) (.ref C) = some true) &&
  decide (W.specialIn K (.ref C) "__getattribute__" = some (some (.builtin "type.__getattribute__"))) && W.readsIn K C (.type "type") && fs.all fun f => decide (W.findIn K (.ref C) f = some none)
structure Own (K : W.Frag) (C : Addr) (fs : List Str) : Prop where
  cl : Cls K C
  makes : W.makesIn K C = true
  kp : W.keepIn K (.ref C) = true
  ty : ∀ (H : Hp) (a dx : Addr) (gs : List (Str × V)), H a = some (.ins C dx gs) → TyX K H (.ref a) (.ref C)
  self : W.kitOne K (.ref C) (.ref C) = some true
  cg : ClsGet K
  rd : ClX.CRead K C (.type "type")
  no : ∀ f, f ∈ fs → NoAttr K C f
theorem own_of {K : W.Frag} {C : Addr} {fs : List Str} (h : ownB K C fs = true) : Own K C fs := by
  unfold ownB at h
  simp only [Bool.and_eq_true, decide_eq_true_eq] at h
  obtain ⟨⟨⟨⟨⟨⟨⟨⟨⟨⟨⟨⟨⟨h1, h2⟩, h3⟩, h4⟩, h5⟩, h6⟩, h7⟩, h8⟩, h9⟩, h10⟩, h11⟩, h12⟩, h13⟩, h14⟩ := h
  have cl : Cls K C := ⟨h1, h2, h3, h4⟩
  exact ⟨cl, h5, h6, fun H a dx gs e => .base (.ins e cl h7 h8 h9 h10), h11, ⟨h8, h9⟩, ⟨h13, h12⟩, fun f hf => show W.findIn K (.ref C) f = some none from of_decide_eq_true (List.all_eq_true.mp h14 f hf)⟩
def strOf : Value → Option Str
  | .str s _ => some s
  | _ => none
theorem vals_strs : ∀ {us : List Value} {xs : List Str}, us.map strOf = xs.map some → Vals (xs.map V.str) us
  | [], [], _ => .nil
  | [], _ :: _, h => by cases h
  | _ :: _, [], h => by cases h
  | u :: us, x :: xs, h => by
    simp only [List.map_cons, List.cons.injEq] at h
    obtain ⟨h1, h2⟩ := h
    refine .cons ?_ (vals_strs h2)
    cases u <;> first | (cases h1; exact ⟨_, rfl⟩) | cases h1
/-- the module's name x holds a tuple of these words -/
def wordsB (K : W.Frag) (x : Str) (xs : List Str) : Bool := match W.nsIn K mainGlobals x with
  | some (some (.ref a)) => (match K.lookup a with
    | some ⟨.type t, _, .seq its _, _⟩ => decide (t = "tuple") && decide (its.toList.map strOf = xs.map some) && decide (its.size ≤ 1000)
    | _ => false)
  | _ => false
theorem words_of {K : W.Frag} {h : Heap} {mg : Str → Option Value} {x : Str} {xs : List Str} (X : K.In h) (G : h.Ns mainGlobals mg) (b : wordsB K x xs = true) : ∃ a, mg x = some (.ref a) ∧ ∀ H, SqT K H a (xs.map V.str) := by
  unfold wordsB at b
  split at b
  · rename_i a ha
    split at b
    · rename_i t d its n sl hl
      simp only [Bool.and_eq_true, decide_eq_true_eq] at b
      obtain ⟨⟨rfl, e⟩, sz⟩ := b
      refine ⟨a, W.mg_of X G ha, fun H => .inr ⟨_, its, n, hl, rfl, rfl, ?_, vals_strs e⟩⟩
      have : (1000 : Nat) ≤ sizeLine := by decide
      omega
    · cases b
  · cases b
end Fx

namespace K17
open PySem PySem.Spec PyProof.Rows L2
open Cal EnuT
def top (i : Nat) : Stmt := PySem.Challenge.pw_lightsout_k17_plans_and_their_texts.main.body.getD i (.Pass ⟨0, 0, 0, 0⟩)
abbrev sIsSeq : Stmt := top 1
abbrev sIsName : Stmt := top 2
abbrev sIsDeed : Stmt := top 11
abbrev sReadDeeds : Stmt := top 12
abbrev sPlan : Stmt := top 13
abbrev sAsked : Stmt := top 14
abbrev sDealt : Stmt := top 16
abbrev sAny : Stmt := top 17
abbrev sOf : Stmt := top 18
abbrev sDeeds : Stmt := top 19
abbrev sRefused : Stmt := top 20
abbrev sWrong : Stmt := top 21
abbrev sTexts : Stmt := top 22
abbrev sLaw : Stmt := top 23
/-- a def by its name in the module -/
def Callee (P : Program) (w : World) (K : W.Frag) (mg : Str → Option Value) (base : Heap) (x : Str) (k : Nat) (ps : List Str) (sp : Sp) : Prop :=
  ∃ f fd, mg x = some (.ref f) ∧ W.keepIn K (.ref f) = true ∧ Binds K fd ps [] ∧ FnOk P w K mg base CX0 k f fd ps sp
theorem pe_callee {X : Cx} {x : Str} {k : Nat} {ps : List Str} {sp : Sp} {p pos : Pos} {e : Expr} {es : List Expr} {t : TA} (c : Callee X.prog X.w X.K X.mg X.base x k ps sp) (hr : Room k X.A) (hg : Gl X x) (ha : PA X (e :: es) t)
    (hdb : (x == ("__debug__" : Str)) = false := by decide) (he : starEach (e :: es) X.env = (false, eval e X.env) :: starEach es X.env := by rfl) (hpl : (backTo pos (starEach es X.env)).any (·.1) = false := by rfl) :
    PE X (.Call (.Name x p) (e :: es) [] pos) (tCall sp [] E0 t) := by
  obtain ⟨f, fd, m, kp, b, F⟩ := c
  exact pe_call F hr hg m kp b .nil pass0 ha hdb he hpl
theorem map_eraseIdx {α β : Type} (f : α → β) : ∀ (xs : List α) (j : Nat), (xs.map f).eraseIdx j = (xs.eraseIdx j).map f
  | [], _ => rfl
  | _ :: _, 0 => rfl
  | x :: xs, j + 1 => by simp [map_eraseIdx f xs j]
theorem erase_perm {α : Type} : ∀ (l : List α) (j : Nat) (h : j < l.length), (l[j] :: l.eraseIdx j).Perm l
  | x :: xs, 0, _ => .refl _
  | x :: xs, j + 1, h => by
    have h1 : j < xs.length := by simpa using h
    show (xs[j] :: x :: xs.eraseIdx j).Perm (x :: xs)
    exact (List.Perm.swap x xs[j] _).trans ((erase_perm xs j h1).cons x)
theorem same_upd {H : Hp} {l : Addr} {o : HO} (n : H l = none) : Same H (upd H l o) := fun b u e => by
  rw [upd_ne (ne_of_none e n)]
  exact e
theorem none_of_upd {H : Hp} {a b : Addr} {o : HO} (h : upd H a o b = none) : H b = none ∧ a ≠ b := by
  by_cases z : b = a
  · rw [z, upd_same] at h
    cases h
  · rw [upd_ne z] at h
    exact ⟨h, Ne.symm z⟩


structure Bl (mg : Str → Option Value) : Prop where
  len : mg "len" = none
  abs : mg "abs" = none
  int : mg "int" = none
  range : mg "range" = none
  list : mg "list" = none
  tuple : mg "tuple" = none
  isi : mg "isinstance" = none
  enu : mg "enumerate" = none
  str : mg "str" = none
  all : mg "all" = none
  repr : mg "repr" = none
theorem kept {σ : L2.St} {H : Hp} {A B : Hp → Prop} (h : A H) : tYes σ H (fun b H3 => if b = true then A H3 else B H3) := by
  show (if true = true then A H else B H)
  rw [if_pos rfl]
  exact h
/-- the deal at p, its great numbers at q -/
structure Deal (H : Hp) (p q : Addr) : Prop where
  ne : p ≠ q
  ex : ∃ (ns : List Int) (b : Int), H p = some (.lst [.ref q, .int b]) ∧ H q = some (.lst (ns.map V.int)) ∧ (∀ n, n ∈ ns → 0 ≤ n) ∧ ns.length ≤ 48 ∧ 0 ≤ b
/-- all but the deal is as it was -/
def But2 (p q : Addr) (H H' : Hp) : Prop := ∀ b o, b ≠ p → b ≠ q → H b = some o → H' b = some o
theorem Deal.same {H H' : Hp} {p q : Addr} (d : Deal H p q) (s : Same H H') : Deal H' p q := by
  obtain ⟨ne, ns, b, hp, hq, r⟩ := d
  exact ⟨ne, ns, b, s _ _ hp, s _ _ hq, r⟩
theorem But2.same {p q : Addr} {H0 H H' : Hp} (b : But2 p q H0 H) (s : Same H H') : But2 p q H0 H' := fun c o n1 n2 e => s _ _ (b c o n1 n2 e)
theorem But2.trans {p q : Addr} {H0 H H' : Hp} (b : But2 p q H0 H) (s : But2 p q H H') : But2 p q H0 H' := fun c o n1 n2 e => s _ _ n1 n2 (b c o n1 n2 e)
theorem But2.upd1 {p q : Addr} {H0 H : Hp} {o : HO} (b : But2 p q H0 H) : But2 p q H0 (upd H p o) := fun c u n1 n2 e => by
  rw [upd_ne n1]
  exact b c u n1 n2 e
theorem But2.upd2 {p q : Addr} {H0 H : Hp} {o : HO} (b : But2 p q H0 H) : But2 p q H0 (upd H q o) := fun c u n1 n2 e => by
  rw [upd_ne n2]
  exact b c u n1 n2 e
def spAny : Sp := fun vs H Q _ => ∃ (p q : Addr) (m : Int), vs = [.ref p, .int m] ∧ Deal H p q ∧ 1 ≤ m ∧ m ≤ 1000 ∧ ∀ (r : Int) H', 0 ≤ r → r < m → But2 p q H H' → Deal H' p q → Q (.int r) H'
def spOf : Sp := fun vs H Q _ => ∃ (p q l : Addr) (xs : List V), vs = [.ref p, .ref l] ∧ Deal H p q ∧ l ≠ p ∧ l ≠ q ∧ H l = some (.lst xs) ∧ 1 ≤ xs.length ∧ xs.length ≤ 1000 ∧ ∀ x H', x ∈ xs → But2 p q H H' → Deal H' p q → Q x H'
/-- no number here is 0 at its end -/
theorem dps_int {K : W.Frag} {H : Hp} : ∀ xs : List Int, DpAll K H (xs.map V.int) (xs.map PyData.int)
  | [] => .nil
  | _ :: xs => .cons (.int _) (dps_int xs)
theorem shaped_ints (xs : List Int) : SeqAt.shaped (.list (xs.map PyData.int)) = true := by
  have h : PyData.canLayAll0 (xs.map PyData.int) = true ∧ PyData.depthAll (xs.map PyData.int) ≤ 1 := by
    induction xs with
    | nil => simp [PyData.canLayAll0, PyData.depthAll]
    | cons x xs ih =>
      simp [PyData.canLayAll0, PyData.canLay0, PyData.depthAll, PyData.depth, ih.1]
      omega
  simp [SeqAt.shaped, PyData.canLay0, PyData.depth, h.1]
  omega
theorem ne_nil (xs : List Int) : (!PyData.eqv (.list (xs.map PyData.int)) (.list [])) = !xs.isEmpty := by cases xs <;> rfl
def lenAt (a : Addr) (H : Hp) : Nat := match H a with
  | some (.lst xs) => xs.length
  | _ => 0
theorem while_by2 {c : TT} {tb : TS} {D : Ends} {σ : L2.St} {H : Hp} (Pv : L2.St → Hp → Prop) (μ : L2.St → Hp → Nat) (h0 : Pv σ H)
    (hs : ∀ σ H, Pv σ H → c σ H fun b H1 => if b = true then tb { nx := fun σ' H' => Pv σ' H' ∧ μ σ' H' < μ σ H, rt := D.rt, bk := D.nx, ct := fun σ' H' => Pv σ' H' ∧ μ σ' H' < μ σ H } σ H1 else Pv σ H1)
    (mono : ∀ σ H (Q Q' : Bool → Hp → Prop), (∀ b H1, Q b H1 → Q' b H1) → c σ H Q → c σ H Q') (hd : ∀ σ H, Pv σ H → D.nx σ H) : tWhile c tb D σ H := by
  refine while_by Pv μ h0 (fun σ H p => mono σ H _ _ (fun b H1 q => ?_) (hs σ H p)) mono
  cases b with
  | true => exact q
  | false => exact hd _ _ q
section
variable {P : Program} {w : World} {K : W.Frag} {mg : Str → Option Value} {base : Heap}
theorem scAny : FnScope ["_law_deal", "_law_bound", "_law_rest"] ["_law_deal", "_law_bound"] (defScope sAny) := ⟨rfl, rfl, rfl, by decide +kernel, rfl, by decide +kernel, by decide +kernel⟩
theorem ok_any {f : Addr} {fd : FuncData} (F : Fun K "_law_any" "_law_any" sAny f fd) (B : Bl mg) : FnOk P w K mg base CX0 1 f fd ["_law_deal", "_law_bound"] spAny := by
  refine F.ok scAny (fun vs H Q E h => ?_) (fun cdv A outer s H vs Q E hr h => ?_)
  · obtain ⟨p, q, m, rfl, _⟩ := h
    rfl
  · obtain ⟨p, q, m, rfl, dl, m1, m2, k⟩ := h
    have un := hr.units
    refine ⟨_, pss_cons (ps_while PassesOwn.never (PW.pt (pw_and (pt_cmpR (op_neD un) (pe_ix ix_list (pv 0) pe_int (fun _ _ => rfl)) (pe_lst pa_nil) (nomark _)) (pw_and1 (pt_cmpR op_eq (pe_ix ix_list (pe_ix ix_list (pv 0) pe_int (fun _ _ => rfl)) (pe_un un_neg pe_int) (fun _ _ => rfl)) pe_int (nomark _)))))
        (pss_one (ps_expr (pe_bm0 PySem.F.plainAttrs_list PySem.F.slot_list_pop PySem.F.type_list_pop mt_pop (pe_ix ix_list (pv 0) pe_int (fun _ _ => rfl))))))
      (pss_cons (ps_if (pt_cmpR (op_neD un) (pe_ix ix_list (pv 0) pe_int (fun _ _ => rfl)) (pe_lst pa_nil) (nomark _))
        (pss_cons (ps_set (i := 2) scAny.nd rfl (Or.inl rfl) (pe_callTy call_int1 (by rfl) B.int (by decide +kernel) (pa_cons (pe_bm0 PySem.F.plainAttrs_list PySem.F.slot_list_pop PySem.F.type_list_pop mt_pop (pe_ix ix_list (pv 0) pe_int (fun _ _ => rfl))) pa_nil)))
        (pss_cons (ps_expr (pe_bm PySem.F.plainAttrs_list PySem.F.slot_list_append PySem.F.type_list_append mt_append (pe_ix ix_list (pv 0) pe_int (fun _ _ => rfl)) (pa_cons (pe_op op_fdiv (pv 2) (pv 1)) pa_nil)))
        (pss_one (ps_ret (pe_op op_mod (pv 2) (pv 1)))))) pss_nil)
      (pss_cons (ps_asg (pe_op op_mod (pe_callTy call_int1 (by rfl) B.int (by decide +kernel) (pa_cons (pe_op op_add (pe_op op_mul (pe_ix ix_list (pv 0) pe_int (fun _ _ => rfl)) pe_int) pe_int) pa_nil)) pe_int) (pg_sub (pv 0) pe_int set_list))
      (pss_one (ps_ret (pe_op op_mod (pe_callTy call_int1 (by rfl) B.int (by decide +kernel) (pa_cons (pe_op op_fdiv (pe_ix ix_list (pv 0) pe_int (fun _ _ => rfl)) pe_int) pa_nil)) (pv 1)))))), ?_⟩
    obtain ⟨pq, ns, b, hp, hq, pos, few, b0⟩ : p ≠ q ∧ _ := ⟨dl.ne, dl.ex⟩
    refine while_by2 (fun σ H' => σ = [some (.ref p), some (.int m), none] ∧ But2 p q H H' ∧ Deal H' p q) (fun _ H' => lenAt q H') ⟨rfl, fun _ _ _ _ e => e, dl⟩ ?_ ?_ ?_
    · rintro σ H1 ⟨rfl, b1, pq, ns, b, hp, hq, pos, few, b0⟩
      refine ⟨_, rfl, p, _, _, .ref q, rfl, rfl, SqL.of hp, atI_nat (j := 0) rfl, Nat.zero_le _, fun l nl => ?_⟩
      have s1 : Same H1 (upd H1 l (.lst [])) := same_upd nl
      refine ⟨.list (ns.map PyData.int), .list [], .lst (SqL.of (s1 _ _ hq)) (dps_int ns), .lst (SqL.of upd_same) .nil, shaped_ints ns, rfl, _, rfl, ?_⟩
      rcases List.eq_nil_or_concat ns with rfl | ⟨ms, z, rfl⟩
      · exact iteF ⟨rfl, b1.same s1, pq, [], b, s1 _ _ hp, s1 _ _ hq, pos, few, b0⟩
      · rw [show (!PyData.eqv (.list ((ms.concat z).map PyData.int)) (.list [])) = true by rw [ne_nil]; cases ms <;> rfl]
        have hq' : upd H1 l (.lst []) q = some (.lst (ms.map V.int ++ [.int z])) := by
          rw [s1 _ _ hq, List.concat_eq_append, List.map_append]
          rfl
        refine iteT ⟨_, rfl, p, _, _, .ref q, rfl, rfl, SqL.of (s1 _ _ hp), atI_nat (j := 0) rfl, 1, rfl, q, _, _, .int z, rfl, rfl, SqL.of hq', atI_last _ _, rfl, _, rfl, ?_⟩
        refine ite2 (fun hz => ?_) (fun hz => ?_)
        · refine ⟨_, rfl, p, _, _, .ref q, rfl, rfl, SqL.of (s1 _ _ hp), atI_nat (j := 0) rfl, .inl ⟨rfl, _, SqL.of hq'⟩, q, _, .int z, rfl, rfl, hq', by simp, ?_⟩
          rw [List.dropLast_concat]
          refine ⟨⟨rfl, (b1.same s1).upd2, pq, ms, b, (upd_ne pq).trans (s1 _ _ hp), upd_same, fun n hn => pos n (by simp [hn]), by simp at few; omega, b0⟩, ?_⟩
          show lenAt q _ < lenAt q H1
          have e1 : lenAt q H1 = ms.length + 1 := by
            unfold lenAt
            rw [hq]
            simp
          rw [e1]
          unfold lenAt
          rw [upd_same]
          simp
        · exact ⟨rfl, b1.same s1, pq, ms.concat z, b, s1 _ _ hp, s1 _ _ hq, pos, few, b0⟩
    · rintro σ H1 Q1 Q2 m ⟨v0, hv0, p1, xs1, i1, v1, e1, e2, sq1, at1, zl, h2⟩
      refine ⟨v0, hv0, p1, xs1, i1, v1, e1, e2, sq1, at1, zl, fun l nl => ?_⟩
      obtain ⟨d, e, a1, a2, a3, a4, c, hc, q⟩ := h2 l nl
      refine ⟨d, e, a1, a2, a3, a4, c, hc, ?_⟩
      revert q
      cases c with
      | false => exact fun q => iteF (m _ _ q)
      | true =>
        intro q
        obtain ⟨v2, hv2, p2, xs2, i2, v3, e3, e4, sq2, at2, j, ej, p3, xs3, i3, v4, e5, e6, sq3, at3, hsc, c2, hc2, q⟩ := q
        exact iteT ⟨v2, hv2, p2, xs2, i2, v3, e3, e4, sq2, at2, j, ej, p3, xs3, i3, v4, e5, e6, sq3, at3, hsc, c2, hc2, m _ _ q⟩
    · rintro σ H1 ⟨rfl, b1, pq, ns, b, hp, hq, pos, few, b0⟩
      refine ⟨_, rfl, p, _, _, .ref q, rfl, rfl, SqL.of hp, atI_nat (j := 0) rfl, Nat.zero_le _, fun l nl => ?_⟩
      have s1 : Same H1 (upd H1 l (.lst [])) := same_upd nl
      refine ⟨.list (ns.map PyData.int), .list [], .lst (SqL.of (s1 _ _ hq)) (dps_int ns), .lst (SqL.of upd_same) .nil, shaped_ints ns, rfl, _, rfl, ?_⟩
      rcases List.eq_nil_or_concat ns with rfl | ⟨ms, z, rfl⟩
      · refine iteF ?_
        have hp1 := s1 _ _ hp
        refine ⟨_, rfl, p, _, _, .int b, rfl, rfl, SqL.of hp1, atI_nat (j := 1) rfl, _, _, rfl, rfl, .inr ⟨by decide, by decide⟩, _, _, rfl, rfl, .inl ⟨_, rfl, _, _, rfl, rfl, by show (0 : Int) < 2147483647; decide, ?_⟩⟩
        refine ⟨_, rfl, p, _, _, 1, rfl, rfl, hp1, rfl, ?_⟩
        refine ⟨_, rfl, p, _, _, .int _, rfl, rfl, SqL.of upd_same, atI_nat (j := 1) rfl, _, _, rfl, rfl, ⟨by decide, by decide⟩, .inl ⟨_, rfl, _, rfl, _, _, rfl, rfl, by show 0 < m; omega, ?_⟩⟩
        refine k _ _ (Int.emod_nonneg _ (by omega)) (Int.emod_lt_of_pos _ (by omega)) (b1.same s1).upd1 ⟨pq, [], _, upd_same, ?_, fun _ z => (nomatch z), by decide, ?_⟩
        · rw [upd_ne (Ne.symm pq)]
          exact s1 _ _ hq
        · exact Int.emod_nonneg _ (by decide)
      · rw [show (!PyData.eqv (.list ((ms.concat z).map PyData.int)) (.list [])) = true by rw [ne_nil]; cases ms <;> rfl]
        have hq' : upd H1 l (.lst []) q = some (.lst (ms.map V.int ++ [.int z])) := by
          rw [s1 _ _ hq, List.concat_eq_append, List.map_append]
          rfl
        have hp1 := s1 _ _ hp
        have z0 : 0 ≤ z := pos z (by simp)
        refine iteT ⟨_, rfl, p, _, _, .ref q, rfl, rfl, SqL.of hp1, atI_nat (j := 0) rfl, .inl ⟨rfl, _, SqL.of hq'⟩, q, _, .int z, rfl, rfl, hq', by simp, ?_⟩
        rw [List.dropLast_concat]
        have hp2 : upd (upd H1 l (.lst [])) q (.lst (ms.map V.int)) p = some (.lst [.ref q, .int b]) := (upd_ne pq).trans hp1
        refine .inl ⟨_, rfl, _, rfl, p, _, _, .ref q, rfl, rfl, SqL.of hp2, atI_nat (j := 0) rfl, .inl ⟨rfl, _, SqL.of upd_same⟩, _, rfl, _, rfl, _, _, rfl, rfl, ⟨by show 0 < m; omega, by show m < 1073741824; omega⟩, q, _, _, rfl, rfl, upd_same, ?_, ?_⟩
        · have : (100 : Nat) ≤ sizeLine := by decide
          rw [List.length_map]
          simp at few
          omega
        · refine ⟨_, rfl, _, rfl, _, _, rfl, rfl, by show 0 < m; omega, ?_⟩
          refine k _ _ (Int.emod_nonneg _ (by omega)) (Int.emod_lt_of_pos _ (by omega)) (b1.same s1).upd2.upd2 ⟨pq, ms ++ [z / m], b, (upd_ne pq).trans hp2, ?_, ?_, ?_, b0⟩
          · rw [upd_same, List.map_append]
            rfl
          · intro n hn
            rcases List.mem_append.mp hn with y | y
            · exact pos n (by simp [y])
            · obtain rfl := List.mem_singleton.mp y
              exact Int.ediv_nonneg z0 (by omega)
          · simp at few ⊢
            omega
theorem scOf : FnScope ["_law_deal", "_law_some"] ["_law_deal", "_law_some"] (defScope sOf) := ⟨rfl, rfl, rfl, by decide +kernel, rfl, by decide +kernel, by decide +kernel⟩
theorem ok_of {f : Addr} {fd : FuncData} (F : Fun K "_law_of" "_law_of" sOf f fd) (B : Bl mg) (An : Callee P w K mg base "_law_any" 1 ["_law_deal", "_law_bound"] spAny) : FnOk P w K mg base CX0 2 f fd ["_law_deal", "_law_some"] spOf := by
  refine F.ok scOf (fun vs H Q E h => ?_) (fun cdv A outer s H vs Q E hr h => ?_)
  · obtain ⟨p, q, l, xs, rfl, _⟩ := h
    rfl
  · obtain ⟨p, q, l, xs, rfl, dl, lp, lq, hl, l1, l2, k⟩ := h
    refine ⟨_, pss_one (ps_ret (pe_ix ix_list (pv 1) (pe_callee An hr rfl (pa_cons (pv 0) (pa_cons (pe_callB call_len_seq (by rfl) B.len PySem.boot_len (pa_cons (pv 1) pa_nil)) pa_nil))) (fun _ _ => rfl))), ?_⟩
    refine ⟨_, rfl, _, rfl, _, rfl, l, _, rfl, .inl (SqL.of hl), p, q, _, rfl, dl, by omega, by omega, fun r H' r0 r1 but dl' => ?_⟩
    obtain ⟨j, rfl⟩ : ∃ j : Nat, r = (j : Int) := ⟨r.toNat, by omega⟩
    have hj : j < xs.length := by omega
    exact ⟨l, xs, _, xs[j], rfl, rfl, SqL.of (but _ _ lp lq hl), atI_nat (by simp [hj]), k _ _ (List.getElem_mem hj) but dl'⟩
end
end K17

namespace K17
open PySem PySem.Spec PyProof.Rows L2
open Cal EnuT

def spDealt (K : W.Frag) : Sp := fun vs H Q _ => ∃ (a : Addr) (ns : List Int), vs = [.ref a, .int 17] ∧ SqL K H a (ns.map V.int) ∧ ns.length ≤ 63 ∧ ∀ H' p q, Same H H' → H p = none → H q = none → Deal H' p q → Q (.ref p) H'
/-- the numbers that count, as they are, and the great ones -/
def great (ns : List Int) : List Int := ns.filter fun n => decide ((10 : Int) ^ (18 : Int).toNat ≤ n)
theorem cut_most (xs : List V) : (cutV xs none (some 48)).length ≤ 48 ∧ ∀ x, x ∈ cutV xs none (some 48) → x ∈ xs := by
  refine ⟨?_, fun x hx => List.mem_of_mem_drop (List.mem_of_mem_take hx)⟩
  unfold cutV HT.sIx
  simp only []
  rw [if_neg (by decide), List.length_take]
  have : min (48 : Int).toNat xs.length ≤ 48 := Nat.min_le_left _ _
  omega
section
variable {P : Program} {w : World} {K : W.Frag} {mg : Str → Option Value} {base : Heap}
theorem scDt : FnScope ["_law_script", "_law_base", "_law_cell", "_law_cells", "_law_blend"] ["_law_script", "_law_base"] (defScope sDealt) := ⟨rfl, rfl, rfl, by decide +kernel, rfl, by decide +kernel, by decide +kernel⟩
theorem ok_dealt {f : Addr} {fd : FuncData} (F : Fun K "_law_dealt" "_law_dealt" sDealt f fd) (B : Bl mg) : FnOk P w K mg base CX0 1 f fd ["_law_script", "_law_base"] (spDealt K) := by
  refine F.ok scDt (fun vs H Q E h => ?_) (fun cdv A outer s H vs Q E hr h => ?_)
  · obtain ⟨a, ns, rfl, _⟩ := h
    rfl
  · obtain ⟨a, ns, rfl, sq, few, k⟩ := h
    refine ⟨_, pss_cons (ps_setLc (i := 3) (own := [("_law_cell", 2)]) (g := gName 2) (tt := tYes) (by rfl) scDt.nd rfl rfl (sw_true rfl rfl rfl (by decide +kernel)) (pi_list (pe_slice sl_list (pv 0) po_none (po_some pe_int)))
        (blkOk_by (own := [("_law_cell", 2)]) (N := ["_law_script", "_law_base", "_law_cell", "_law_cells", "_law_blend"]) (sc := defScope sDealt) (by decide +kernel))
        (fun _ _ _ _ _ => pg_name (i := 2) scDt.nd rfl (Or.inl rfl)) (fun _ _ _ _ _ => pts_nil)
        (fun _ _ _ _ _ => pe_callB call_abs (by rfl) B.abs (by decide +kernel) (pa_cons (pe_callTy call_int1 (by rfl) B.int (by decide +kernel) (pa_cons (pv 2) pa_nil)) pa_nil)))
      (pss_cons (ps_set (i := 4) scDt.nd rfl (Or.inl rfl) (pe_op op_add pe_int (pe_op op_mul pe_int (pv 1))))
      (pss_cons (ps_for PassesOwn.never rfl (pi_list (pv 3)) (pg_name (i := 2) scDt.nd rfl (Or.inl rfl))
        (pss_one (ps_set (i := 4) scDt.nd rfl (Or.inl rfl) (pe_op op_mod (pe_callTy call_int1 (by rfl) B.int (by decide +kernel) (pa_cons (pe_op op_add (pe_op op_add (pe_op op_mul (pv 4) pe_int) (pe_op op_mod (pv 2) pe_int)) pe_int) pa_nil)) pe_int))))
      (pss_one (ps_ret (pe_lst (pa_cons (pe_revL (pe_lc (own := [("_law_cell", 2)]) (g := gName 2) (by rfl) scDt.nd (pi_list (pv 3))
        (blkOk_by (own := [("_law_cell", 2)]) (N := ["_law_script", "_law_base", "_law_cell", "_law_cells", "_law_blend"]) (sc := defScope sDealt) (by decide +kernel))
        (fun _ _ _ _ _ => pg_name (i := 2) scDt.nd rfl (Or.inl rfl)) (fun _ _ _ _ _ => pts_one (pt_cmpR op_ge (pv 2) (pe_op op_pow pe_int pe_int) (nomark _)))
        (fun _ _ _ _ _ => pv 2))) (pa_cons (pv 4) pa_nil))))))), ?_⟩
    refine ⟨_, rfl, _, rfl, a, _, rfl, sq, fun l nl => ?_⟩
    obtain ⟨cs, hcs, c48⟩ : ∃ cs : List Int, cutV (ns.map V.int) none (some 48) = cs.map V.int ∧ cs.length ≤ 48 := by
      obtain ⟨l48, mem⟩ := cut_most (ns.map V.int)
      have all : ∀ xs : List V, (∀ x, x ∈ xs → x ∈ ns.map V.int) → ∃ cs : List Int, xs = cs.map V.int := by
        intro xs
        induction xs with
        | nil => exact fun _ => ⟨[], rfl⟩
        | cons x xs ih =>
          intro h
          obtain ⟨cs, rfl⟩ := ih fun y hy => h y (List.mem_cons_of_mem _ hy)
          obtain ⟨n, _, rfl⟩ := List.mem_map.mp (h x (List.mem_cons_self ..))
          exact ⟨n :: cs, rfl⟩
      obtain ⟨cs, e⟩ := all _ mem
      rw [e, List.length_map] at l48
      exact ⟨cs, e, l48⟩
    rw [hcs]
    have s0 := same_upd (o := .lst (cs.map V.int)) nl
    have line : (100 : Nat) ≤ sizeLine := by decide
    refine ⟨l, rfl, ⟨_, SqL.of upd_same⟩, fun D nD => ?_⟩
    obtain ⟨nD0, lD⟩ := none_of_upd nD
    refine lc_list (xs := cs.map V.int) (fun i H' => Same (upd H l (.lst (cs.map V.int))) H' ∧ ∃ ds : List Int, H' D = some (.lst (ds.map V.int)) ∧ ds.length = i ∧ ∀ n, n ∈ ds → 0 ≤ n) ⟨same_upd nD, [], upd_same, rfl, fun _ z => (nomatch z)⟩
      (fun i H' _ z => SqL.of (z.1 _ _ upd_same)) ?_ ?_
    · rintro i x H1 hx ⟨s1, ds, at_D, ld, pos⟩
      obtain ⟨hi, rfl⟩ := List.getElem?_eq_some_iff.mp hx
      rw [List.length_map] at hi
      refine ⟨rfl, kept ⟨_, rfl, .inl ⟨cs[i], by rw [List.getElem_map], _, rfl, _, at_D, by rw [List.length_map]; omega, fun b o e => ?_, ds ++ [if cs[i] < 0 then -cs[i] else cs[i]], ?_, ?_, ?_⟩⟩⟩
      · by_cases hb : b = D
        · rw [hb, nD] at e
          cases e
        · rw [upd_ne hb]
          exact s1 _ _ e
      · rw [upd_same, List.map_append]
        rfl
      · rw [List.length_append, ld]
        rfl
      · intro n hn
        rcases List.mem_append.mp hn with z | z
        · exact pos n z
        · obtain rfl := List.mem_singleton.mp z
          split <;> omega
    · rintro H1 ⟨s1, ds, at_D, ld, pos⟩
      rw [List.length_map] at ld
      have sm1 := s0.trans s1
      refine ⟨_, rfl, _, _, rfl, rfl, .inr ⟨by decide, by decide⟩, _, _, rfl, rfl, ?_⟩
      refine ⟨_, rfl, D, rfl, ⟨_, SqL.of at_D⟩, for_list (xs := ds.map V.int) (fun i σ H' => ∃ (v2 : Option V) (b : Int), σ = [some (.ref a), some (.int 17), v2, some (.ref D), some (.int b)] ∧ H' = H1 ∧ 0 ≤ b ∧ b < 10000000000)
        ⟨_, _, rfl, rfl, by decide, by decide⟩ (fun i σ H' _ z => ?_) ?_ ?_⟩
      · obtain ⟨_, _, _, rfl, _⟩ := z
        exact SqL.of at_D
      · rintro i x σ H' hx ⟨v2, b, rfl, rfl, b0, b1⟩
        obtain ⟨hi, rfl⟩ := List.getElem?_eq_some_iff.mp hx
        rw [List.length_map] at hi
        refine ⟨_, rfl, _, _, rfl, rfl, .inl ⟨by omega, by omega⟩, _, rfl, ds[i], _, by rw [List.getElem_map], rfl, by show (0 : Int) < 2147483549; decide, _, _, rfl, rfl, _, _, rfl, rfl, .inl ⟨_, rfl, _, _, rfl, rfl, by show (0 : Int) < 2147483647; decide, ?_⟩⟩
        refine ⟨_, _, rfl, rfl, Int.emod_nonneg _ (by decide), ?_⟩
        have := Int.emod_lt_of_pos (b * 40693 + ds[i] % 2147483549 + 59) (show (0 : Int) < 2147483647 by decide)
        omega
      · rintro σ H' ⟨v2, b, rfl, rfl, b0, b1⟩
        refine ⟨_, rfl, D, rfl, ⟨_, SqL.of at_D⟩, fun E1 nE => ?_⟩
        refine lc_list (xs := ds.map V.int) (fun i H2 => Same H' H2 ∧ ∃ es : List Int, H2 E1 = some (.lst (es.map V.int)) ∧ es.length ≤ i ∧ ∀ n, n ∈ es → 0 ≤ n) ⟨same_upd nE, [], upd_same, Nat.le_refl _, fun _ z => (nomatch z)⟩
          (fun i H2 _ z => SqL.of (z.1 _ _ at_D)) ?_ ?_
        · rintro i x H2 hx ⟨s2, es, at_E, le, pe⟩
          obtain ⟨hi, rfl⟩ := List.getElem?_eq_some_iff.mp hx
          rw [List.length_map] at hi
          refine ⟨rfl, _, rfl, _, _, rfl, rfl, ⟨by decide, by decide, by decide⟩, ds[i], _, by rw [List.getElem_map], rfl, _, rfl, ?_⟩
          refine ite2 (fun hb => ?_) (fun hb => ?_)
          · refine ⟨_, rfl, _, at_E, by rw [List.length_map]; omega, fun b o e => ?_, es ++ [ds[i]], ?_, ?_, ?_⟩
            · rw [upd_ne (ne_of_none e nE)]
              exact s2 _ _ e
            · rw [upd_same, List.map_append, List.getElem_map]
              rfl
            · rw [List.length_append]
              show es.length + 1 ≤ _
              omega
            · intro n hn
              rcases List.mem_append.mp hn with z | z
              · exact pe n z
              · obtain rfl := List.mem_singleton.mp z
                exact pos _ (List.getElem_mem hi)
          · exact ⟨s2, es, at_E, Nat.le_succ_of_le le, pe⟩
        · rintro H2 ⟨s2, es, at_E, le, pe⟩
          rw [List.length_map] at le
          refine ⟨E1, _, rfl, SqL.of at_E, fun q nq => ⟨_, rfl, by show 2 ≤ sizeLine; decide, fun p np => ?_⟩⟩
          obtain ⟨np0, qp⟩ := none_of_upd np
          have s3 := same_upd (o := .lst (es.map V.int).reverse) nq
          have s4 := same_upd (o := .lst [.ref q, .int b]) np
          have all := ((sm1.trans s2).trans s3).trans s4
          refine k _ p q all ((sm1.trans s2).free np0) ((sm1.trans s2).free nq) ⟨Ne.symm qp, es.reverse, b, upd_same, ?_, fun n hn => pe n (List.mem_reverse.mp hn), by rw [List.length_reverse]; omega, b0⟩
          rw [s4 _ _ upd_same, List.map_reverse]
end
end K17

namespace K17
open PySem PySem.Spec PyProof.Rows L2
open Cal EnuT

/-! ### what a value is -/
def seqOf (H : Hp) : V → Option (List V)
  | .ref a => match H a with
    | some (.tup xs) => some xs
    | some (.lst xs) => some xs
    | _ => none
  | _ => none
def isStr : V → Bool
  | .str _ => true
  | _ => false
inductive OkV (H : Hp) : V → Prop
  | non : OkV H .non
  | bl (b : Bool) : OkV H (.bl b)
  | int (i : Int) : OkV H (.int i)
  | str (s : Str) : OkV H (.str s)
  | lst {a : Addr} {xs : List V} (h : H a = some (.lst xs)) : OkV H (.ref a)
  | tup {a : Addr} {xs : List V} (h : H a = some (.tup xs)) : OkV H (.ref a)
theorem seqOf_tup {H : Hp} {a : Addr} {xs : List V} (h : H a = some (.tup xs)) : seqOf H (.ref a) = some xs := by simp only [seqOf, h]
theorem seqOf_lst {H : Hp} {a : Addr} {xs : List V} (h : H a = some (.lst xs)) : seqOf H (.ref a) = some xs := by simp only [seqOf, h]
theorem OkV.same {H H' : Hp} (s : Same H H') {v : V} (o : OkV H v) : OkV H' v := by
  cases o with
  | non => exact .non
  | bl b => exact .bl b
  | int i => exact .int i
  | str x => exact .str x
  | lst h => exact .lst (s _ _ h)
  | tup h => exact .tup (s _ _ h)
theorem OkV.seq_same {H H' : Hp} (s : Same H H') {v : V} (o : OkV H v) : seqOf H' v = seqOf H v := by
  cases o with
  | non => rfl
  | bl b => rfl
  | int i => rfl
  | str x => rfl
  | lst h => rw [seqOf_lst h, seqOf_lst (s _ _ h)]
  | tup h => rw [seqOf_tup h, seqOf_tup (s _ _ h)]
theorem any_ty {K : W.Frag} {t : String} {a b : Bool} (h1 : kitB t "list" = some a) (h2 : kitB t "tuple" = some b) : W.kitAny K (.type t) [.type "list", .type "tuple"] = some (a || b) := by
  cases a <;> cases b <;> simp [W.kitAny, kit_ty h1, kit_ty h2]
theorem OkV.ty {K : W.Frag} {H : Hp} {v : V} (o : OkV H v) : ∃ t, TyX K H v t ∧ W.kitAny K t [.type "list", .type "tuple"] = some (seqOf H v).isSome ∧ W.kitOne K t (.type "str") = some (isStr v) := by
  cases o with
  | non => exact ⟨_, .base .non, any_ty (show kitB "NoneType" "list" = some false by decide +kernel) (show kitB "NoneType" "tuple" = some false by decide +kernel), kit_ty (show kitB "NoneType" "str" = some false by decide +kernel)⟩
  | bl b => exact ⟨_, .base (.bl b), any_ty (show kitB "bool" "list" = some false by decide +kernel) (show kitB "bool" "tuple" = some false by decide +kernel), kit_ty (show kitB "bool" "str" = some false by decide +kernel)⟩
  | int i => exact ⟨_, .base (.int i), any_ty (show kitB "int" "list" = some false by decide +kernel) (show kitB "int" "tuple" = some false by decide +kernel), kit_ty (show kitB "int" "str" = some false by decide +kernel)⟩
  | str x => exact ⟨_, .base (.str x), any_ty (show kitB "str" "list" = some false by decide +kernel) (show kitB "str" "tuple" = some false by decide +kernel), kit_ty (show kitB "str" "str" = some true by decide +kernel)⟩
  | lst h => exact ⟨_, .base (.lst h), by rw [seqOf_lst h]; exact any_ty (show kitB "list" "list" = some true by decide +kernel) (show kitB "list" "tuple" = some false by decide +kernel), kit_ty (show kitB "list" "str" = some false by decide +kernel)⟩
  | tup h => exact ⟨_, .base (.tup h), by rw [seqOf_tup h]; exact any_ty (show kitB "tuple" "list" = some false by decide +kernel) (show kitB "tuple" "tuple" = some true by decide +kernel), kit_ty (show kitB "tuple" "str" = some false by decide +kernel)⟩
def signOk (c : Nat) : Bool := (!decide (([c] : List Nat) < ("a" : Str).cps.toList)) && !decide (("z" : Str).cps.toList < [c])
def nameOk (s : Str) : Bool := decide (1 ≤ s.length) && decide (s.length ≤ 8) && decide (s ≠ "out") && s.cps.toList.all signOk
def nmB : V → Bool
  | .str s => nameOk s
  | _ => false
def spSeq : Sp := fun vs H Q _ => ∃ v, vs = [v] ∧ OkV H v ∧ ∀ H', Same H H' → Q (.bl (seqOf H v).isSome) H'
def spName : Sp := fun vs H Q _ => ∃ v, vs = [v] ∧ OkV H v ∧ (∀ s, v = .str s → s.length ≤ 1000) ∧ ∀ H', Same H H' → Q (.bl (nmB v)) H'
section
variable {P : Program} {w : World} {K : W.Frag} {mg : Str → Option Value} {base : Heap}
theorem scSq : FnScope ["value"] ["value"] (defScope sIsSeq) := ⟨rfl, rfl, rfl, by decide +kernel, rfl, by decide +kernel, by decide +kernel⟩
theorem ok_isseq {f : Addr} {fd : FuncData} (F : Fun K "is_sequence" "is_sequence" sIsSeq f fd) (B : Bl mg) : FnOk P w K mg base CX0 1 f fd ["value"] spSeq := by
  refine F.ok scSq (fun vs H Q E h => ?_) (fun cdv A outer s H vs Q E hr h => ?_)
  · obtain ⟨a, rfl, _⟩ := h
    rfl
  · obtain ⟨v, rfl, o, k⟩ := h
    refine ⟨_, pss_one (ps_ret (pe_callB call_isiT (by rfl) B.isi (by decide +kernel) (pa_cons (pv 0) (pa_cons (pe_tup (pa_cons (pe_bltn (v := .ty "list") rfl B.list (by decide +kernel) rfl) (pa_cons (pe_bltn (v := .ty "tuple") rfl B.tuple (by decide +kernel) rfl) pa_nil))) pa_nil)))), ?_⟩
    refine ⟨_, rfl, by show 2 ≤ sizeLine; decide, fun t nt => ?_⟩
    have s1 := same_upd (o := .tup [.ty "list", .ty "tuple"]) nt
    obtain ⟨ty, h1, h2, _⟩ := (o.same s1).ty (K := K)
    rw [o.seq_same s1] at h2
    exact ⟨_, t, _, _, _, _, rfl, upd_same, .cons (.ty "list") (.cons (.ty "tuple") .nil), h1, h2, k _ s1⟩
theorem scNm : FnScope ["value", "sign"] ["value"] (defScope sIsName) := ⟨rfl, rfl, rfl, by decide +kernel, rfl, by decide +kernel, by decide +kernel⟩
theorem ok_isname {f : Addr} {fd : FuncData} (F : Fun K "is_name" "is_name" sIsName f fd) (B : Bl mg) : FnOk P w K mg base CX0 1 f fd ["value"] spName := by
  refine F.ok scNm (fun vs H Q E h => ?_) (fun cdv A outer s H vs Q E hr h => ?_)
  · obtain ⟨v, rfl, _⟩ := h
    rfl
  · obtain ⟨v, rfl, o, few, k⟩ := h
    obtain ⟨ty, h1, _, h3⟩ := o.ty (K := K)
    refine ⟨_, pss_cons (ps_if (PW.pt (pw_or (pt_not (pt_val (pe_callB call_isi (by rfl) B.isi (by decide +kernel) (pa_cons (pv 0) (pa_cons (pe_bltn (v := .ty "str") rfl B.str (by decide +kernel) rfl) pa_nil)))))
        (pw_or (pt_not (pt_chain op_le op_le pe_int (pe_callB call_len_str (by rfl) B.len PySem.boot_len (pa_cons (pv 0) pa_nil)) pe_int)) (pw_or1 (pt_cmpR op_eq (pv 0) pe_str (nomark _)))))) (pss_one (ps_ret pe_bl)) pss_nil)
      (pss_one (ps_ret (pe_callB (cr_all rfl) (by rfl) B.all (by decide +kernel) (pa_cons (pe_lc (own := [("sign", 1)]) (g := gName 1) (tt := tYes) (by rfl) scNm.nd (pi_str (pv 0))
        (blkOk_by (own := [("sign", 1)]) (N := ["value", "sign"]) (sc := defScope sIsName) (by decide +kernel))
        (fun _ _ _ _ _ => pg_name (i := 1) scNm.nd rfl (Or.inl rfl)) (fun _ _ _ _ _ => pts_nil)
        (fun _ _ _ _ _ => pe_chain op_le_str op_le_str pe_str (pv 1) pe_str)) pa_nil)))), ?_⟩
    refine ⟨_, rfl, _, _, _, _, _, rfl, .ty "str", h1, h3, _, rfl, ?_⟩
    cases es : isStr v with
    | false =>
      refine iteT (iteT ?_)
      have : nmB v = false := by cases v <;> first | rfl | (cases es)
      have q := k H (Same.refl _)
      rw [this] at q
      exact q
    | true =>
      obtain ⟨z, rfl⟩ : ∃ z, v = .str z := by cases v <;> first | exact ⟨_, rfl⟩ | (cases es)
      have line : (1000 : Nat) ≤ sizeLine := by decide
      have zf := few z rfl
      have no : nameOk z = false → Q (.bl false) H := fun e => by
        have q := k H (Same.refl _)
        rwa [show nmB (.str z) = nameOk z from rfl, e] at q
      refine iteF ⟨_, rfl, z, rfl, Nat.le_trans zf line, 1, _, rfl, rfl, _, rfl, ?_⟩
      by_cases z1 : 1 ≤ z.length
      · rw [decide_eq_true (show (1 : Int) ≤ (z.length : Nat) by omega)]
        refine iteT ⟨_, 8, rfl, rfl, _, rfl, ?_⟩
        by_cases z8 : z.length ≤ 8
        · rw [decide_eq_true (show ((z.length : Nat) : Int) ≤ 8 by omega)]
          refine iteF ⟨_, rfl, rfl, _, rfl, ?_⟩
          by_cases zo : z = "out"
          · rw [decide_eq_true (by rw [zo])]
            exact iteT (no (by simp [nameOk, zo]))
          · rw [decide_eq_false (fun y => zo (by injection y))]
            refine iteF ⟨_, rfl, z, rfl, fun D nD => ?_⟩
            refine lc_it walk_str (fun i H' => Same H H' ∧ H' D = some (.lst (((z.cps.toList.take i).map signOk).map V.bl))) ⟨same_upd nD, upd_same⟩ (fun _ _ _ _ => trivial) ?_ ?_
            · rintro i x H1 H1' hi ⟨s1, at_D⟩ ⟨rfl, c, hc, rfl⟩
              have hl : i < 8 := by
                have : z.length = z.cps.size := rfl
                omega
              have next : ∀ b, b = signOk c → Same H (upd H1' D (.lst (((z.cps.toList.take i).map signOk).map V.bl ++ [.bl b]))) ∧ upd H1' D (.lst (((z.cps.toList.take i).map signOk).map V.bl ++ [.bl b])) D = some (.lst (((z.cps.toList.take (i + 1)).map signOk).map V.bl)) := fun b hb => by
                refine ⟨fun a o e => ?_, ?_⟩
                · by_cases ha : a = D
                  · rw [ha, nD] at e
                    cases e
                  · rw [upd_ne ha]
                    exact s1 _ _ e
                · obtain ⟨lt, e⟩ := Array.getElem?_eq_some_iff.mp hc
                  have lt' : i < z.cps.toList.length := by simpa using lt
                  have e' : z.cps.toList[i] = c := by simpa using e
                  rw [upd_same, List.take_succ_eq_append_getElem lt', e', List.map_append, List.map_append, hb]
                  rfl
              have fw : (((z.cps.toList.take i).map signOk).map V.bl).length < sizeLine := by
                rw [List.length_map, List.length_map, List.length_take]
                omega
              refine ⟨rfl, kept ⟨_, rfl, _, _, rfl, rfl, _, rfl, ?_⟩⟩
              show ite ((!decide (([c] : List Nat) < ("a" : Str).cps.toList)) = true) _ _
              refine ite2 (fun h1 => ?_) (fun h1 => ?_)
              · refine ⟨_, _, rfl, rfl, _, at_D, fw, next _ ?_⟩
                show (!decide (("z" : Str).cps.toList < [c])) = signOk c
                unfold signOk
                rw [h1, Bool.true_and]
              · refine ⟨_, at_D, fw, next false ?_⟩
                unfold signOk
                cases h : (!decide (([c] : List Nat) < ("a" : Str).cps.toList)) with
                | false => rfl
                | true => exact absurd h h1
            · rintro H1 ⟨s1, at_D⟩
              rw [show z.cps.size = z.cps.toList.length by simp, List.take_length] at at_D
              refine ⟨D, _, rfl, SqL.of at_D, ?_⟩
              have q := k _ s1
              rw [show nmB (.str z) = nameOk z from rfl] at q
              have e : nameOk z = (z.cps.toList.map signOk).all id := by
                rw [List.all_map]
                simp [nameOk, z1, z8, zo]
              rwa [e] at q
        · rw [decide_eq_false (show ¬ ((z.length : Nat) : Int) ≤ 8 by omega)]
          exact iteT (no (by simp [nameOk, z8]))
      · rw [decide_eq_false (show ¬ (1 : Int) ≤ (z.length : Nat) by omega)]
        exact iteF ⟨_, rfl, iteT (no (by simp [nameOk, z1]))⟩
end
end K17

namespace K17
open PySem PySem.Spec PyProof.Rows L2
open Cal EnuT

def words : List Str := ["shut", "open", "drain", "off", "on", "save", "load"]
/-- whether a value is a deed -/
def deedB (H : Hp) (v : V) : Bool := match seqOf H v with
  | some [.str a, y] => decide (a ∈ words) && nmB y
  | _ => false
def OkItems (H : Hp) (v : V) : Prop := OkV H v ∧ ∀ xs, seqOf H v = some xs → ∀ x, x ∈ xs → OkV H x ∧ ∀ s, x = .str s → s.length ≤ 1000
def spDeed : Sp := fun vs H Q _ => ∃ v, vs = [v] ∧ OkItems H v ∧ ∀ H', Same H H' → Q (.bl (deedB H v)) H'
/-- the module's three tuples of words -/
structure Cst (K : W.Frag) (mg : Str → Option Value) : Prop where
  d : ∃ a, mg "DOOR_DEEDS" = some (.ref a) ∧ ∀ H, SqT K H a [.str "shut", .str "open"]
  p : ∃ a, mg "PART_DEEDS" = some (.ref a) ∧ ∀ H, SqT K H a [.str "drain", .str "off", .str "on"]
  c : ∃ a, mg "CELL_DEEDS" = some (.ref a) ∧ ∀ H, SqT K H a [.str "save", .str "load"]
theorem seq_of {H : Hp} {v : V} {xs : List V} (h : seqOf H v = some xs) : ∃ a, v = .ref a ∧ (H a = some (.lst xs) ∨ H a = some (.tup xs)) := by
  match v, h with
  | .ref a, h =>
    unfold seqOf at h
    cases e : H a with
    | none => simp [e] at h
    | some o =>
      cases o with
      | tup ys => simp [e] at h; subst h; exact ⟨a, rfl, .inr e⟩
      | lst ys => simp [e] at h; subst h; exact ⟨a, rfl, .inl e⟩
      | _ => simp [e] at h
theorem flat_strs (ps : List Str) : (ps.map V.str).all flatV = true := by
  rw [List.all_map]
  exact List.all_eq_true.mpr fun _ _ => rfl
theorem inV_strs (x : Str) (ps : List Str) : inV (.str x) (ps.map V.str) = decide (x ∈ ps) := by
  unfold inV
  rw [List.any_map]
  induction ps with
  | nil => rfl
  | cons y ps ih =>
    rw [List.any_cons, ih]
    have : eqV (.str y) (.str x) = decide (y = x) := by
      by_cases h : y = x
      · subst h
        simp [eqV]
      · simp [eqV, h]
    show (eqV (.str y) (.str x) || decide (x ∈ ps)) = _
    rw [this]
    by_cases h : y = x
    · simp [h]
    · simp [h, Ne.symm h]
theorem ix_of {K : W.Frag} {H : Hp} {a : Addr} {xs : List V} {j : Nat} {v : V} {Q : VK} (h : H a = some (.lst xs) ∨ H a = some (.tup xs)) (hj : xs[j]? = some v) (q : Q v H) : rIx K (.ref a) (.int (j : Nat)) H Q := by
  rcases h with e | e
  · exact .inl ⟨a, xs, _, v, rfl, rfl, SqL.of e, atI_nat hj, q⟩
  · exact .inr (.inl ⟨a, xs, _, v, rfl, rfl, SqT.of e, atI_nat hj, q⟩)
section
variable {P : Program} {w : World} {K : W.Frag} {mg : Str → Option Value} {base : Heap}
theorem scDd : FnScope ["value"] ["value"] (defScope sIsDeed) := ⟨rfl, rfl, rfl, by decide +kernel, rfl, by decide +kernel, by decide +kernel⟩
theorem ok_isdeed {f : Addr} {fd : FuncData} (F : Fun K "_is_deed" "_is_deed" sIsDeed f fd) (B : Bl mg) (Cs : Cst K mg) (Sq : Callee P w K mg base "is_sequence" 1 ["value"] spSeq) (Nm : Callee P w K mg base "is_name" 1 ["value"] spName) : FnOk P w K mg base CX0 2 f fd ["value"] spDeed := by
  refine F.ok scDd (fun vs H Q E h => ?_) (fun cdv A outer s H vs Q E hr h => ?_)
  · obtain ⟨a, rfl, _⟩ := h
    rfl
  · obtain ⟨v, rfl, o, k⟩ := h
    obtain ⟨aD, mD, qD⟩ := Cs.d
    obtain ⟨aP, mP, qP⟩ := Cs.p
    obtain ⟨aC, mC, qC⟩ := Cs.c
    refine ⟨_, pss_cons (ps_if (PW.pt (pw_or (pt_not (pt_val (pe_callee Sq hr rfl (pa_cons (pv 0) pa_nil)))) (pw_or (pt_cmpR op_ne (pe_callB call_len_seq (by rfl) B.len PySem.boot_len (pa_cons (pv 0) pa_nil)) pe_int (nomark _))
        (pw_or1 (pt_not (pt_val (pe_callB call_isi (by rfl) B.isi (by decide +kernel) (pa_cons (pe_ix ix_seq (pv 0) pe_int (fun _ _ => rfl)) (pa_cons (pe_bltn (v := .ty "str") rfl B.str (by decide +kernel) rfl) pa_nil))))))))) (pss_one (ps_ret pe_bl)) pss_nil)
      (pss_one (ps_ret (pe_and (pe_cmpR op_in_seq (pe_ix ix_seq (pv 0) pe_int (fun _ _ => rfl)) (pe_op op_catA (pe_op op_catA (pe_glob (v := .ref aD) rfl mD rfl) (pe_glob (v := .ref aP) rfl mP rfl)) (pe_glob (v := .ref aC) rfl mC rfl)) (by rfl))
        (pe_one (pe_callee Nm hr rfl (pa_cons (pe_ix ix_seq (pv 0) pe_int (fun _ _ => rfl)) pa_nil)))))), ?_⟩
    refine ⟨_, rfl, v, rfl, o.1, fun H1 s1 => ⟨_, rfl, ?_⟩⟩
    cases e : seqOf H v with
    | none =>
      refine iteT (iteT ?_)
      have q := k H1 s1
      rwa [show deedB H v = false by unfold deedB; rw [e]] at q
    | some xs =>
      obtain ⟨a, rfl, ha⟩ := seq_of e
      have ha1 : H1 a = some (.lst xs) ∨ H1 a = some (.tup xs) := ha.imp (s1 _ _) (s1 _ _)
      refine iteF ⟨_, rfl, a, xs, rfl, ha1.imp SqL.of SqT.of, rfl, _, rfl, ?_⟩
      have no : (deedB H (.ref a) = false) → Q (.bl false) H1 := fun h => by
        have q := k H1 s1
        rwa [h] at q
      refine ite2 (fun hc => ?_) (fun hc => ?_)
      · have len : xs.length ≠ 2 := fun y => by
          rw [y] at hc
          cases hc
        refine no ?_
        unfold deedB
        rw [e]
        match xs, len with
        | [], _ => rfl
        | [x], _ => cases x <;> rfl
        | [x, y], l => exact absurd rfl l
        | x :: _ :: _ :: _, _ => cases x <;> rfl
      · have len : xs.length = 2 := by
          have z : (xs.length : Int) = 2 := by simpa using hc
          omega
        obtain ⟨x, y, rfl⟩ : ∃ x y, xs = [x, y] := by
          match xs, len with
          | [x, y], _ => exact ⟨x, y, rfl⟩
        obtain ⟨ox, fx⟩ := o.2 _ e x (by simp)
        obtain ⟨oy, fy⟩ := o.2 _ e y (by simp)
        obtain ⟨ty, h1, _, h3⟩ := (ox.same s1).ty (K := K)
        refine ⟨_, rfl, ix_of (j := 0) ha1 rfl ⟨x, _, ty, _, _, rfl, .ty "str", h1, h3, _, rfl, ?_⟩⟩
        cases es : isStr x with
        | false =>
          refine iteT (no ?_)
          unfold deedB
          rw [e]
          cases x <;> first | rfl | (cases es)
        | true =>
          obtain ⟨z, rfl⟩ : ∃ z, x = .str z := by cases x <;> first | exact ⟨_, rfl⟩ | (cases es)
          have val : deedB H (.ref a) = (decide (z ∈ words) && nmB y) := by
            unfold deedB
            rw [e]
          refine iteF ⟨_, rfl, ix_of (j := 0) ha1 rfl ?_⟩
          refine ⟨aD, aP, _, _, rfl, rfl, qD _, qP _, by decide, fun z => (nomatch z), fun _ z => (nomatch z), fun _ _ u nu => ?_⟩
          have s2 := same_upd (o := .tup ([V.str "shut", .str "open"] ++ [.str "drain", .str "off", .str "on"])) nu
          refine ⟨u, aC, _, _, rfl, rfl, SqT.of upd_same, qC _, by decide, fun z => (nomatch z), fun _ z => (nomatch z), fun _ _ u2 nu2 => ?_⟩
          have s3 := same_upd (o := .tup ([V.str "shut", .str "open"] ++ [.str "drain", .str "off", .str "on"] ++ [.str "save", .str "load"])) nu2
          have s23 := s2.trans s3
          refine ⟨u2, words.map V.str, rfl, .inr (SqT.of upd_same), rfl, flat_strs _, ?_⟩
          rw [inV_strs]
          refine ⟨_, rfl, ?_⟩
          refine ite2 (fun hw => ?_) (fun hw => ?_)
          · refine ⟨_, rfl, ix_of (j := 1) (ha1.imp (s23 _ _) (s23 _ _)) rfl ?_⟩
            refine ⟨y, rfl, (oy.same s1).same s23, fy, fun H5 s5 => ?_⟩
            have q := k H5 ((s1.trans s23).trans s5)
            have hw : decide (z ∈ words) = true := by simpa using hw
            rwa [val, hw, Bool.true_and] at q
          · have q := k _ (s1.trans s23)
            rw [val, show decide (z ∈ words) = false by simpa using hw, Bool.false_and] at q
            exact q
end
end K17

namespace K17
open PySem PySem.Spec PyProof.Rows L2
open Cal EnuT

def pnames : List Str := ["p", "hall", "abcdefgh", "z", "off", "plan"]
abbrev DeedAt (H : Hp) (v : V) (d : Str × Str) : Prop := ∃ t, v = V.ref t ∧ H t = some (.tup [.str d.1, .str d.2])
def GoodDeeds (ds : List (Str × Str)) : Prop := ds.length ≤ 5 ∧ ∀ d, d ∈ ds → d.1 ∈ words ∧ d.2 ∈ pnames
def spDeeds : Sp := fun vs H Q _ => ∃ p q : Addr, vs = [.ref p] ∧ Deal H p q ∧ ∀ H' l ws (ds : List (Str × Str)), GoodDeeds ds → But2 p q H H' → Deal H' p q → H l = none → H' l = some (.lst ws) → Paired (DeedAt H') ws ds → Q (.ref l) H'
theorem paired_snoc {α β : Type} {R : α → β → Prop} : ∀ {xs : List α} {ys : List β} {a : α} {b : β}, Paired R xs ys → R a b → Paired R (xs ++ [a]) (ys ++ [b])
  | _, _, _, _, .nil, h => .cons h .nil
  | _, _, _, _, .cons r t, h => .cons r (paired_snoc t h)
theorem paired_len {α β : Type} {R : α → β → Prop} : ∀ {xs : List α} {ys : List β}, Paired R xs ys → xs.length = ys.length
  | _, _, .nil => rfl
  | _, _, .cons _ t => by simp [paired_len t]
theorem paired_mono {α β : Type} {R S : α → β → Prop} (f : ∀ a b, R a b → S a b) : ∀ {xs : List α} {ys : List β}, Paired R xs ys → Paired S xs ys
  | _, _, .nil => .nil
  | _, _, .cons r t => .cons (f _ _ r) (paired_mono f t)
/-- a tuple is neither of the deal's lists -/
theorem Deal.tup {H H' : Hp} {p q a : Addr} {xs : List V} (d : Deal H p q) (b : But2 p q H H') (e : H a = some (.tup xs)) : H' a = some (.tup xs) := by
  obtain ⟨_, ns, b', hp, hq, _⟩ := d
  exact b _ _ (ne_of e hp (fun z => by cases z)) (ne_of e hq (fun z => by cases z)) e
theorem Deal.new {H : Hp} {p q a : Addr} (d : Deal H p q) (n : H a = none) : a ≠ p ∧ a ≠ q := by
  obtain ⟨_, ns, b', hp, hq, _⟩ := d
  exact ⟨Ne.symm (ne_of_none hp n), Ne.symm (ne_of_none hq n)⟩
theorem But2.free {p q a : Addr} {H H' : Hp} (b : But2 p q H H') (d : Deal H' p q) (n : H' a = none) : H a = none := by
  cases e : H a with
  | none => rfl
  | some o =>
    obtain ⟨n1, n2⟩ := d.new n
    have := b _ _ n1 n2 e
    rw [n] at this
    cases this
section
variable {P : Program} {w : World} {K : W.Frag} {mg : Str → Option Value} {base : Heap}
theorem scDs : FnScope ["_law_deal", "_law_found", "_law_turn", "_law_word"] ["_law_deal"] (defScope sDeeds) := ⟨rfl, rfl, rfl, by decide +kernel, rfl, by decide +kernel, by decide +kernel⟩
theorem ok_deeds {f : Addr} {fd : FuncData} (F : Fun K "_law_deeds" "_law_deeds" sDeeds f fd) (B : Bl mg) (An : Callee P w K mg base "_law_any" 1 ["_law_deal", "_law_bound"] spAny) (Of : Callee P w K mg base "_law_of" 2 ["_law_deal", "_law_some"] spOf) :
    FnOk P w K mg base CX0 3 f fd ["_law_deal"] spDeeds := by
  refine F.ok scDs (fun vs H Q E h => ?_) (fun cdv A outer s H vs Q E hr h => ?_)
  · obtain ⟨p, q, rfl, _⟩ := h
    rfl
  · obtain ⟨p, q, rfl, dl, k⟩ := h
    have hr1 := hr.mono (show 1 ≤ 2 by decide)
    refine ⟨_, pss_cons (ps_set (i := 1) scDs.nd rfl (Or.inl rfl) (pe_lst pa_nil))
      (pss_cons (ps_for PassesOwn.never rfl (pi_range1 rfl B.range (pa_cons (pe_callee An hr1 rfl (pa_cons (pv 0) (pa_cons pe_int pa_nil))) pa_nil)) (pg_name (i := 2) scDs.nd rfl (Or.inl rfl))
        (pss_cons (ps_set (i := 3) scDs.nd rfl (Or.inl rfl) (pe_callee Of hr rfl (pa_cons (pv 0) (pa_cons (pe_lst (pa_cons pe_str (pa_cons pe_str (pa_cons pe_str (pa_cons pe_str (pa_cons pe_str (pa_cons pe_str (pa_cons pe_str pa_nil)))))))) pa_nil))))
        (pss_one (ps_expr (pe_bm PySem.F.plainAttrs_list PySem.F.slot_list_append PySem.F.type_list_append mt_append (pv 1) (pa_cons (pe_tup (pa_cons (pv 3) (pa_cons (pe_callee Of hr rfl (pa_cons (pv 0) (pa_cons (pe_lst (pa_cons pe_str (pa_cons pe_str (pa_cons pe_str (pa_cons pe_str (pa_cons pe_str (pa_cons pe_str pa_nil))))))) pa_nil))) pa_nil))) pa_nil))))))
      (pss_one (ps_ret (pv 1)))), ?_⟩
    have line : (100 : Nat) ≤ sizeLine := by decide
    refine ⟨Nat.zero_le _, fun l nl => ?_⟩
    have s0 := same_upd (o := .lst []) nl
    obtain ⟨lp, lq⟩ := dl.new nl
    refine ⟨_, rfl, p, q, _, rfl, dl.same s0, by decide, by decide, fun r H1 r0 r6 but1 dl1 => ?_⟩
    obtain ⟨n, rfl⟩ : ∃ j : Nat, r = (j : Int) := ⟨r.toNat, by omega⟩
    have n6 : n < 6 := by
      have : (n : Int) < 6 := r6
      omega
    have at_l1 := but1 _ _ lp lq (upd_same (H := H) (a := l) (o := .lst []))
    have b01 : But2 p q H H1 := fun c o n1 n2 e => but1 c o n1 n2 (s0 _ _ e)
    refine ⟨_, rfl, by omega, by omega, for_range (n := n) (fun i σ H' => ∃ (v2 v3 : Option V) (ws : List V) (ds : List (Str × Str)), σ = [some (.ref p), some (.ref l), v2, v3] ∧ ds.length = i ∧ (∀ d, d ∈ ds → d.1 ∈ words ∧ d.2 ∈ pnames) ∧ But2 p q H H' ∧ Deal H' p q ∧ H' l = some (.lst ws) ∧ Paired (DeedAt H') ws ds)
      ⟨_, _, [], [], rfl, rfl, fun _ z => (nomatch z), b01, dl1, at_l1, .nil⟩ ?_ ?_⟩
    · rintro i σ H2 hi ⟨v2, v3, ws, ds, rfl, ld, gd, b2, dl2, at_l2, pw⟩
      have lw := paired_len pw
      refine ⟨_, rfl, by show 7 ≤ sizeLine; decide, fun m nm => ?_⟩
      have s3 := same_upd (o := .lst (words.map V.str)) nm
      obtain ⟨mp, mq⟩ := dl2.new nm
      refine ⟨p, q, m, _, rfl, dl2.same s3, mp, mq, upd_same, by show 1 ≤ 7; decide, by show 7 ≤ 1000; decide, fun x H3 hx but3 dl3 => ?_⟩
      obtain ⟨a, ha, rfl⟩ := List.mem_map.mp (show x ∈ words.map V.str from hx)
      have b3 : But2 p q H2 H3 := fun c o n1 n2 e => but3 c o n1 n2 (s3 _ _ e)
      have at_l3 := b3 _ _ lp lq at_l2
      refine ⟨_, rfl, .inl ⟨rfl, _, SqL.of at_l3⟩, _, rfl, _, rfl, by show 6 ≤ sizeLine; decide, fun m2 nm2 => ?_⟩
      have s4 := same_upd (o := .lst (pnames.map V.str)) nm2
      obtain ⟨mp2, mq2⟩ := dl3.new nm2
      refine ⟨p, q, m2, _, rfl, dl3.same s4, mp2, mq2, upd_same, by show 1 ≤ 6; decide, by show 6 ≤ 1000; decide, fun y H4 hy but4 dl4 => ?_⟩
      obtain ⟨b, hb, rfl⟩ := List.mem_map.mp (show y ∈ pnames.map V.str from hy)
      have b4 : But2 p q H3 H4 := fun c o n1 n2 e => but4 c o n1 n2 (s4 _ _ e)
      have at_l4 := b4 _ _ lp lq at_l3
      have b24 := b3.trans b4
      refine ⟨by show 2 ≤ sizeLine; decide, fun t nt => ?_⟩
      have s5 := same_upd (o := .tup [.str a, .str b]) nt
      have at_l5 := s5 _ _ at_l4
      refine ⟨l, ws, _, rfl, rfl, at_l5, by omega, _, _, ws ++ [.ref t], ds ++ [(a, b)], rfl, by rw [List.length_append, ld]; rfl, ?_, ?_, ?_, upd_same, ?_⟩
      · intro d hd
        rcases List.mem_append.mp hd with z | z
        · exact gd d z
        · obtain rfl := List.mem_singleton.mp z
          exact ⟨ha, hb⟩
      · intro c o n1 n2 e
        rw [upd_ne (ne_of_none e nl)]
        exact s5 _ _ (b24 _ _ n1 n2 (b2 _ _ n1 n2 e))
      · obtain ⟨pq, ns, b', hp, hq, r⟩ := dl4.same s5
        exact ⟨pq, ns, b', (upd_ne (Ne.symm lp)).trans hp, (upd_ne (Ne.symm lq)).trans hq, r⟩
      · have up : ∀ {v d}, DeedAt (upd H4 t (.tup [.str a, .str b])) v d → DeedAt (upd (upd H4 t (.tup [.str a, .str b])) l (.lst (ws ++ [.ref t]))) v d := fun {v d} ⟨c, e, ec⟩ => ⟨c, e, by
          rw [upd_ne (ne_of ec at_l5 (fun z => by cases z))]
          exact ec⟩
        exact paired_snoc (paired_mono (fun _ _ ⟨c, e, ec⟩ => up ⟨c, e, s5 _ _ (dl2.tup b24 ec)⟩) pw) (up ⟨t, rfl, upd_same⟩)
    · rintro σ H2 ⟨v2, v3, ws, ds, rfl, ld, gd, b2, dl2, at_l2, pw⟩
      exact ⟨_, rfl, k H2 l ws ds ⟨by omega, gd⟩ b2 dl2 nl at_l2 pw⟩
end
end K17

namespace K17
open PySem PySem.Spec PyProof.Rows L2
open Cal EnuT Exn Keys

abbrev CE (P : Program) (w : World) (K : W.Frag) (mg : Str → Option Value) (base : Heap) (x : Str) (C : Addr) (f : Str) : Prop := Cl1 P w K mg base x C f "Exception" "Exception.__new__" "Exception.__init__" exTail
/-- whether a row of a text tells a deed -/
def rowB (r : Str) : Bool := match Txt.split r " " with
  | [a, y] => decide (a ∈ words) && nameOk y
  | _ => false
/-- the row's words, as a list -/
abbrev ToldAt (H : Hp) (v : V) (r : Str) : Prop := ∃ t, v = V.ref t ∧ H t = some (.lst ((Txt.split r " ").map V.str))
/-- the rows ahead of the first that tells none -/
def firstBad (rows : List Str) (i : Nat) : Prop := i < rows.length ∧ (∀ j (h : j < rows.length), j < i → rowB rows[j] = true) ∧ ∀ h : i < rows.length, rowB rows[i] = false
def spRead (C : Addr) : Sp := fun vs H Q E => ∃ (a : Addr) (rows : List Str), vs = [.ref a, .int 0] ∧ H a = some (.lst (rows.map V.str)) ∧ rows.length ≤ 20 ∧ (∀ r, r ∈ rows → r.length ≤ 900 ∧ ∀ s, s ∈ Txt.split r " " → s.length ≤ 1000) ∧
  ((∀ r, r ∈ rows → rowB r = true) → ∀ H' l ws, Same H H' → H l = none → H' l = some (.lst ws) → Paired (ToldAt H') ws rows → Q (.ref l) H') ∧
  ∀ i, firstBad rows i → ∀ H' d, Same H H' → H d = none → H' d = some (.xd [("at", .int (i : Nat))]) → E (.ref C) (some d) H'
theorem deed_row {H : Hp} {t : Addr} {r : Str} (e : H t = some (.lst ((Txt.split r " ").map V.str))) : deedB H (.ref t) = rowB r := by
  unfold deedB rowB
  rw [seqOf_lst e]
  generalize Txt.split r " " = l
  match l with
  | [] => rfl
  | [_] => rfl
  | [_, _] => rfl
  | _ :: _ :: _ :: _ => rfl
theorem ok_row {H : Hp} {t : Addr} {xs : List Str} (e : H t = some (.lst (xs.map V.str))) (few : ∀ s, s ∈ xs → s.length ≤ 1000) : OkItems H (.ref t) := by
  refine ⟨.lst e, fun ys h y hy => ?_⟩
  rw [seqOf_lst e] at h
  obtain rfl := Option.some.inj h
  obtain ⟨s, hs, rfl⟩ := List.mem_map.mp hy
  refine ⟨.str s, fun z ez => ?_⟩
  injection ez with ez
  subst ez
  exact few s hs
section
variable {P : Program} {w : World} {K : W.Frag} {mg : Str → Option Value} {base : Heap}
theorem scRd : FnScope ["rows", "first", "deeds", "at", "row", "told"] ["rows", "first"] (defScope sReadDeeds) := ⟨rfl, rfl, rfl, by decide +kernel, rfl, by decide +kernel, by decide +kernel⟩
theorem ok_read {f C : Addr} {fd : FuncData} (F : Fun K "_read_deeds" "_read_deeds" sReadDeeds f fd) (B : Bl mg) (cT : CE P w K mg base "InvalidText" C "at") (Dd : Callee P w K mg base "_is_deed" 2 ["value"] spDeed) :
    FnOk P w K mg base (L2.CX P w) 3 f fd ["rows", "first"] (spRead C) := by
  refine F.okX scRd (fun vs H Q E h => ?_) (fun cdv A outer s H vs Q E hr h => ?_)
  · obtain ⟨a, rows, rfl, _⟩ := h
    rfl
  · obtain ⟨a, rows, rfl, ha, few, short, good, bad⟩ := h
    refine ⟨_, pss_cons (ps_set (i := 2) scRd.nd rfl (Or.inl rfl) (pe_lst pa_nil))
      (pss_cons (ps_for PassesOwn.leaving rfl (pi_enum (by rfl) B.enu (pa_cons (pv 0) pa_nil)) (pg_tup rfl (pgs_cons (pg_name (i := 3) scRd.nd rfl (Or.inl rfl)) (pgs_cons (pg_name (i := 4) scRd.nd rfl (Or.inl rfl)) pgs_nil)))
        (pss_cons (ps_set (i := 5) scRd.nd rfl (Or.inl rfl) (pe_split (pv 4) pe_str))
        (pss_cons (ps_if (pt_not (pt_val (pe_callee Dd hr rfl (pa_cons (pv 5) pa_nil)))) (pss_one (ps_raise rfl (takes_of rfl rfl rfl rfl) (pmk_exn cT hr rfl (pe_op op_add (pv 1) (pv 3))))) pss_nil)
        (pss_one (ps_expr (pe_bm PySem.F.plainAttrs_list PySem.F.slot_list_append PySem.F.type_list_append mt_append (pv 2) (pa_cons (pv 5) pa_nil)))))))
      (pss_one (ps_ret (pv 2)))), ?_⟩
    have line : (1000 : Nat) ≤ sizeLine := by decide
    refine ⟨Nat.zero_le _, fun l nl => ?_⟩
    have s0 := same_upd (o := .lst []) nl
    refine ⟨_, rfl, a, _, rfl, SqL.of (s0 _ _ ha), for_it (walk_enum (xs := rows.map V.str)) (fun i σ H' => ∃ (v3 v4 v5 : Option V) (ws : List V), σ = [some (.ref a), some (.int 0), some (.ref l), v3, v4, v5] ∧ Same H H' ∧ H' l = some (.lst ws) ∧ Paired (fun v r => ∃ t, v = V.ref t ∧ t ≠ l ∧ H' t = some (.lst ((Txt.split r " ").map V.str))) ws (rows.take i) ∧ ∀ j (h : j < rows.length), j < i → rowB rows[j] = true)
      ⟨_, _, _, [], rfl, s0, upd_same, .nil, fun j _ h => absurd h (Nat.not_lt_zero _)⟩ (fun i σ H' _ z => ?_) ?_ ?_⟩
    · obtain ⟨_, _, _, _, _, s, _⟩ := z
      exact SqL.of (s _ _ ha)
    · rintro i x σ H2 H2' hi ⟨v3, v4, v5, ws, rfl, s2, at_l, pw, ok⟩ ⟨t, y, z, rfl, nt, rfl, hy, hz⟩
      cases hy
      rw [List.length_map] at hi
      obtain rfl : z = V.str rows[i] := by
        have hz : (rows.map V.str)[i]? = some z := hz
        rw [List.getElem?_map, List.getElem?_eq_getElem hi] at hz
        exact (Option.some.inj hz).symm
      have s3 := same_upd (o := .tup [.int (i : Nat), .str rows[i]]) nt
      obtain ⟨r1, r2⟩ := short _ (List.getElem_mem hi)
      refine ⟨t, _, rfl, SqT.of upd_same, rfl, _, _, rfl, _, _, rfl, ⟨rfl, _, rfl, ⟨_, rfl⟩, _, _, rfl, rfl, rfl, by omega, fun u nu => ?_⟩⟩
      have s4 := same_upd (o := .lst ((Txt.split rows[i] " ").map V.str)) nu
      have at_u : upd (upd H2 t (.tup [.int (i : Nat), .str rows[i]])) u (.lst ((Txt.split rows[i] " ").map V.str)) u = some (.lst ((Txt.split rows[i] " ").map V.str)) := upd_same
      have s24 := (s2.trans s3).trans s4
      have at_l4 := s4 _ _ (s3 _ _ at_l)
      have s34 := s3.trans s4
      refine ⟨_, rfl, .ref u, rfl, ok_row at_u r2, fun H5 s5 => ?_⟩
      rw [deed_row at_u]
      have s25 := s24.trans s5
      cases er : rowB rows[i] with
      | false =>
        refine ⟨_, rfl, iteT ⟨_, rfl, _, rfl, _, _, rfl, rfl, _, rfl, fun d nd => ?_⟩⟩
        refine bad i ⟨hi, ok, fun _ => er⟩ _ d (s25.trans (same_upd nd)) (s25.free nd) ?_
        rw [upd_same]
        show some (HO.xd [(("at" : Str), V.int (0 + (i : Int)))]) = _
        rw [Int.zero_add]
      | true =>
        refine ⟨_, rfl, iteF ⟨_, rfl, .inl ⟨rfl, _, SqL.of (s5 _ _ at_l4)⟩, _, rfl, l, ws, _, rfl, rfl, s5 _ _ at_l4, ?_, _, _, _, ws ++ [.ref u], rfl, ?_, upd_same, ?_, ?_⟩⟩
        · have := paired_len pw
          rw [List.length_take] at this
          omega
        · intro b o e
          rw [upd_ne (ne_of_none e nl)]
          exact s25 _ _ e
        · rw [List.take_succ_eq_append_getElem hi]
          have ul : u ≠ l := fun z => by
            rw [z] at nu
            rw [s3 _ _ at_l] at nu
            cases nu
          exact paired_snoc (paired_mono (fun v r ⟨c, e, nc, ec⟩ => ⟨c, e, nc, (upd_ne nc).trans (s5 _ _ (s34 _ _ ec))⟩) pw) ⟨u, rfl, ul, (upd_ne ul).trans (s5 _ _ at_u)⟩
        · intro j h hj
          rcases Nat.lt_succ_iff_lt_or_eq.mp hj with z | rfl
          · exact ok j h z
          · exact er
    · rintro σ H2 ⟨v3, v4, v5, ws, rfl, s2, at_l, pw, ok⟩
      rw [List.length_map] at pw ok
      rw [List.take_length] at pw
      refine ⟨_, rfl, good (fun r hr => ?_) H2 l ws s2 nl at_l (paired_mono (fun v r ⟨c, e, _, ec⟩ => ⟨c, e, ec⟩) pw)⟩
      obtain ⟨j, hj, rfl⟩ := List.getElem_of_mem hr
      exact ok j hj hj
end
end K17

namespace K17
open PySem PySem.Spec PyProof.Rows L2
open Cal EnuT Exn Keys

/-- what is walked in one of two ways -/
def iOr (a b : TI) : TI := fun σ H R => a σ H R ∨ b σ H R
theorem PI_or {X : Cx} {tg e : Expr} {a b : TI} (ha : PI X tg e a) (hb : PI X tg e b) : PI X tg e (iOr a b) where
  run := fun pins s σ H R I h => h.elim (ha.run pins s σ H R I) (hb.run pins s σ H R I)
/-- the tuples that a plan keeps -/
def tupOf (H : Hp) (x : V) : List V := (seqOf H x).getD []
def spInit (C CP : Addr) : Sp := fun vs H Q E => ∃ (o dx : Addr) (v : V), vs = [.ref o, v] ∧ H o = some (.ins C dx []) ∧ OkV H v ∧ (∀ xs, seqOf H v = some xs → xs.length ≤ 20 ∧ ∀ x, x ∈ xs → OkItems H x) ∧
  (seqOf H v = none → ∀ H' d, Same H H' → H d = none → H' d = some (.xd [("at", .int (-1))]) → E (.ref CP) (some d) H') ∧
  (∀ xs i, seqOf H v = some xs → (∃ h : i < xs.length, (∀ j (hj : j < xs.length), j < i → deedB H xs[j] = true) ∧ deedB H xs[i] = false) → ∀ H' d, Same H H' → H d = none → H' d = some (.xd [("at", .int (i : Nat))]) → E (.ref CP) (some d) H') ∧
  (∀ xs, seqOf H v = some xs → (∀ x, x ∈ xs → deedB H x = true) → ∀ H' t ws, (∀ b u, b ≠ o → H b = some u → H' b = some u) → H' o = some (.ins C dx [("deeds", .ref t)]) → H' t = some (.tup ws) → Paired (fun w x => ∃ c, w = V.ref c ∧ H' c = some (.tup (tupOf H x))) ws xs → Q .non H')
theorem deedB_same {H H' : Hp} (s : Same H H') {x : V} (o : OkV H x) : deedB H' x = deedB H x := by
  unfold deedB
  rw [o.seq_same s]
theorem OkItems.same {H H' : Hp} (s : Same H H') {x : V} (o : OkItems H x) : OkItems H' x := ⟨o.1.same s, fun xs h y hy => by
  rw [o.1.seq_same s] at h
  exact ⟨(o.2 xs h y hy).1.same s, (o.2 xs h y hy).2⟩⟩
section
variable {P : Program} {w : World} {K : W.Frag} {mg : Str → Option Value} {base : Heap}
abbrev sInit : Stmt := inClass sPlan 0
theorem scIn : FnScope ["self", "deeds", "at", "told"] ["self", "deeds"] (defScope sInit) := ⟨rfl, rfl, rfl, by decide +kernel, rfl, by decide +kernel, by decide +kernel⟩
theorem ok_init {f C CP : Addr} {fd : FuncData} (F : Fun K "__init__" "Plan.__init__" sInit f fd) (B : Bl mg) (cl : Cls K C) (na : NoAttr K C "deeds") (cP : CE P w K mg base "InvalidPlan" CP "at") (Sq : Callee P w K mg base "is_sequence" 1 ["value"] spSeq) (Dd : Callee P w K mg base "_is_deed" 2 ["value"] spDeed) :
    FnOk P w K mg base (L2.CX P w) 3 f fd ["self", "deeds"] (spInit C CP) := by
  refine F.okX scIn (fun vs H Q E h => ?_) (fun cdv A outer s H vs Q E hr h => ?_)
  · obtain ⟨o, dx, v, rfl, _⟩ := h
    rfl
  · obtain ⟨o, dx, v, rfl, ho, ov, items, no, bad, good⟩ := h
    have hr1 := hr.mono (show 1 ≤ 2 by decide)
    refine ⟨_, pss_cons (ps_if (pt_not (pt_val (pe_callee Sq hr1 rfl (pa_cons (pv 1) pa_nil)))) (pss_one (ps_raise rfl (takes_of rfl rfl rfl rfl) (pmk_exn cP hr rfl (pe_un un_neg pe_int)))) pss_nil)
      (pss_cons (ps_for PassesOwn.leaving rfl (pi_enumS (by rfl) B.enu (pa_cons (pv 1) pa_nil)) (pg_tup rfl (pgs_cons (pg_name (i := 2) scIn.nd rfl (Or.inl rfl)) (pgs_cons (pg_name (i := 3) scIn.nd rfl (Or.inl rfl)) pgs_nil)))
        (pss_one (ps_if (pt_not (pt_val (pe_callee Dd hr rfl (pa_cons (pv 3) pa_nil)))) (pss_one (ps_raise rfl (takes_of rfl rfl rfl rfl) (pmk_exn cP hr rfl (pv 2)))) pss_nil)))
      (pss_one (ps_fld (pv 0) (pe_callTy call_tuple_of (by rfl) B.tuple (by decide +kernel) (pa_cons (pe_lc (own := [("told", 3)]) (g := gName 3) (tt := tYes) (by rfl) scIn.nd (PI_or (pi_list (pv 1)) (pi_tup (pv 1)))
        (blkOk_by (own := [("told", 3)]) (N := ["self", "deeds", "at", "told"]) (sc := defScope sInit) (by decide +kernel))
        (fun _ _ _ _ _ => pg_name (i := 3) scIn.nd rfl (Or.inl rfl)) (fun _ _ _ _ _ => pts_nil)
        (fun _ _ _ _ _ => (show PE _ _ (tCB (fun xs H Q => ∃ p ys, xs = [V.ref p] ∧ ((SqL K H p ys ∧ ∀ (l : Addr), H l = none → Q (.ref l) (upd H l (.tup ys))) ∨ SqT K H p ys ∧ Q (.ref p) H)) (tCons (tVar 3) tNil)) from pe_callTy call_tuple_of (by rfl) B.tuple (by decide +kernel) (pa_cons (pv 3) pa_nil)))) pa_nil)) rfl))), ?_⟩
    refine ⟨_, rfl, v, rfl, ov, fun H1 s1 => ?_⟩
    cases e : seqOf H v with
    | none =>
      refine ⟨_, rfl, iteT ⟨_, rfl, _, rfl, fun d nd => ?_⟩⟩
      exact no e _ d (s1.trans (same_upd nd)) (s1.free nd) upd_same
    | some xs =>
      obtain ⟨l20, it⟩ := items xs e
      refine ⟨_, rfl, iteF ?_⟩
      obtain ⟨a, rfl, ha⟩ := seq_of e
      rcases ha with ea | ea
      · refine ⟨_, rfl, a, rfl, .inl ⟨xs, SqL.of (s1 _ _ ea), for_it (walk_enum (xs := xs)) (fun i σ H' => ∃ v2 v3 : Option V, σ = [some (.ref o), some (.ref a), v2, v3] ∧ Same H H' ∧ ∀ j (h : j < xs.length), j < i → deedB H xs[j] = true)
          ⟨_, _, rfl, s1, fun j _ h => absurd h (Nat.not_lt_zero _)⟩ (fun i σ H' _ z => ?_) ?_ ?_⟩⟩
        · obtain ⟨_, _, _, s, _⟩ := z
          exact SqL.of (s _ _ ea)
        · rintro i x σ H2 H2' hi ⟨v2, v3, rfl, s2, ok⟩ ⟨t, y, z, rfl, nt, rfl, hy, hz⟩
          cases hy
          have hz : xs[i]? = some z := hz
          obtain ⟨_, ez⟩ := List.getElem?_eq_some_iff.mp hz
          have s3 := same_upd (o := .tup [.int (i : Nat), z]) nt
          have s23 := s2.trans s3
          have iz := it z (List.mem_of_getElem? hz)
          refine ⟨t, _, rfl, SqT.of upd_same, rfl, _, _, rfl, _, _, rfl, ⟨rfl, _, rfl, z, rfl, iz.same s23, fun H5 s5 => ?_⟩⟩
          rw [deedB_same s23 iz.1]
          have s25 := s23.trans s5
          cases er : deedB H z with
          | false =>
            refine ⟨_, rfl, iteT ⟨_, rfl, _, rfl, fun d nd => ?_⟩⟩
            exact bad xs i e ⟨hi, ok, by rw [ez]; exact er⟩ _ d (s25.trans (same_upd nd)) (s25.free nd) upd_same
          | true =>
            refine ⟨_, rfl, iteF ⟨_, _, rfl, s25, fun j h hj => ?_⟩⟩
            rcases Nat.lt_succ_iff_lt_or_eq.mp hj with y | rfl
            · exact ok j h y
            · rw [ez]
              exact er
        · rintro σ H2 ⟨v2, v3, rfl, s2, ok⟩
          have deed : ∀ x, x ∈ xs → deedB H x = true := fun x hx => by
            obtain ⟨j, hj, rfl⟩ := List.getElem_of_mem hx
            exact ok j hj hj
          have ea2 := s2 _ _ ea
          refine .inl ⟨_, rfl, a, rfl, ⟨_, SqL.of ea2⟩, fun D nD => ?_⟩
          refine lc_list (xs := xs) (fun i H' => ∃ ws, Same H2 H' ∧ H' D = some (.lst ws) ∧ Paired (fun w x => ∃ c, w = V.ref c ∧ H' c = some (.tup (tupOf H x))) ws (xs.take i)) ⟨[], same_upd nD, upd_same, .nil⟩ (fun i H' _ z => ?_) ?_ ?_
          · obtain ⟨_, s, _⟩ := z
            exact SqL.of (s _ _ ea2)
          · rintro i x H3 hx ⟨ws, s3, at_D, pw⟩
            obtain ⟨hi, rfl⟩ := List.getElem?_eq_some_iff.mp hx
            have lw := paired_len pw
            rw [List.length_take] at lw
            have dx' := deed _ (List.getElem_mem hi)
            obtain ⟨zs, hzs⟩ : ∃ zs, seqOf H xs[i] = some zs := by
              cases hq : seqOf H xs[i] with
              | none => unfold deedB at dx'; rw [hq] at dx'; cases dx'
              | some zs => exact ⟨zs, rfl⟩
            obtain ⟨c, hc, ec⟩ := seq_of hzs
            have tz : tupOf H xs[i] = zs := by
              unfold tupOf
              rw [hzs]
              rfl
            have s23 := s2.trans s3
            have step : ∀ (u : Addr) (H4 : Hp), Same H3 H4 → H4 u = some (.tup zs) → ∃ acc, H4 D = some (.lst acc) ∧ acc.length < sizeLine ∧ ∃ ws', Same H2 (upd H4 D (.lst (acc ++ [.ref u]))) ∧ upd H4 D (.lst (acc ++ [.ref u])) D = some (.lst ws') ∧ Paired (fun w x => ∃ c, w = V.ref c ∧ upd H4 D (.lst (acc ++ [.ref u])) c = some (.tup (tupOf H x))) ws' (xs.take (i + 1)) := by
              intro u H4 s4 hu
              have at_D4 := s4 _ _ at_D
              have line : (100 : Nat) ≤ sizeLine := by decide
              have up : ∀ {c ys}, H4 c = some (.tup ys) → upd H4 D (.lst (ws ++ [.ref u])) c = some (.tup ys) := fun {c ys} e => by
                rw [upd_ne (ne_of e at_D4 (fun z => by cases z))]
                exact e
              refine ⟨ws, at_D4, by omega, ws ++ [.ref u], fun b o' e' => ?_, upd_same, ?_⟩
              · rw [upd_ne (ne_of_none e' nD)]
                exact s4 _ _ (s3 _ _ e')
              · rw [List.take_succ_eq_append_getElem hi]
                exact paired_snoc (paired_mono (fun _ _ ⟨c, e', ec⟩ => ⟨c, e', up (s4 _ _ ec)⟩) pw) ⟨u, rfl, up (by rw [tz]; exact hu)⟩
            refine ⟨rfl, kept ⟨_, rfl, c, zs, by rw [hc], ?_⟩⟩
            rcases ec with ec | ec
            · exact .inl ⟨SqL.of (s23 _ _ ec), fun u nu => step u _ (same_upd nu) upd_same⟩
            · refine .inr ⟨SqT.of (s23 _ _ ec), ?_⟩
              exact step c _ (Same.refl _) (s23 _ _ ec)
          · rintro H3 ⟨ws, s3, at_D, pw⟩
            rw [List.take_length] at pw
            refine ⟨D, _, rfl, .inl ⟨SqL.of at_D, fun u nu => ?_⟩⟩
            have s4 := same_upd (o := .tup ws) nu
            have s24 := (s2.trans s3).trans s4
            have o4 := s24 _ _ ho
            refine ⟨_, rfl, o, C, dx, [], rfl, o4, cl, na, by decide, ?_⟩
            have up : ∀ {c ys fs}, upd H3 u (.tup ws) c = some (.tup ys) → upd (upd H3 u (.tup ws)) o (.ins C dx fs) c = some (.tup ys) := fun {c ys fs} e => by
              rw [upd_ne (ne_of e o4 (fun z => by cases z))]
              exact e
            refine good xs e deed _ u ws (fun b w ne e' => ?_) upd_same (up upd_same) (paired_mono (fun _ _ ⟨c, e', ec⟩ => ⟨c, e', up (s4 _ _ ec)⟩) pw)
            rw [upd_ne ne]
            exact s24 _ _ e'
      · refine ⟨_, rfl, a, rfl, .inr ⟨xs, SqT.of (s1 _ _ ea), for_it (walk_enumT (xs := xs)) (fun i σ H' => ∃ v2 v3 : Option V, σ = [some (.ref o), some (.ref a), v2, v3] ∧ Same H H' ∧ ∀ j (h : j < xs.length), j < i → deedB H xs[j] = true)
          ⟨_, _, rfl, s1, fun j _ h => absurd h (Nat.not_lt_zero _)⟩ (fun i σ H' _ z => ?_) ?_ ?_⟩⟩
        · obtain ⟨_, _, _, s, _⟩ := z
          exact SqT.of (s _ _ ea)
        · rintro i x σ H2 H2' hi ⟨v2, v3, rfl, s2, ok⟩ ⟨t, y, z, rfl, nt, rfl, hy, hz⟩
          cases hy
          have hz : xs[i]? = some z := hz
          obtain ⟨_, ez⟩ := List.getElem?_eq_some_iff.mp hz
          have s3 := same_upd (o := .tup [.int (i : Nat), z]) nt
          have s23 := s2.trans s3
          have iz := it z (List.mem_of_getElem? hz)
          refine ⟨t, _, rfl, SqT.of upd_same, rfl, _, _, rfl, _, _, rfl, ⟨rfl, _, rfl, z, rfl, iz.same s23, fun H5 s5 => ?_⟩⟩
          rw [deedB_same s23 iz.1]
          have s25 := s23.trans s5
          cases er : deedB H z with
          | false =>
            refine ⟨_, rfl, iteT ⟨_, rfl, _, rfl, fun d nd => ?_⟩⟩
            exact bad xs i e ⟨hi, ok, by rw [ez]; exact er⟩ _ d (s25.trans (same_upd nd)) (s25.free nd) upd_same
          | true =>
            refine ⟨_, rfl, iteF ⟨_, _, rfl, s25, fun j h hj => ?_⟩⟩
            rcases Nat.lt_succ_iff_lt_or_eq.mp hj with y | rfl
            · exact ok j h y
            · rw [ez]
              exact er
        · rintro σ H2 ⟨v2, v3, rfl, s2, ok⟩
          have deed : ∀ x, x ∈ xs → deedB H x = true := fun x hx => by
            obtain ⟨j, hj, rfl⟩ := List.getElem_of_mem hx
            exact ok j hj hj
          have ea2 := s2 _ _ ea
          refine .inr ⟨_, rfl, a, rfl, ⟨_, SqT.of ea2⟩, fun D nD => ?_⟩
          refine lc_tup (xs := xs) (fun i H' => ∃ ws, Same H2 H' ∧ H' D = some (.lst ws) ∧ Paired (fun w x => ∃ c, w = V.ref c ∧ H' c = some (.tup (tupOf H x))) ws (xs.take i)) ⟨[], same_upd nD, upd_same, .nil⟩ (fun i H' _ z => ?_) ?_ ?_
          · obtain ⟨_, s, _⟩ := z
            exact SqT.of (s _ _ ea2)
          · rintro i x H3 hx ⟨ws, s3, at_D, pw⟩
            obtain ⟨hi, rfl⟩ := List.getElem?_eq_some_iff.mp hx
            have lw := paired_len pw
            rw [List.length_take] at lw
            have dx' := deed _ (List.getElem_mem hi)
            obtain ⟨zs, hzs⟩ : ∃ zs, seqOf H xs[i] = some zs := by
              cases hq : seqOf H xs[i] with
              | none => unfold deedB at dx'; rw [hq] at dx'; cases dx'
              | some zs => exact ⟨zs, rfl⟩
            obtain ⟨c, hc, ec⟩ := seq_of hzs
            have tz : tupOf H xs[i] = zs := by
              unfold tupOf
              rw [hzs]
              rfl
            have s23 := s2.trans s3
            have step : ∀ (u : Addr) (H4 : Hp), Same H3 H4 → H4 u = some (.tup zs) → ∃ acc, H4 D = some (.lst acc) ∧ acc.length < sizeLine ∧ ∃ ws', Same H2 (upd H4 D (.lst (acc ++ [.ref u]))) ∧ upd H4 D (.lst (acc ++ [.ref u])) D = some (.lst ws') ∧ Paired (fun w x => ∃ c, w = V.ref c ∧ upd H4 D (.lst (acc ++ [.ref u])) c = some (.tup (tupOf H x))) ws' (xs.take (i + 1)) := by
              intro u H4 s4 hu
              have at_D4 := s4 _ _ at_D
              have line : (100 : Nat) ≤ sizeLine := by decide
              have up : ∀ {c ys}, H4 c = some (.tup ys) → upd H4 D (.lst (ws ++ [.ref u])) c = some (.tup ys) := fun {c ys} e => by
                rw [upd_ne (ne_of e at_D4 (fun z => by cases z))]
                exact e
              refine ⟨ws, at_D4, by omega, ws ++ [.ref u], fun b o' e' => ?_, upd_same, ?_⟩
              · rw [upd_ne (ne_of_none e' nD)]
                exact s4 _ _ (s3 _ _ e')
              · rw [List.take_succ_eq_append_getElem hi]
                exact paired_snoc (paired_mono (fun _ _ ⟨c, e', ec⟩ => ⟨c, e', up (s4 _ _ ec)⟩) pw) ⟨u, rfl, up (by rw [tz]; exact hu)⟩
            refine ⟨rfl, kept ⟨_, rfl, c, zs, by rw [hc], ?_⟩⟩
            rcases ec with ec | ec
            · exact .inl ⟨SqL.of (s23 _ _ ec), fun u nu => step u _ (same_upd nu) upd_same⟩
            · refine .inr ⟨SqT.of (s23 _ _ ec), ?_⟩
              exact step c _ (Same.refl _) (s23 _ _ ec)
          · rintro H3 ⟨ws, s3, at_D, pw⟩
            rw [List.take_length] at pw
            refine ⟨D, _, rfl, .inl ⟨SqL.of at_D, fun u nu => ?_⟩⟩
            have s4 := same_upd (o := .tup ws) nu
            have s24 := (s2.trans s3).trans s4
            have o4 := s24 _ _ ho
            refine ⟨_, rfl, o, C, dx, [], rfl, o4, cl, na, by decide, ?_⟩
            have up : ∀ {c ys fs}, upd H3 u (.tup ws) c = some (.tup ys) → upd (upd H3 u (.tup ws)) o (.ins C dx fs) c = some (.tup ys) := fun {c ys fs} e => by
              rw [upd_ne (ne_of e o4 (fun z => by cases z))]
              exact e
            refine good xs e deed _ u ws (fun b w ne e' => ?_) upd_same (up upd_same) (paired_mono (fun _ _ ⟨c, e', ec⟩ => ⟨c, e', up (s4 _ _ ec)⟩) pw)
            rw [upd_ne ne]
            exact s24 _ _ e'
end
end K17

namespace K17
open PySem PySem.Spec PyProof.Rows L2
open Cal EnuT Exn Keys

def spAsked : Sp := fun vs H Q _ => ∃ (c : Addr) (d : Str × Str), vs = [.ref c] ∧ H c = some (.tup [.str d.1, .str d.2]) ∧ ∀ H', Same H H' → Q (if d.1 ∈ (["drain", "off"] : List Str) then .str d.2 else .non) H'
section
variable {P : Program} {w : World} {K : W.Frag} {mg : Str → Option Value} {base : Heap}
theorem scAs : FnScope ["told"] ["told"] (defScope sAsked) := ⟨rfl, rfl, rfl, by decide +kernel, rfl, by decide +kernel, by decide +kernel⟩
theorem ok_asked {f : Addr} {fd : FuncData} (F : Fun K "asked_empty" "asked_empty" sAsked f fd) : FnOk P w K mg base CX0 1 f fd ["told"] spAsked := by
  refine F.ok scAs (fun vs H Q E h => ?_) (fun cdv A outer s H vs Q E hr h => ?_)
  · obtain ⟨c, d, rfl, _⟩ := h
    rfl
  · obtain ⟨c, d, rfl, hc, k⟩ := h
    refine ⟨_, pss_one (ps_ret (pe_ifExp (pt_cmpR op_in_seq (pe_ix ix_tup (pv 0) pe_int (fun _ _ => rfl)) (pe_tup (pa_cons pe_str (pa_cons pe_str pa_nil))) (by rfl)) (pe_ix ix_tup (pv 0) pe_int (fun _ _ => rfl)) pe_non)), ?_⟩
    refine ⟨_, rfl, c, _, _, .str d.1, rfl, rfl, SqT.of hc, atI_nat (j := 0) rfl, by show 2 ≤ sizeLine; decide, fun t nt => ?_⟩
    have s1 := same_upd (o := .tup ((["drain", "off"] : List Str).map V.str)) nt
    refine ⟨t, (["drain", "off"] : List Str).map V.str, rfl, .inr (SqT.of upd_same), rfl, flat_strs _, _, rfl, ?_⟩
    rw [inV_strs]
    have q := k _ s1
    refine ite2 (fun h => ?_) (fun h => ?_)
    · have h : d.1 ∈ (["drain", "off"] : List Str) := by simpa using h
      rw [if_pos h] at q
      exact ⟨_, rfl, c, _, _, .str d.2, rfl, rfl, SqT.of (s1 _ _ hc), atI_nat (j := 1) rfl, q⟩
    · have h : ¬ d.1 ∈ (["drain", "off"] : List Str) := by simpa using h
      rw [if_neg h] at q
      exact q
abbrev sText : Stmt := inClass sPlan 3
/-- a plan at o that keeps these deeds -/
def PlanIns (H : Hp) (C o : Addr) (ds : List (Str × Str)) : Prop := ∃ dx t ws, H o = some (.ins C dx [("deeds", .ref t)]) ∧ H t = some (.tup ws) ∧ Paired (DeedAt H) ws ds
theorem PlanIns.same {H H' : Hp} {C o : Addr} {ds : List (Str × Str)} (s : Same H H') (p : PlanIns H C o ds) : PlanIns H' C o ds := by
  obtain ⟨dx, t, ws, h1, h2, pw⟩ := p
  exact ⟨dx, t, ws, s _ _ h1, s _ _ h2, paired_mono (fun _ _ ⟨c, e, ec⟩ => ⟨c, e, s _ _ ec⟩) pw⟩
def rowOf (d : Str × Str) : Str := Txt.join " " [d.1, d.2]
def textOf (ds : List (Str × Str)) : Str := Txt.join "\n" (ds.map rowOf)
theorem row_short : ∀ d : Str × Str, d.1 ∈ words → d.2 ∈ pnames → (rowOf d).length ≤ 20 ∧ d.1.length ≤ 10 ∧ d.2.length ≤ 10 := by
  have h : (words.all fun a => pnames.all fun b => decide ((rowOf (a, b)).length ≤ 20) && decide (a.length ≤ 10) && decide (b.length ≤ 10)) = true := by decide +kernel
  intro d h1 h2
  have := List.all_eq_true.mp (List.all_eq_true.mp h d.1 h1) d.2 h2
  simp only [Bool.and_eq_true, decide_eq_true_eq] at this
  exact ⟨this.1.1, this.1.2, this.2⟩
def spText (C : Addr) : Sp := fun vs H Q _ => ∃ (o : Addr) (ds : List (Str × Str)), vs = [.ref o] ∧ PlanIns H C o ds ∧ GoodDeeds ds ∧ ∀ H', Same H H' → Q (.str (textOf ds)) H'
theorem paired_get {α β : Type} {R : α → β → Prop} : ∀ {xs : List α} {ys : List β} {i : Nat} {x : α}, Paired R xs ys → xs[i]? = some x → ∃ y, ys[i]? = some y ∧ R x y
  | _, _, 0, _, .cons r _, h => ⟨_, rfl, by cases h; exact r⟩
  | _, _, i + 1, _, .cons _ t, h => paired_get (i := i) t h
  | _, _, _, _, .nil, h => nomatch h
theorem sum_le (xs : List Nat) (n : Nat) (h : ∀ x, x ∈ xs → x ≤ n) : xs.sum ≤ xs.length * n := by
  induction xs with
  | nil => simp
  | cons x xs ih =>
    have := ih fun y hy => h y (List.mem_cons_of_mem _ hy)
    have := h x (List.mem_cons_self ..)
    simp [Nat.add_mul]
    omega
theorem scTx : FnScope ["self", "told"] ["self"] (defScope sText) := ⟨rfl, rfl, rfl, by decide +kernel, rfl, by decide +kernel, by decide +kernel⟩
theorem ok_text {f C : Addr} {fd : FuncData} (F : Fun K "text" "Plan.text" sText f fd) (cl : Cls K C) (na : NoAttr K C "deeds") : FnOk P w K mg base CX0 1 f fd ["self"] (spText C) := by
  refine F.ok scTx (fun vs H Q E h => ?_) (fun cdv A outer s H vs Q E hr h => ?_)
  · obtain ⟨o, ds, rfl, _⟩ := h
    rfl
  · obtain ⟨o, ds, rfl, ⟨dx, t, ws, ho, ht, pw⟩, ⟨d5, gd⟩, k⟩ := h
    refine ⟨_, pss_one (ps_ret (pe_join pe_str (pe_lc (own := [("told", 1)]) (g := gName 1) (tt := tYes) (by rfl) scTx.nd (pi_tup (pe_fld (pv 0) rfl))
      (blkOk_by (own := [("told", 1)]) (N := ["self", "told"]) (sc := defScope sText) (by decide +kernel))
      (fun _ _ _ _ _ => pg_name (i := 1) scTx.nd rfl (Or.inl rfl)) (fun _ _ _ _ _ => pts_nil)
      (fun _ _ _ _ _ => (show PE _ _ (tM1 (fun x xs H Q => ∃ a p ys, x = V.str a ∧ xs = [V.ref p] ∧ (SqL K H p (List.map V.str ys) ∨ SqT K H p (List.map V.str ys)) ∧ (List.map (fun x => x.length) ys).sum + ys.length * a.length ≤ 16777216 ∧ Q (V.str (Txt.join a ys)) H) (tC (.str " ")) (tVar 1)) from pe_join pe_str (pv 1)))))), ?_⟩
    have lw := paired_len pw
    refine ⟨⟨_, rfl⟩, _, rfl, o, C, dx, _, _, rfl, ho, cl, na, rfl, t, rfl, ⟨_, SqT.of ht⟩, fun D nD => ?_⟩
    refine lc_tup (xs := ws) (fun i H' => Same H H' ∧ H' D = some (.lst (((ds.take i).map rowOf).map V.str))) ⟨same_upd nD, upd_same⟩ (fun i H' _ z => SqT.of (z.1 _ _ ht)) ?_ ?_
    · rintro i x H1 hx ⟨s1, at_D⟩
      have hi : i < ds.length := by
        have := (List.getElem?_eq_some_iff.mp hx).1
        omega
      obtain ⟨c, rfl, ec⟩ : DeedAt H x ds[i] := by
        obtain ⟨d, hd, r⟩ := paired_get pw hx
        obtain ⟨_, rfl⟩ := List.getElem?_eq_some_iff.mp hd
        exact r
      obtain ⟨g1, g2⟩ := gd _ (List.getElem_mem hi)
      obtain ⟨r1, r2, r3⟩ := row_short ds[i] g1 g2
      refine ⟨rfl, kept ⟨⟨_, rfl⟩, _, rfl, " ", c, [ds[i].1, ds[i].2], rfl, rfl, .inr (SqT.of (s1 _ _ ec)), ?_, _, at_D, ?_, fun b o e => ?_, ?_⟩⟩
      · show (ds[i].1.length + (ds[i].2.length + 0)) + 2 * (" " : Str).length ≤ 16777216
        have : (" " : Str).length = 1 := rfl
        omega
      · have : (100 : Nat) ≤ sizeLine := by decide
        rw [List.length_map, List.length_map, List.length_take]
        omega
      · rw [upd_ne (ne_of_none e nD)]
        exact s1 _ _ e
      · rw [upd_same, List.take_succ_eq_append_getElem hi, List.map_append, List.map_append]
        rfl
    · rintro H1 ⟨s1, at_D⟩
      rw [lw, List.take_length] at at_D
      refine ⟨"\n", D, ds.map rowOf, rfl, rfl, .inl (SqL.of at_D), ?_, k _ s1⟩
      have := sum_le ((ds.map rowOf).map fun x => x.length) 20 (fun x hx => by
        obtain ⟨r, hr, rfl⟩ := List.mem_map.mp hx
        obtain ⟨d, hd, rfl⟩ := List.mem_map.mp hr
        exact (row_short d (gd d hd).1 (gd d hd).2).1)
      rw [List.length_map, List.length_map] at this
      rw [List.length_map]
      have e : ("\n" : Str).length = 1 := rfl
      rw [e]
      omega
end
end K17

namespace K17
open PySem PySem.Spec PyProof.Rows L2
open Cal EnuT Exn Keys

def deedD (d : Str × Str) : PyData := .tuple [.str d.1, .str d.2]
def deedsD (ds : List (Str × Str)) : PyData := .tuple (ds.map deedD)
theorem eqv_deed (d e : Str × Str) : PyData.eqv (deedD d) (deedD e) = decide (d = e) := by
  obtain ⟨a, b⟩ := d
  obtain ⟨a', b'⟩ := e
  by_cases h1 : a = a' <;> by_cases h2 : b = b' <;> simp [deedD, PyData.eqv, PyData.eqvAll, h1, h2]
theorem eqv_deeds (ds es : List (Str × Str)) : PyData.eqv (deedsD ds) (deedsD es) = decide (ds = es) := by
  have h : PyData.eqvAll (ds.map deedD) (es.map deedD) = decide (ds = es) := by
    induction ds generalizing es with
    | nil => cases es <;> simp [PyData.eqvAll]
    | cons d ds ih =>
      cases es with
      | nil => simp [PyData.eqvAll]
      | cons e es =>
        simp only [List.map_cons, PyData.eqvAll, eqv_deed, ih]
        by_cases h1 : d = e <;> by_cases h2 : ds = es <;> simp [h1, h2]
  simp only [deedsD, PyData.eqv, h]
theorem dps_deeds {K : W.Frag} {H : Hp} : ∀ {ws : List V} {ds : List (Str × Str)}, Paired (DeedAt H) ws ds → DpAll K H ws (ds.map deedD)
  | _, _, .nil => .nil
  | _, _, .cons ⟨c, e, ec⟩ t => by
    subst e
    exact .cons (.tup (SqT.of ec) (.cons (.str _) (.cons (.str _) .nil))) (dps_deeds t)
theorem dp_deeds {K : W.Frag} {H : Hp} {t : Addr} {ws : List V} {ds : List (Str × Str)} (ht : H t = some (.tup ws)) (pw : Paired (DeedAt H) ws ds) : Dp K H (.ref t) (deedsD ds) := .tup (SqT.of ht) (dps_deeds pw)
theorem lay_deed : ∀ d : Str × Str, d.1 ∈ words → d.2 ∈ pnames → (deedD d).canLay0 = true := by
  have h : (words.all fun a => pnames.all fun b => (deedD (a, b)).canLay0) = true := by decide +kernel
  intro d h1 h2
  exact List.all_eq_true.mp (List.all_eq_true.mp h d.1 h1) d.2 h2
theorem shaped_deeds {ds : List (Str × Str)} (g : GoodDeeds ds) : SeqAt.shaped (deedsD ds) = true := by
  have h : ∀ ds : List (Str × Str), (∀ d, d ∈ ds → d.1 ∈ words ∧ d.2 ∈ pnames) → PyData.canLayAll0 (ds.map deedD) = true ∧ PyData.depthAll (ds.map deedD) ≤ 2 := by
    intro ds
    induction ds with
    | nil => exact fun _ => ⟨by simp [PyData.canLayAll0], by simp [PyData.depthAll]⟩
    | cons d ds ih =>
      intro g
      obtain ⟨i1, i2⟩ := ih fun e he => g e (List.mem_cons_of_mem _ he)
      obtain ⟨g1, g2⟩ := g d (List.mem_cons_self ..)
      have e1 := lay_deed d g1 g2
      have e2 : (deedD d).depth ≤ 2 := by simp [deedD, PyData.depth, PyData.depthAll]
      refine ⟨?_, ?_⟩
      · rw [List.map_cons, PyData.canLayAll0, e1, i1]
        rfl
      · rw [List.map_cons, PyData.depthAll]
        omega
  obtain ⟨h1, h2⟩ := h ds g.2
  simp only [SeqAt.shaped, deedsD, PyData.canLay0, PyData.depth, h1, Bool.true_and, decide_eq_true_eq]
  omega
abbrev sEq : Stmt := inClass sPlan 1
/-- == of a plan with a plan, or with something else -/
def spEq (K : W.Frag) (C : Addr) : Sp := fun vs H Q _ => ∃ (o : Addr) (y : V) (ds : List (Str × Str)), vs = [.ref o, y] ∧ PlanIns H C o ds ∧ GoodDeeds ds ∧
  ((∃ o2 es, y = .ref o2 ∧ PlanIns H C o2 es ∧ GoodDeeds es ∧ Q (.bl (decide (ds = es))) H) ∨ (∃ t, TyX K H y t ∧ W.kitOne K t (.ref C) = some false ∧ Q (.bl false) H))
section
variable {P : Program} {w : World} {K : W.Frag} {mg : Str → Option Value} {base : Heap}
theorem scEq : FnScope ["self", "other"] ["self", "other"] (defScope sEq) := ⟨rfl, rfl, rfl, by decide +kernel, rfl, by decide +kernel, by decide +kernel⟩
theorem ok_eq {f C : Addr} {fd : FuncData} (F : Fun K "__eq__" "Plan.__eq__" sEq f fd) (B : Bl mg) (cl : Cls K C) (na : NoAttr K C "deeds") (mC : mg "Plan" = some (.ref C)) (ty : ∀ (H : Hp) (a dx : Addr) (fs : List (Str × V)), H a = some (.ins C dx fs) → TyX K H (.ref a) (.ref C)) (self : W.kitOne K (.ref C) (.ref C) = some true) :
    FnOk P w K mg base CX0 1 f fd ["self", "other"] (spEq K C) := by
  refine F.ok scEq (fun vs H Q E h => ?_) (fun cdv A outer s H vs Q E hr h => ?_)
  · obtain ⟨o, y, ds, rfl, _⟩ := h
    rfl
  · obtain ⟨o, y, ds, rfl, ⟨dx, t, ws, ho, ht, pw⟩, g, q⟩ := h
    have un := hr.units
    refine ⟨_, pss_one (ps_ret (pe_and (pe_callB call_isi (by rfl) B.isi (by decide +kernel) (pa_cons (pv 1) (pa_cons (pe_glob (v := .ref C) rfl mC rfl) pa_nil))) (pe_one (pe_cmpR (op_eqD un) (pe_fld (pv 0) rfl) (pe_fld (pv 1) rfl) (nomark _))))), ?_⟩
    rcases q with ⟨o2, es, rfl, ⟨dx2, t2, ws2, ho2, ht2, pw2⟩, g2, q⟩ | ⟨ty2, hty, no, q⟩
    · refine ⟨_, rfl, _, _, _, _, _, rfl, .own C, ty _ _ _ _ ho2, self, _, rfl, iteT ?_⟩
      refine ⟨_, rfl, o, C, dx, _, _, rfl, ho, cl, na, rfl, _, rfl, o2, C, dx2, _, _, rfl, ho2, cl, na, rfl, deedsD ds, deedsD es, dp_deeds ht pw, dp_deeds ht2 pw2, shaped_deeds g, shaped_deeds g2, ?_⟩
      rw [eqv_deeds]
      exact q
    · exact ⟨_, rfl, _, _, _, _, _, rfl, .own C, hty, no, _, rfl, iteF q⟩
end
end K17

namespace K17
open PySem PySem.Spec PyProof.Rows L2
open Cal EnuT Exn Keys

/-- a def by its name, which may raise -/
def CalleeX (P : Program) (w : World) (K : W.Frag) (mg : Str → Option Value) (base : Heap) (x : Str) (k : Nat) (ps : List Str) (sp : Sp) : Prop :=
  ∃ f fd, mg x = some (.ref f) ∧ W.keepIn K (.ref f) = true ∧ Binds K fd ps [] ∧ FnOk P w K mg base (L2.CX P w) k f fd ps sp
theorem pe_calleeX {X : Cx} {x : Str} {k : Nat} {ps : List Str} {sp : Sp} {E : XK} {p pos : Pos} {e : Expr} {es : List Expr} {t : TA} (c : CalleeX X.prog X.w X.K X.mg X.base x k ps sp) (hr : Room k X.A) (hg : Gl X x) (hx : Passes (L2.CX X.prog X.w) X E) (ha : PA X (e :: es) t)
    (hdb : (x == ("__debug__" : Str)) = false := by decide) (he : starEach (e :: es) X.env = (false, eval e X.env) :: starEach es X.env := by rfl) (hpl : (backTo pos (starEach es X.env)).any (·.1) = false := by rfl) :
    PE X (.Call (.Name x p) (e :: es) [] pos) (tCall sp [] E t) := by
  obtain ⟨f, fd, m, kp, b, F⟩ := c
  exact pe_call F hr hg m kp b .nil hx ha hdb he hpl
theorem str_nil {s : Str} (h : s.length = 0) : s = "" := by
  obtain ⟨c⟩ := s
  have : c = #[] := Array.eq_empty_of_size_eq_zero h
  rw [this]
  rfl
def rowsOf (s : Str) : List Str := if s = "" then [] else Txt.split s "\n"
def deedOf (r : Str) : Str × Str := match Txt.split r " " with
  | [a, y] => (a, y)
  | _ => ("", "")
/-- a text that is short -/
def Short (s : Str) : Prop := s.length ≤ 1000 ∧ (rowsOf s).length ≤ 20 ∧ ∀ r, r ∈ rowsOf s → r.length ≤ 900 ∧ ∀ t, t ∈ Txt.split r " " → t.length ≤ 1000
def spPlanRead (C CT : Addr) : Sp := fun vs H Q E => ∃ v : V, vs = [v] ∧ OkV H v ∧
  (isStr v = false → ∀ H' d, Same H H' → H d = none → H' d = some (.xd [("at", .int 0)]) → E (.ref CT) (some d) H') ∧
  ∀ s, v = .str s → Short s ∧ ((∀ r, r ∈ rowsOf s → rowB r = true) → ∀ H' o, Same H H' → H o = none → PlanIns H' C o ((rowsOf s).map deedOf) → Q (.ref o) H') ∧
    ∀ i, firstBad (rowsOf s) i → ∀ H' d, Same H H' → H d = none → H' d = some (.xd [("at", .int (i : Nat))]) → E (.ref CT) (some d) H'
theorem split_row {r : Str} (h : rowB r = true) : ∃ a y, Txt.split r " " = [a, y] ∧ deedOf r = (a, y) := by
  unfold rowB at h
  split at h
  · rename_i a y e
    exact ⟨a, y, e, by unfold deedOf; rw [e]⟩
  · cases h
theorem paired_trans {H1 H2 : Hp} : ∀ {ws ls : List V} {rows : List Str}, (∀ r, r ∈ rows → rowB r = true) → Paired (fun w x => ∃ c, w = V.ref c ∧ H2 c = some (.tup (tupOf H1 x))) ws ls → Paired (ToldAt H1) ls rows → Paired (DeedAt H2) ws (rows.map deedOf)
  | _, _, _, _, .nil, .nil => .nil
  | _, _, _, g, .cons ⟨c, e, ec⟩ t, .cons ⟨u, e2, eu⟩ t2 => by
    obtain ⟨a, y, h1, h2⟩ := split_row (g _ (List.mem_cons_self ..))
    refine .cons ⟨c, e, ?_⟩ (paired_trans (fun r hr => g r (List.mem_cons_of_mem _ hr)) t t2)
    rw [ec, e2, h2]
    unfold tupOf
    rw [seqOf_lst eu, h1]
    rfl
theorem told_deed {H : Hp} : ∀ {ls : List V} {rows : List Str}, Paired (ToldAt H) ls rows → (∀ r, r ∈ rows → rowB r = true ∧ ∀ t, t ∈ Txt.split r " " → t.length ≤ 1000) → ∀ x, x ∈ ls → deedB H x = true ∧ OkItems H x
  | _, _, .nil, _, x, h => nomatch h
  | _, _, .cons ⟨u, e, eu⟩ t, g, x, h => by
    rcases List.mem_cons.mp h with z | z
    · obtain ⟨g1, g2⟩ := g _ (List.mem_cons_self ..)
      rw [z, e]
      exact ⟨by rw [deed_row eu]; exact g1, ok_row eu g2⟩
    · exact told_deed t (fun r hr => g r (List.mem_cons_of_mem _ hr)) x z
section
variable {P : Program} {w : World} {K : W.Frag} {mg : Str → Option Value} {base : Heap}
abbrev sPlanRead : Stmt := inClass sPlan 2
theorem scPr : FnScope ["text"] ["text"] (defScope sPlanRead) := ⟨rfl, rfl, rfl, by decide +kernel, rfl, by decide +kernel, by decide +kernel⟩
theorem ok_planread {f C CT CP fI : Addr} {fd fdI : FuncData} (F : Fun K "read" "Plan.read" sPlanRead f fd) (B : Bl mg) (cT : CE P w K mg base "InvalidText" CT "at") (Rd : CalleeX P w K mg base "_read_deeds" 3 ["rows", "first"] (spRead CT))
    (mP : mg "Plan" = some (.ref C)) (mk : Mk K C fI) (bI : Binds K fdI ["self", "deeds"] []) (FI : FnOk P w K mg base (L2.CX P w) 3 fI fdI ["self", "deeds"] (spInit C CP)) :
    FnOk P w K mg base (L2.CX P w) 5 f fd ["text"] (spPlanRead C CT) := by
  refine F.okX scPr (fun vs H Q E h => ?_) (fun cdv A outer s H vs Q E hr h => ?_)
  · obtain ⟨v, rfl, _⟩ := h
    rfl
  · obtain ⟨v, rfl, ov, no, yes⟩ := h
    have hr2 := hr.mono (show 2 ≤ 4 by decide)
    have hr3 := hr.mono (show 3 ≤ 4 by decide)
    refine ⟨_, pss_cons (ps_if (pt_not (pt_val (pe_callB call_isi (by rfl) B.isi (by decide +kernel) (pa_cons (pv 0) (pa_cons (pe_bltn (v := .ty "str") rfl B.str (by decide +kernel) rfl) pa_nil))))) (pss_one (ps_raise rfl (takes_of rfl rfl rfl rfl) (pmk_exn cT hr2 rfl pe_int))) pss_nil)
      (pss_one (ps_ret (pe_make mk FI hr rfl mP bI .nil (passes_call (takes_of rfl rfl rfl rfl) (fun _ _ _ _ h => h)) (pa_cons (pe_calleeX Rd hr3 rfl (passes_call (takes_of rfl rfl rfl rfl) (fun _ _ _ _ h => h))
        (pa_cons (pe_ifExp (pt_truth (pv 0) (by intro _; rfl)) (pe_split (pv 0) pe_str) (pe_lst pa_nil)) (pa_cons pe_int pa_nil))) pa_nil)))), ?_⟩
    obtain ⟨ty, h1, _, h3⟩ := ov.ty (K := K)
    refine ⟨_, rfl, _, _, _, _, _, rfl, .ty "str", h1, h3, _, rfl, ?_⟩
    cases es : isStr v with
    | false => exact iteT ⟨_, rfl, fun d nd => no es _ d (same_upd nd) nd upd_same⟩
    | true =>
      obtain ⟨s, rfl⟩ : ∃ z, v = .str z := by cases v <;> first | exact ⟨_, rfl⟩ | (cases es)
      obtain ⟨⟨s1000, few, short⟩, good, bad⟩ := yes s rfl
      refine iteF ?_
      -- from the rows' list on
      have from_rows : ∀ a H1, Same H H1 → H a = none → H1 a = some (.lst ((rowsOf s).map V.str)) → spRead CT [.ref a, .int 0] H1 (fun v H2 => ∀ x dx, H2 x = none → H2 dx = none → dx ≠ x → spInit C CP [.ref x, v] (upd (upd H2 dx (.own x)) x (.ins C dx [])) (fun u H3 => u = .non ∧ Q (.ref x) H3) E) E := by
        intro a H1 s1 na ea
        refine ⟨a, rowsOf s, rfl, ea, few, short, fun gd H2 l ws s2 nl el pw x dx nx ndx ne => ?_, fun i fb H2 d s2 nd ed => bad i fb H2 d (s1.trans s2) (s1.free nd) ed⟩
        have s3 : Same H2 (upd (upd H2 dx (.own x)) x (.ins C dx [])) := fun b o e => by
          rw [upd_ne (ne_of_none e nx), upd_ne (ne_of_none e ndx)]
          exact e
        have el3 := s3 _ _ el
        have pw3 : Paired (ToldAt (upd (upd H2 dx (.own x)) x (.ins C dx []))) ws (rowsOf s) := paired_mono (fun _ _ ⟨t, e, et⟩ => ⟨t, e, s3 _ _ et⟩) pw
        have dd := told_deed pw3 fun r hr => ⟨gd r hr, (short r hr).2⟩
        have lw := paired_len pw
        refine ⟨x, dx, .ref l, rfl, upd_same, .lst el3, fun xs hx => ?_, fun hn => ?_, fun xs i hx hb => ?_, fun xs hx _ H4 t ws4 k4 e4 et p4 => ⟨rfl, ?_⟩⟩
        · rw [seqOf_lst el3] at hx
          obtain rfl := Option.some.inj hx
          exact ⟨by omega, fun y hy => (dd y hy).2⟩
        · rw [seqOf_lst el3] at hn
          cases hn
        · rw [seqOf_lst el3] at hx
          obtain rfl := Option.some.inj hx
          obtain ⟨hi, _, hb2⟩ := hb
          rw [(dd _ (List.getElem_mem hi)).1] at hb2
          cases hb2
        · rw [seqOf_lst el3] at hx
          obtain rfl := Option.some.inj hx
          have s12 := s1.trans s2
          have nx0 := s12.free nx
          refine good gd H4 x (fun b o e => k4 b o (ne_of_none e nx0) (s3 _ _ (s12 _ _ e))) nx0 ⟨dx, t, ws4, e4, et, paired_trans gd p4 pw3⟩
      have line : (2000 : Nat) ≤ sizeLine := by decide
      refine ⟨_, rfl, _, ⟨by omega, rfl⟩, ?_⟩
      by_cases hs : s = ""
      · have hl : (((s.length : Nat) : Int) != 0) = false := by rw [hs]; rfl
        rw [hl]
        refine iteF ⟨Nat.zero_le _, fun l nl => ?_⟩
        have er : rowsOf s = [] := if_pos hs
        exact from_rows l _ (same_upd nl) nl (by rw [er]; exact upd_same)
      · have hl : (((s.length : Nat) : Int) != 0) = true := by
          rw [bne_iff_ne]
          intro z
          exact hs (str_nil (by omega))
        rw [hl]
        refine iteT ⟨_, rfl, ⟨_, rfl⟩, _, _, rfl, rfl, rfl, by omega, fun u nu => ?_⟩
        have er : rowsOf s = Txt.split s "\n" := if_neg hs
        exact from_rows u _ (same_upd nu) nu (by rw [er]; exact upd_same)
end
end K17

namespace K17
open PySem PySem.Spec PyProof.Rows L2
open Cal EnuT Exn Keys LamX Trt
/-- what _law_refused makes of the work it is given -/
def TTref (CP CT : Addr) : (XK → Hp → VK → Prop) → Hp → VK → Prop := fun tl H Q =>
  tl (fun cls d H' => ∃ dd v, d = some dd ∧ H' dd = some (.xd [("at", v)]) ∧ ((cls = .ref CP ∧ ∀ p, H' p = none → Q (.ref p) (upd H' p (.lst [v, .bl true]))) ∨ (cls = .ref CT ∧ ∀ p, H' p = none → Q (.ref p) (upd H' p (.lst [v, .bl false]))))) H (fun _ H' => Q .non H')
/-- what of the two classes is known -/
structure Two (P : Program) (w : World) (K : W.Frag) (mg : Str → Option Value) (base : Heap) (CP CT : Addr) : Prop where
  p : CE P w K mg base "InvalidPlan" CP "at"
  t : CE P w K mg base "InvalidText" CT "at"
  g : ClsGet K
  ep : W.exmAny K (.ref CP) [.ref CP, .ref CT] = some true
  et : W.exmAny K (.ref CT) [.ref CP, .ref CT] = some true
  kp : W.kitOne K (.ref CP) (.ref CP) = some true
  kt : W.kitOne K (.ref CT) (.ref CP) = some false
theorem scRf : FnScope ["_law_work", "error"] ["_law_work"] (defScope sRefused) := ⟨rfl, rfl, rfl, by decide +kernel, rfl, by decide +kernel, by decide +kernel⟩
theorem refused_gives {X : Cx} {q : Str} {g CP CT : Addr} {cdg : Value} (W2 : Two X.prog X.w X.K X.mg X.base CP CT) (B : Bl X.mg) :
    GivesTo X ["_law_work", "error"] "_law_refused" (defScope sRefused) g cdg (defBody sRefused) "_law_work" q (TTref CP CT) := by
  intro f c' s H Q tl act hc h
  refine ⟨_, pss_cons (ps_try_manyA (X := (cxOf C8.CX0 X.prog X.w X.K X.mg X.base ["_law_work", "error"] "_law_refused" (defScope sRefused) g cdg X.A X.stack s H C8.E0).nox)
      (tb := fun W D σ H => ∃ Ech : XK, (∀ cls d σ' H', σ'.length = 2 → Ech cls d H' → W cls d σ' H') ∧ σ[0]? = some (some (.ref f)) ∧ H c' = some (CodeO c' q) ∧ tl Ech H (fun _ H1 => D.nx σ H1))
      rfl rfl scRf.nd LamX.takes0 (fun W pn xe tk _ => ?_) (.cons (tst_two ⟨rfl, by decide, .inl W2.p.m⟩ ⟨rfl, by decide, .inl W2.t.m⟩) (i := 1) rfl rfl (fun a oe cls d pn hz hf => pss_one (ps_ret (pe_lst (pa_cons (pe_errF hz hf (pv 1))
        (pa_cons (pe_callB (call_isF W2.g hz hf) (by rfl) B.isi (by decide +kernel) (pa_cons (pv 1) (pa_cons (pe_glob (v := .ref CP) rfl W2.p.m rfl) pa_nil))) pa_nil))))) .nil)) (pss_one (ps_ret pe_non)), ?_⟩
  · refine ⟨fun pins s' σ H' D I h' => ?_⟩
    obtain ⟨Ech, hW, h1, h2, h3⟩ := h'
    exact (pss_one (ps_expr (act _ pn xe Ech _ _ (takes_len tk) (fun cls d σ' H' e l => hW cls d σ' H' l e)))).run pins s' σ H' D I ⟨h1, h2, h3⟩
  · refine ⟨_, fun cls d σ' H' hl z => ?_, rfl, hc, h⟩
    obtain ⟨dd, v, rfl, hd, z⟩ := z
    match σ', hl with
    | [w0, w1], _ =>
      rcases z with ⟨rfl, z⟩ | ⟨rfl, z⟩
      · refine ⟨true, W2.ep, fun _ a na => ?_, fun z => nomatch z⟩
        refine ⟨⟨CP, rfl, W2.p.T.xf, W2.p.no⟩, _, rfl, rfl, dd, _, v, rfl, hd, rfl, _, rfl, ?_⟩
        exact ⟨_, _, _, _, _, W2.p.T, _, _, _, dd, _, rfl, .own CP, rfl, rfl, hd, W2.kp, by show 2 ≤ sizeLine; decide, z⟩
      · refine ⟨true, W2.et, fun _ a na => ?_, fun z => nomatch z⟩
        refine ⟨⟨CT, rfl, W2.t.T.xf, W2.t.no⟩, _, rfl, rfl, dd, _, v, rfl, hd, rfl, _, rfl, ?_⟩
        exact ⟨_, _, _, _, _, W2.t.T, _, _, _, dd, _, rfl, .own CP, rfl, rfl, hd, W2.kt, by show 2 ≤ sizeLine; decide, z⟩
end K17

namespace K17
open PySem PySem.Spec PyProof.Rows L2
open Cal EnuT Exn Keys

def flatOk : V → Bool
  | .non => true
  | .bl _ => true
  | .int _ => true
  | .str s => decide (s.length ≤ 1000)
  | _ => false
def deedL (xs : List V) : Bool := match some xs with
  | some [.str a, y] => decide (a ∈ words) && nmB y
  | _ => false
/-- a value that is no deed -/
def BadV (H : Hp) (x : V) : Prop := flatOk x = true ∨ ∃ t xs, x = .ref t ∧ H t = some (.tup xs) ∧ xs.all flatOk = true ∧ deedL xs = false
theorem BadV.same {H H' : Hp} {x : V} (s : Same H H') (b : BadV H x) : BadV H' x := b.imp id fun ⟨t, xs, e, h, r⟩ => ⟨t, xs, e, s _ _ h, r⟩
theorem BadV.but {H H' : Hp} {p q : Addr} {x : V} (d : Deal H p q) (s : But2 p q H H') (b : BadV H x) : BadV H' x := b.imp id fun ⟨t, xs, e, h, r⟩ => ⟨t, xs, e, d.tup s h, r⟩
theorem flat_okv {H : Hp} {x : V} (h : flatOk x = true) : OkV H x ∧ ∀ s, x = .str s → s.length ≤ 1000 := by
  cases x with
  | non => exact ⟨.non, fun s e => nomatch e⟩
  | bl b => exact ⟨.bl b, fun s e => nomatch e⟩
  | int i => exact ⟨.int i, fun s e => nomatch e⟩
  | str z => exact ⟨.str z, fun s e => by cases e; exact of_decide_eq_true h⟩
  | _ => cases h
theorem flat_seq {H : Hp} {x : V} (h : flatOk x = true) : seqOf H x = none := by
  cases x <;> first | rfl | cases h
theorem BadV.ok {H : Hp} {x : V} (b : BadV H x) : OkItems H x ∧ deedB H x = false := by
  rcases b with h | ⟨t, xs, rfl, h, h1, h2⟩
  · refine ⟨⟨(flat_okv h).1, fun xs e => ?_⟩, ?_⟩
    · rw [flat_seq h] at e
      cases e
    · unfold deedB
      rw [flat_seq h]
  · refine ⟨⟨.tup h, fun ys e y hy => ?_⟩, ?_⟩
    · rw [seqOf_tup h] at e
      obtain rfl := Option.some.inj e
      exact flat_okv (List.all_eq_true.mp h1 y hy)
    · unfold deedB
      rw [seqOf_tup h]
      exact h2
theorem bad_tup {H : Hp} {t : Addr} {xs : List V} {done : List V} (n : H t = none) (h : ∀ x, x ∈ done → BadV H x) (h1 : xs.all flatOk = true) (h2 : deedL xs = false) : ∀ x, x ∈ .ref t :: done → BadV (upd H t (.tup xs)) x := fun x hx => by
  rcases List.mem_cons.mp hx with rfl | z
  · exact .inr ⟨t, xs, rfl, upd_same, h1, h2⟩
  · exact (h x z).same (same_upd n)
theorem bad_flat {H : Hp} {v : V} {done : List V} (h : ∀ x, x ∈ done → BadV H x) (f : flatOk v = true) : ∀ x, x ∈ v :: done → BadV H x := fun x hx => by
  rcases List.mem_cons.mp hx with rfl | z
  · exact .inl f
  · exact h x z
theorem bad_same {H H' : Hp} {done : List V} (s : Same H H') (h : ∀ x, x ∈ done → BadV H x) : ∀ x, x ∈ done → BadV H' x := fun x hx => (h x hx).same s
theorem cut_takeV (xs : List V) (k : Nat) (h : k ≤ xs.length) : cutV xs none (some ((k : Nat) : Int)) = xs.take k := by
  unfold cutV HT.sIx
  dsimp only
  rw [if_neg (by omega), Int.toNat_natCast, Nat.min_eq_left h]
  simp
theorem cut_dropV (xs : List V) (k : Nat) (h : k ≤ xs.length) : cutV xs (some ((k : Nat) : Int)) none = xs.drop k := by
  unfold cutV HT.sIx
  dsimp only
  rw [if_neg (by omega), Int.toNat_natCast, Nat.min_eq_left h, List.take_of_length_le]
  simp
def spWrong : Sp := fun vs H Q _ => ∃ (p q l : Addr) (ws : List V), vs = [.ref p, .ref l] ∧ Deal H p q ∧ l ≠ p ∧ l ≠ q ∧ H l = some (.lst ws) ∧ ws.length ≤ 5 ∧
  ∀ H' t m (at_ : Nat) x, at_ ≤ ws.length → But2 p q H H' → Deal H' p q → H t = none → H m = none → H' t = some (.tup [.ref m, .int (at_ : Nat)]) → H' m = some (.lst (ws.take at_ ++ [x] ++ ws.drop at_)) → BadV H' x → Q (.ref t) H'
section
variable {P : Program} {w : World} {K : W.Frag} {mg : Str → Option Value} {base : Heap}
theorem scWr : FnScope ["_law_deal", "_law_deeds_here", "_law_wrong", "_law_at"] ["_law_deal", "_law_deeds_here"] (defScope sWrong) := ⟨rfl, rfl, rfl, by decide +kernel, rfl, by decide +kernel, by decide +kernel⟩
theorem ok_wrong {f : Addr} {fd : FuncData} (F : Fun K "_law_with_wrong" "_law_with_wrong" sWrong f fd) (B : Bl mg) (An : Callee P w K mg base "_law_any" 1 ["_law_deal", "_law_bound"] spAny) (Of : Callee P w K mg base "_law_of" 2 ["_law_deal", "_law_some"] spOf) :
    FnOk P w K mg base CX0 3 f fd ["_law_deal", "_law_deeds_here"] spWrong := by
  refine F.ok scWr (fun vs H Q E h => ?_) (fun cdv A outer s H vs Q E hr h => ?_)
  · obtain ⟨p, q, l, ws, rfl, _⟩ := h
    rfl
  · obtain ⟨p, q, l, ws, rfl, dl, lp, lq, hl, w5, k⟩ := h
    have hr1 := hr.mono (show 1 ≤ 2 by decide)

    refine ⟨_, pss_cons (ps_set (i := 2) scWr.nd rfl (Or.inl rfl) (pe_lst (pa_cons (pe_tup (pa_cons pe_str (pa_cons pe_str pa_nil))) (pa_cons (pe_tup (pa_cons pe_str pa_nil)) (pa_cons (pe_tup (pa_cons pe_str (pa_cons pe_str (pa_cons pe_str pa_nil)))) (pa_cons pe_str (pa_cons (pe_tup (pa_cons pe_str (pa_cons pe_str pa_nil))) (pa_cons (pe_tup (pa_cons pe_str (pa_cons pe_int pa_nil))) (pa_cons (pe_tup (pa_cons pe_str (pa_cons pe_str pa_nil))) (pa_cons pe_non (pa_cons pe_int pa_nil)))))))))))
      (pss_cons (ps_set (i := 2) scWr.nd rfl (Or.inl rfl) (pe_op op_cat (pv 2) (pe_lst (pa_cons (pe_tup (pa_cons pe_str (pa_cons pe_str pa_nil))) (pa_cons (pe_tup (pa_cons pe_str (pa_cons pe_str pa_nil))) (pa_cons (pe_tup (pa_cons pe_str (pa_cons pe_str pa_nil))) (pa_cons (pe_tup (pa_cons pe_int (pa_cons pe_str pa_nil))) (pa_cons (pe_tup (pa_cons pe_str (pa_cons pe_non pa_nil))) (pa_cons (pe_tup (pa_cons pe_str (pa_cons pe_str pa_nil))) (pa_cons (pe_tup pa_nil) pa_nil))))))))))
      (pss_cons (ps_set (i := 3) scWr.nd rfl (Or.inl rfl) (pe_callee An hr1 rfl (pa_cons (pv 0) (pa_cons (pe_op op_add (pe_callB call_len_seq (by rfl) B.len PySem.boot_len (pa_cons (pv 1) pa_nil)) pe_int) pa_nil))))
      (pss_one (ps_ret (pe_tup (pa_cons (pe_op op_cat (pe_op op_cat (pe_slice sl_list (pv 1) po_none (po_some (pv 3))) (pe_lst (pa_cons (pe_callee Of hr rfl (pa_cons (pv 0) (pa_cons (pv 2) pa_nil))) pa_nil))) (pe_slice sl_list (pv 1) (po_some (pv 3)) po_none)) (pa_cons (pv 3) pa_nil))))))), ?_⟩
    have b0 : ∀ x, x ∈ ([] : List V) → BadV H x := fun x hx => nomatch hx
    have s0 : Same H H := Same.refl _
    refine ⟨by show 2 ≤ sizeLine; decide, fun t1 n1 => ?_⟩
    have b1 := bad_tup (xs := [.str "of", .str "p"]) n1 (b0) (by decide +kernel) (by decide +kernel)
    have s1 := (s0).trans (same_upd (o := .tup [.str "of", .str "p"]) n1)
    refine ⟨by show 1 ≤ sizeLine; decide, fun t2 n2 => ?_⟩
    have b2 := bad_tup (xs := [.str "off"]) n2 (b1) (by decide +kernel) (by decide +kernel)
    have s2 := (s1).trans (same_upd (o := .tup [.str "off"]) n2)
    refine ⟨by show 3 ≤ sizeLine; decide, fun t3 n3 => ?_⟩
    have b3 := bad_tup (xs := [.str "off", .str "p", .str "q"]) n3 (b2) (by decide +kernel) (by decide +kernel)
    have s3 := (s2).trans (same_upd (o := .tup [.str "off", .str "p", .str "q"]) n3)
    refine ⟨by show 2 ≤ sizeLine; decide, fun t4 n4 => ?_⟩
    have b4 := bad_tup (xs := [.str "off", .str "P"]) n4 (bad_flat (v := .str "off p") (b3) (by decide +kernel)) (by decide +kernel) (by decide +kernel)
    have s4 := (s3).trans (same_upd (o := .tup [.str "off", .str "P"]) n4)
    refine ⟨by show 2 ≤ sizeLine; decide, fun t5 n5 => ?_⟩
    have b5 := bad_tup (xs := [.str "off", .int 3]) n5 (b4) (by decide +kernel) (by decide +kernel)
    have s5 := (s4).trans (same_upd (o := .tup [.str "off", .int 3]) n5)
    refine ⟨by show 2 ≤ sizeLine; decide, fun t6 n6 => ?_⟩
    have b6 := bad_tup (xs := [.str "off", .str "out"]) n6 (b5) (by decide +kernel) (by decide +kernel)
    have s6 := (s5).trans (same_upd (o := .tup [.str "off", .str "out"]) n6)
    refine ⟨by show 9 ≤ sizeLine; decide, fun l1 m1 => ?_⟩
    have c1 := bad_same (same_upd (o := .lst [.ref t1, .ref t2, .ref t3, .str "off p", .ref t4, .ref t5, .ref t6, .non, .int 5]) m1) (bad_flat (v := .int 5) (bad_flat (v := .non) (b6) (by decide +kernel)) (by decide +kernel))
    have z1 := (s6).trans (same_upd (o := .lst [.ref t1, .ref t2, .ref t3, .str "off p", .ref t4, .ref t5, .ref t6, .non, .int 5]) m1)
    refine ⟨_, rfl, ?_⟩
    have e6 := upd_same (H := (upd (upd (upd (upd (upd (upd H t1 (.tup [.str "of", .str "p"])) t2 (.tup [.str "off"])) t3 (.tup [.str "off", .str "p", .str "q"])) t4 (.tup [.str "off", .str "P"])) t5 (.tup [.str "off", .int 3])) t6 (.tup [.str "off", .str "out"]))) (a := l1) (o := .lst [.ref t1, .ref t2, .ref t3, .str "off p", .ref t4, .ref t5, .ref t6, .non, .int 5])
    refine ⟨by show 2 ≤ sizeLine; decide, fun t7 n7 => ?_⟩
    have b7 := bad_tup (xs := [.str "go", .str "d"]) n7 (c1) (by decide +kernel) (by decide +kernel)
    have s7 := (z1).trans (same_upd (o := .tup [.str "go", .str "d"]) n7)
    have e7 := same_upd (o := .tup [.str "go", .str "d"]) n7 _ _ e6
    refine ⟨by show 2 ≤ sizeLine; decide, fun t8 n8 => ?_⟩
    have b8 := bad_tup (xs := [.str "off", .str "abcdefghi"]) n8 (b7) (by decide +kernel) (by decide +kernel)
    have s8 := (s7).trans (same_upd (o := .tup [.str "off", .str "abcdefghi"]) n8)
    have e8 := same_upd (o := .tup [.str "off", .str "abcdefghi"]) n8 _ _ e7
    refine ⟨by show 2 ≤ sizeLine; decide, fun t9 n9 => ?_⟩
    have b9 := bad_tup (xs := [.str "off", .str ""]) n9 (b8) (by decide +kernel) (by decide +kernel)
    have s9 := (s8).trans (same_upd (o := .tup [.str "off", .str ""]) n9)
    have e9 := same_upd (o := .tup [.str "off", .str ""]) n9 _ _ e8
    refine ⟨by show 2 ≤ sizeLine; decide, fun t10 n10 => ?_⟩
    have b10 := bad_tup (xs := [.int 7, .str "p"]) n10 (b9) (by decide +kernel) (by decide +kernel)
    have s10 := (s9).trans (same_upd (o := .tup [.int 7, .str "p"]) n10)
    have e10 := same_upd (o := .tup [.int 7, .str "p"]) n10 _ _ e9
    refine ⟨by show 2 ≤ sizeLine; decide, fun t11 n11 => ?_⟩
    have b11 := bad_tup (xs := [.str "drain", .non]) n11 (b10) (by decide +kernel) (by decide +kernel)
    have s11 := (s10).trans (same_upd (o := .tup [.str "drain", .non]) n11)
    have e11 := same_upd (o := .tup [.str "drain", .non]) n11 _ _ e10
    refine ⟨by show 2 ≤ sizeLine; decide, fun t12 n12 => ?_⟩
    have b12 := bad_tup (xs := [.str "off", .str "p1"]) n12 (b11) (by decide +kernel) (by decide +kernel)
    have s12 := (s11).trans (same_upd (o := .tup [.str "off", .str "p1"]) n12)
    have e12 := same_upd (o := .tup [.str "off", .str "p1"]) n12 _ _ e11
    refine ⟨by show 0 ≤ sizeLine; decide, fun t13 n13 => ?_⟩
    have b13 := bad_tup (xs := []) n13 (b12) (by decide +kernel) (by decide +kernel)
    have s13 := (s12).trans (same_upd (o := .tup []) n13)
    have e13 := same_upd (o := .tup []) n13 _ _ e12
    refine ⟨by show 7 ≤ sizeLine; decide, fun l2 m2 => ?_⟩
    have c2 := bad_same (same_upd (o := .lst [.ref t7, .ref t8, .ref t9, .ref t10, .ref t11, .ref t12, .ref t13]) m2) (b13)
    have z2 := (s13).trans (same_upd (o := .lst [.ref t7, .ref t8, .ref t9, .ref t10, .ref t11, .ref t12, .ref t13]) m2)
    have el1 := same_upd (o := .lst [.ref t7, .ref t8, .ref t9, .ref t10, .ref t11, .ref t12, .ref t13]) m2 _ _ e13
    have el2 := upd_same (H := (upd (upd (upd (upd (upd (upd (upd (upd (upd (upd (upd (upd (upd (upd H t1 (.tup [.str "of", .str "p"])) t2 (.tup [.str "off"])) t3 (.tup [.str "off", .str "p", .str "q"])) t4 (.tup [.str "off", .str "P"])) t5 (.tup [.str "off", .int 3])) t6 (.tup [.str "off", .str "out"])) l1 (.lst [.ref t1, .ref t2, .ref t3, .str "off p", .ref t4, .ref t5, .ref t6, .non, .int 5])) t7 (.tup [.str "go", .str "d"])) t8 (.tup [.str "off", .str "abcdefghi"])) t9 (.tup [.str "off", .str ""])) t10 (.tup [.int 7, .str "p"])) t11 (.tup [.str "drain", .non])) t12 (.tup [.str "off", .str "p1"])) t13 (.tup []))) (a := l2) (o := .lst [.ref t7, .ref t8, .ref t9, .ref t10, .ref t11, .ref t12, .ref t13])
    have all : ∀ x, x ∈ ([.ref t1, .ref t2, .ref t3, .str "off p", .ref t4, .ref t5, .ref t6, .non, .int 5] : List V) ++ [.ref t7, .ref t8, .ref t9, .ref t10, .ref t11, .ref t12, .ref t13] → BadV (upd (upd (upd (upd (upd (upd (upd (upd (upd (upd (upd (upd (upd (upd (upd H t1 (.tup [.str "of", .str "p"])) t2 (.tup [.str "off"])) t3 (.tup [.str "off", .str "p", .str "q"])) t4 (.tup [.str "off", .str "P"])) t5 (.tup [.str "off", .int 3])) t6 (.tup [.str "off", .str "out"])) l1 (.lst [.ref t1, .ref t2, .ref t3, .str "off p", .ref t4, .ref t5, .ref t6, .non, .int 5])) t7 (.tup [.str "go", .str "d"])) t8 (.tup [.str "off", .str "abcdefghi"])) t9 (.tup [.str "off", .str ""])) t10 (.tup [.int 7, .str "p"])) t11 (.tup [.str "drain", .non])) t12 (.tup [.str "off", .str "p1"])) t13 (.tup [])) l2 (.lst [.ref t7, .ref t8, .ref t9, .ref t10, .ref t11, .ref t12, .ref t13])) x := fun x hx => c2 x (List.mem_reverse.mpr hx)
    revert all z2 el1 el2
    generalize (upd (upd (upd (upd (upd (upd (upd (upd (upd (upd (upd (upd (upd (upd (upd H t1 (.tup [.str "of", .str "p"])) t2 (.tup [.str "off"])) t3 (.tup [.str "off", .str "p", .str "q"])) t4 (.tup [.str "off", .str "P"])) t5 (.tup [.str "off", .int 3])) t6 (.tup [.str "off", .str "out"])) l1 (.lst [.ref t1, .ref t2, .ref t3, .str "off p", .ref t4, .ref t5, .ref t6, .non, .int 5])) t7 (.tup [.str "go", .str "d"])) t8 (.tup [.str "off", .str "abcdefghi"])) t9 (.tup [.str "off", .str ""])) t10 (.tup [.int 7, .str "p"])) t11 (.tup [.str "drain", .non])) t12 (.tup [.str "off", .str "p1"])) t13 (.tup [])) l2 (.lst [.ref t7, .ref t8, .ref t9, .ref t10, .ref t11, .ref t12, .ref t13])) = G
    have len1 : ([.ref t1, .ref t2, .ref t3, .str "off p", .ref t4, .ref t5, .ref t6, .non, .int 5] : List V).length = 9 := rfl
    have len2 : ([.ref t7, .ref t8, .ref t9, .ref t10, .ref t11, .ref t12, .ref t13] : List V).length = 7 := rfl
    revert len1 len2
    generalize ([.ref t1, .ref t2, .ref t3, .str "off p", .ref t4, .ref t5, .ref t6, .non, .int 5] : List V) = L1
    generalize ([.ref t7, .ref t8, .ref t9, .ref t10, .ref t11, .ref t12, .ref t13] : List V) = L2
    intro len1 len2 z2 el1 el2 all
    have line : (1000 : Nat) ≤ sizeLine := by decide
    refine ⟨_, _, _, _, rfl, rfl, el1, el2, by rw [len1, len2]; omega, fun l3 m3 => ?_⟩
    have z3 := z2.trans (same_upd (o := .lst (L1 ++ L2)) m3)
    have all3 := bad_same (same_upd (o := .lst (L1 ++ L2)) m3) all
    have el3 := upd_same (H := G) (a := l3) (o := .lst (L1 ++ L2))
    have l3l : l3 ≠ p ∧ l3 ≠ q := (dl.same z2).new m3
    revert z3 all3 el3
    generalize upd G l3 (.lst (L1 ++ L2)) = G3
    intro z3 all3 el3
    refine ⟨_, rfl, _, rfl, l, _, rfl, .inl (SqL.of (z3 _ _ hl)), _, _, rfl, rfl, p, q, _, rfl, dl.same z3, by omega, by omega, fun r H5 r0 r1 but5 dl5 => ?_⟩
    obtain ⟨j, rfl⟩ : ∃ j : Nat, r = (j : Int) := ⟨r.toNat, by omega⟩
    have hj : j ≤ ws.length := by omega
    have hl5 := but5 _ _ lp lq (z3 _ _ hl)
    have el5 := but5 _ _ l3l.1 l3l.2 el3
    have b05 : But2 p q H H5 := fun c o n1 n2 e => but5 c o n1 n2 (z3 _ _ e)
    have all5 : ∀ x, x ∈ L1 ++ L2 → BadV H5 x := fun x hx => (all3 x hx).but (dl.same z3) but5
    have l17 : (L1 ++ L2).length = 16 := by rw [List.length_append, len1, len2]
    clear all3 all el3
    clear c1
    refine ⟨_, rfl, _, rfl, _, rfl, l, _, rfl, SqL.of hl5, fun a1 h1 => ?_⟩
    rw [cut_takeV ws j hj]
    have y1 := same_upd (o := .lst (ws.take j)) h1
    obtain ⟨a1p, a1q⟩ := dl5.new h1
    have ea1 := upd_same (H := H5) (a := a1) (o := .lst (ws.take j))
    refine ⟨_, rfl, _, rfl, p, q, l3, _, rfl, dl5.same y1, l3l.1, l3l.2, y1 _ _ el5, by omega, by omega, fun x H6 hx but6 dl6 => ?_⟩
    have bx : BadV H6 x := ((all5 x hx).same y1).but (dl5.same y1) but6
    have ea16 := but6 _ _ a1p a1q ea1
    have b06 : But2 p q H H6 := fun c o n1 n2 e => but6 _ _ n1 n2 (y1 _ _ (b05 _ _ n1 n2 e))
    have hl6 := b06 _ _ lp lq hl
    refine ⟨by show 1 ≤ sizeLine; decide, fun a2 h2 => ?_⟩
    have y2 := same_upd (o := .lst [x]) h2
    refine ⟨_, _, _, _, rfl, rfl, y2 _ _ ea16, upd_same, by rw [List.length_take]; show min j ws.length + 1 ≤ _; omega, fun a3 h3 => ?_⟩
    have y3 := same_upd (o := .lst (ws.take j ++ [x])) h3
    have y23 := y2.trans y3
    have ea3 := upd_same (H := upd H6 a2 (.lst [x])) (a := a3) (o := .lst (ws.take j ++ [x]))
    refine ⟨_, rfl, _, rfl, _, rfl, l, _, rfl, SqL.of (y23 _ _ hl6), fun a4 h4 => ?_⟩
    rw [cut_dropV ws j hj]
    have y4 := same_upd (o := .lst (ws.drop j)) h4
    have y24 := y23.trans y4
    refine ⟨_, _, _, _, rfl, rfl, y4 _ _ ea3, upd_same, by rw [List.length_append, List.length_take, List.length_drop]; show min j ws.length + 1 + (ws.length - j) ≤ _; omega, fun a5 h5 => ?_⟩
    have y5 := same_upd (o := .lst (ws.take j ++ [x] ++ ws.drop j)) h5
    have y25 := y24.trans y5
    refine ⟨_, rfl, by show 2 ≤ sizeLine; decide, fun t nt => ?_⟩
    have y6 := same_upd (o := .tup [.ref a5, .int (j : Nat)]) nt
    have y26 := y25.trans y6
    refine k _ t a5 j x hj (b06.same y26) (dl6.same y26) ?_ ?_ upd_same (y6 _ _ upd_same) (bx.same y26)
    · exact b06.free dl6 (y25.free nt)
    · exact b06.free dl6 (y24.free h5)
end
end K17

namespace K17
open PySem PySem.Spec PyProof.Rows L2
open Cal EnuT Exn Keys LamX

/-! ### texts of plans, right and wrong -/
def wrongs : List Str := ["off", "off  p", " off p", "off p ", "of p", "off P", "off out", "off p q", "plan", "off-p"]
theorem nl_eq : ("\n" : Str) = ⟨#[10]⟩ := by decide +kernel
theorem bl_eq : (" " : Str) = ⟨#[32]⟩ := by decide +kernel
/-- a row that may stand in a text -/
def rowFine (r : Str) : Bool := (!decide (10 ∈ Tx.L r)) && decide (r.length ≤ 20)
theorem wrong_row : ∀ r, r ∈ wrongs → rowFine r = true ∧ rowB r = false ∧ r ≠ "" := by
  have h : (wrongs.all fun r => rowFine r && !rowB r && decide (r ≠ "")) = true := by decide +kernel
  intro r hr
  have := List.all_eq_true.mp h r hr
  simpa [Bool.and_eq_true, and_assoc] using this
theorem good_row : ∀ d : Str × Str, d.1 ∈ words → d.2 ∈ pnames → rowFine (rowOf d) = true ∧ rowB (rowOf d) = true ∧ rowOf d ≠ "" ∧ deedOf (rowOf d) = d := by
  have h : (words.all fun a => pnames.all fun b => rowFine (rowOf (a, b)) && rowB (rowOf (a, b)) && decide (rowOf (a, b) ≠ "") && decide (deedOf (rowOf (a, b)) = (a, b))) = true := by decide +kernel
  intro d h1 h2
  have := List.all_eq_true.mp (List.all_eq_true.mp h d.1 h1) d.2 h2
  simpa [Bool.and_eq_true, and_assoc] using this
theorem rowOf_eq (a b : Str) : rowOf (a, b) = a ++ " " ++ b := StrLaws.glued_eq_join _ _
theorem join_ge {x : Str} : ∀ {xs : List Str}, x ∈ xs → x.length ≤ (Txt.join "\n" xs).length := by
  intro xs h
  rw [show Txt.join "\n" xs = Str.join "\n" xs from StrLaws.glued_eq_join _ _]
  induction xs with
  | nil => cases h
  | cons y ys ih =>
    cases ys with
    | nil =>
      obtain rfl := List.mem_singleton.mp h
      exact Nat.le_refl _
    | cons z r =>
      rw [Tx.len_L (Str.join _ _), Tx.L_join]
      simp only [List.length_append]
      rcases List.mem_cons.mp h with rfl | q
      · rw [Tx.len_L]; omega
      · have := ih q
        rw [Tx.len_L (Str.join _ _)] at this
        omega
theorem fine_of {r : Str} (h : rowFine r = true) : 10 ∉ Tx.L r ∧ r.length ≤ 20 := by
  unfold rowFine at h
  simpa [Bool.and_eq_true] using h
/-- the rows of a text are those that it was made of -/
theorem rows_of {xs : List Str} {x : Str} (hx : x ∈ xs) (ne : x ≠ "") (f : ∀ r, r ∈ xs → rowFine r = true) : rowsOf (Txt.join "\n" xs) = xs := by
  have n1 : Txt.join "\n" xs ≠ "" := fun z => by
    have h1 := join_ge hx
    rw [z] at h1
    exact ne (str_nil (Nat.le_zero.mp h1))
  unfold rowsOf
  rw [if_neg n1, nl_eq]
  exact Tx.split_join (List.ne_nil_of_mem hx) fun p hp => (fine_of (f p hp)).1
theorem short_of {xs : List Str} {x : Str} (hx : x ∈ xs) (ne : x ≠ "") (f : ∀ r, r ∈ xs → rowFine r = true) (few : xs.length ≤ 7) : Short (Txt.join "\n" xs) := by
  refine ⟨?_, ?_, ?_⟩
  · rw [show Txt.join "\n" xs = Str.join "\n" xs from StrLaws.glued_eq_join _ _]
    have h1 := StrLaws.join_length_le "\n" xs
    have h2 := sum_le (xs.map (·.length)) 20 (fun y hy => by
      obtain ⟨r, hr, rfl⟩ := List.mem_map.mp hy
      exact (fine_of (f r hr)).2)
    rw [List.length_map] at h2
    have h3 : ("\n" : Str).length = 1 := by decide +kernel
    rw [h3] at h1
    omega
  · rw [rows_of hx ne f]
    omega
  · rw [rows_of hx ne f]
    intro r hr
    have h1 := (fine_of (f r hr)).2
    refine ⟨by omega, fun t ht => ?_⟩
    rw [bl_eq] at ht
    have := Tx.split_len t ht
    omega
theorem join_snoc (xs : List Str) (ne : xs ≠ []) : Txt.join "\n" xs ++ "\n" = Txt.join "\n" (xs ++ [("" : Str)]) := by
  rw [show Txt.join "\n" xs = Str.join "\n" xs from StrLaws.glued_eq_join _ _, show Txt.join "\n" (xs ++ [("" : Str)]) = Str.join "\n" (xs ++ [("" : Str)]) from StrLaws.glued_eq_join _ _]
  induction xs with
  | nil => exact absurd rfl ne
  | cons x r ih =>
    cases r with
    | nil =>
      show x ++ "\n" = x ++ "\n" ++ ""
      exact (Str.append_empty _).symm
    | cons y q =>
      show x ++ "\n" ++ Str.join "\n" (y :: q) ++ "\n" = x ++ "\n" ++ Str.join "\n" (y :: q ++ [("" : Str)])
      rw [Str.append_assoc, ih (List.cons_ne_nil _ _)]
theorem empty_row : rowB "" = false ∧ rowFine "" = true := by decide +kernel
end K17

namespace K17
open PySem PySem.Spec PyProof.Rows L2
open Cal EnuT Exn Keys LamX

/-- _law_refused, by its name in the module -/
structure Refd (P : Program) (w : World) (K : W.Frag) (mg : Str → Option Value) (base : Heap) (CP CT : Addr) : Prop where
  two : Two P w K mg base CP CT
  bl : Bl mg
  ex : ∃ (g : Addr) (oc : Value) (od : Option Addr) (kV doc pm : Value) (an : Option Addr) (cdv ct : Value) (osl : Array (Option Value)), mg "_law_refused" = some (.ref g) ∧ W.keepIn K (.ref g) = true ∧
    K.lookup g = some ⟨oc, od, .func (W.fnOf "_law_refused" "_law_refused" (defArgs sRefused) (defBody sRefused) (defScope sRefused) .none kV doc pm an cdv ct), osl⟩ ∧ W.codeIn K cdv "_law_refused" = true
theorem pe_refused {X : Cx} {CP CT c P : Addr} {T : List (Addr × Str)} {k : Nat} {params : Arguments} {body : Expr} {scope : Scope} {t : XK → TE} {p lpos pos : Pos} (R : Refd X.prog X.w X.K X.mg X.base CP CT) (hg : Gl X "_law_refused")
    (TB : TabB X.base X.mg c P) (hcode : X.env.code = .ref c) (hmT : (P, X.env.qual ++ "<lambda>") ∈ T) (hu : ∀ p ∈ T, p.1 = P → p.2 = X.env.qual ++ "<lambda>") (hr : Room (k + 2) X.A) (L : LamS X.env.scope scope) (hdef : defaultsOf params X.env = ([], []))
    (hbind : ∀ (q : Str) (cl : List (Str × Addr)) (pm cv ctv : Value), bindArgs (W.kla_fn "<lambda>" q params body scope cl pm cv ctv) ⟨[], []⟩ = pure [])
    (hbody : ∀ (A : Around) (outer : List Env) (s : Shared) (H : Hp) (E : XK) (f c' : Addr), Room k (A.deeper (lamEnv X scope s.heap.objs.size f c')) → PE (lamCx X A outer s H E scope f c') body (t E)) :
    PE X (.Call (.Name "_law_refused" p) [.Lambda params body scope lpos] [] pos) (tLam T (TTref CP CT) t) := by
  obtain ⟨g, oc, od, kV, doc, pm, an, cdv, ct, osl, m, kp, lk, hcd⟩ := R.ex
  exact pe_lamcall (a := "_law_work") hg m kp lk hcd (.all fun us hl => match us, hl with | [_], _ => rfl) scRf rfl (.inl rfl) (refused_gives R.two R.bl) TB hcode hmT hu hr L hdef hbind hbody (by decide) (by decide) (by decide)
end K17

namespace K17
open PySem PySem.Spec PyProof.Rows L2
open Cal EnuT Exn Keys LamX Stc

/-- all but the deal and the tables is as it was -/
def BN (p q : Addr) (H H' : Hp) : Prop := ∀ b o, b ≠ p → b ≠ q → H b = some o → (∀ ps, o ≠ .tbl ps) → H' b = some o
theorem BN.trans {p q : Addr} {H H1 H2 : Hp} (a : BN p q H H1) (b : BN p q H1 H2) : BN p q H H2 := fun c o n1 n2 e t => b c o n1 n2 (a c o n1 n2 e t) t
theorem BN.of {p q : Addr} {H H' : Hp} (s : Same H H') : BN p q H H' := fun c o _ _ e _ => s _ _ e
theorem BN.but {p q : Addr} {H H' : Hp} (s : But2 p q H H') : BN p q H H' := fun c o n1 n2 e _ => s _ _ n1 n2 e
theorem BN.ext {p q : Addr} {H H' : Hp} (s : ExtN H H') : BN p q H H' := fun c o _ _ e t => s _ _ e t
theorem Deal.ext {H H' : Hp} {p q : Addr} (d : Deal H p q) (s : ExtN H H') : Deal H' p q := by
  obtain ⟨ne, ns, b, hp, hq, r⟩ := d
  exact ⟨ne, ns, b, s _ _ hp (fun _ z => nomatch z), s _ _ hq (fun _ z => nomatch z), r⟩
theorem tabs_but {p q : Addr} {H H' : Hp} {T : List (Addr × Str)} (d : Deal H p q) (s : But2 p q H H') (t : Tabs T H) : Tabs T H' := fun x hx => by
  obtain ⟨ps, h1, h2, h3⟩ := t x hx
  obtain ⟨_, ns, b', hp, hq, _⟩ := d
  refine ⟨ps, s _ _ (ne_of h1 hp (fun z => by cases z)) (ne_of h1 hq (fun z => by cases z)) h1, h2, fun pos cv hc => ?_⟩
  obtain ⟨c, e1, e2⟩ := h3 pos cv hc
  refine ⟨c, e1, s _ _ (ne_of e2 hp (fun z => by cases z)) (ne_of e2 hq (fun z => by cases z)) e2⟩
structure PlanC (P : Program) (w : World) (K : W.Frag) (mg : Str → Option Value) (base : Heap) (C CP CT : Addr) : Prop where
  m : mg "Plan" = some (.ref C)
  init : ∃ fI fdI, Mk K C fI ∧ Binds K fdI ["self", "deeds"] [] ∧ FnOk P w K mg base (L2.CX P w) 3 fI fdI ["self", "deeds"] (spInit C CP)
  read : ∃ mc r g fd, ClX.CRead K C mc ∧ SMet K C mc "read" r g ∧ Binds K fd ["text"] [] ∧ FnOk P w K mg base (L2.CX P w) 5 g fd ["text"] (spPlanRead C CT)
def spTexts (T : List (Addr × Str)) : Sp := fun vs H Q _ => ∃ (p q l : Addr) (ws : List V) (ds : List (Str × Str)), vs = [.ref p, .ref l] ∧ Deal H p q ∧ l ≠ p ∧ l ≠ q ∧ H l = some (.lst ws) ∧ GoodDeeds ds ∧ Paired (DeedAt H) ws ds ∧ Tabs T H ∧
  ∀ H', BN p q H H' → Deal H' p q → Tabs T H' → Q (.bl true) H'
abbrev NT : List Str := ["_law_deal", "_law_deeds_here", "_law_rows", "_law_at", "_law_wrong", "_law_text", "_law_word", "_law_name"]
theorem scTr : FnScope NT ["_law_deal", "_law_deeds_here"] (defScope sTexts) := ⟨rfl, rfl, rfl, by decide +kernel, rfl, by decide +kernel, by decide +kernel⟩
abbrev qT : Str := "_law_texts_right.<locals>.<lambda>"
theorem first_bad_at {rs : List Str} {wr : Str} {j : Nat} (hj : j ≤ rs.length) (g : ∀ r, r ∈ rs → rowB r = true) (b : rowB wr = false) : firstBad (rs.take j ++ [wr] ++ rs.drop j) j := by
  have lt : (rs.take j).length = j := by rw [List.length_take]; omega
  have len : (rs.take j ++ [wr] ++ rs.drop j).length = rs.length + 1 := by
    simp only [List.length_append, List.length_take, List.length_drop, List.length_singleton]
    omega
  refine ⟨by omega, fun i hi hij => ?_, fun hi => ?_⟩
  · have e : (rs.take j ++ [wr] ++ rs.drop j)[i] = rs[i]'(by omega) := by
      simp only [List.append_assoc, List.getElem_append, List.length_take, List.getElem_take]
      rw [dif_pos (by omega)]
    rw [e]
    exact g _ (List.getElem_mem _)
  · have e : (rs.take j ++ [wr] ++ rs.drop j)[j] = wr := by
      simp only [List.append_assoc, List.getElem_append, List.length_take, List.length_singleton]
      rw [dif_neg (by omega), dif_pos (by omega)]
      simp
    rw [e]
    exact b
theorem first_bad_uniq {xs : List Str} {i j : Nat} (a : firstBad xs i) (b : firstBad xs j) : i = j := by
  obtain ⟨a1, a2, a3⟩ := a
  obtain ⟨b1, b2, b3⟩ := b
  rcases Nat.lt_trichotomy i j with h | h | h
  · have := b2 i a1 h
    rw [a3 a1] at this
    cases this
  · exact h
  · have := a2 j b1 h
    rw [b3 b1] at this
    cases this
theorem lay_row : ∀ d : Str × Str, d.1 ∈ words → d.2 ∈ pnames → (PyData.str (rowOf d)).canLay0 = true := by
  have h : (words.all fun a => pnames.all fun b => (PyData.str (rowOf (a, b))).canLay0) = true := by decide +kernel
  intro d h1 h2
  exact List.all_eq_true.mp (List.all_eq_true.mp h d.1 h1) d.2 h2
theorem dps_strs {K : W.Frag} {H : Hp} : ∀ xs : List Str, DpAll K H (xs.map V.str) (xs.map PyData.str)
  | [] => .nil
  | _ :: xs => .cons (.str _) (dps_strs xs)
theorem shaped_strs {xs : List Str} (h : ∀ x, x ∈ xs → (PyData.str x).canLay0 = true) : SeqAt.shaped (.list (xs.map PyData.str)) = true := by
  have h : PyData.canLayAll0 (xs.map PyData.str) = true ∧ PyData.depthAll (xs.map PyData.str) ≤ 1 := by
    induction xs with
    | nil => simp [PyData.canLayAll0, PyData.depthAll]
    | cons x xs ih =>
      obtain ⟨i1, i2⟩ := ih fun y hy => h y (List.mem_cons_of_mem _ hy)
      have := h x (List.mem_cons_self ..)
      refine ⟨?_, ?_⟩
      · rw [List.map_cons, PyData.canLayAll0, this, i1]
        rfl
      · rw [List.map_cons, PyData.depthAll]
        simp [PyData.depth]
        omega
  simp [SeqAt.shaped, PyData.canLay0, PyData.depth, h.1]
  omega
theorem ne_nilS (xs : List Str) : (!PyData.eqv (.list (xs.map PyData.str)) (.list [])) = !xs.isEmpty := by cases xs <;> rfl
theorem res_shaped (i : Int) (b : Bool) : SeqAt.shaped (.list [.int i, .bool b]) = true := by
  simp [SeqAt.shaped, PyData.canLay0, PyData.canLayAll0, PyData.depth, PyData.depthAll]
theorem res_eqv (i : Int) (b : Bool) : PyData.eqv (.list [.int i, .bool b]) (.list [.int i, .bool b]) = true := by
  simp [PyData.eqv, PyData.eqvAll]
theorem res_dp {K : W.Frag} {H : Hp} {a : Addr} {i : Int} {b : Bool} (h : H a = some (.lst [.int i, .bl b])) : Dp K H (.ref a) (.list [.int i, .bool b]) := .lst (SqL.of h) (.cons (.int _) (.cons (.bl _) .nil))
theorem tabs_same {T : List (Addr × Str)} {H H' : Hp} (t : Tabs T H) (s : Same H H') : Tabs T H' := t.ext s
theorem ext_same {H H' : Hp} (s : Same H H') : ExtN H H' := ExtN.of s
theorem seq_asg {te : TE} {g : TG} {T : TS} {D : Ends} {σ : L2.St} {H : Hp} (h : te σ H fun v H1 => g v σ H1 fun σ2 H2 => T D σ2 H2) : tSeq (tAsg te g) T D σ H := h
theorem tup_first {te : TE} {ta : TA} {σ : L2.St} {H : Hp} {Q : VK} (h : te σ H fun x H1 => ta σ H1 fun xs H2 => (x :: xs).length ≤ sizeLine ∧ ∀ p, H2 p = none → Q (.ref p) (upd H2 p (.tup (x :: xs)))) : tTup (tCons te ta) σ H Q := h
section
variable {P : Program} {w : World} {K : W.Frag} {mg : Str → Option Value} {base : Heap}
theorem ok_texts {f c Pt C CP CT : Addr} {fd : FuncData} {T : List (Addr × Str)} (F : Fun K "_law_texts_right" "_law_texts_right" sTexts f fd) (hc : fd.code = .ref c) (TB : TabB base mg c Pt) (hmT : (Pt, qT) ∈ T) (hu : ∀ p ∈ T, p.1 = Pt → p.2 = qT) (B : Bl mg)
    (R : Refd P w K mg base CP CT) (PC : PlanC P w K mg base C CP CT)
    (An : Callee P w K mg base "_law_any" 1 ["_law_deal", "_law_bound"] spAny) (Of : Callee P w K mg base "_law_of" 2 ["_law_deal", "_law_some"] spOf) :
    FnOk P w K mg base CX0 8 f fd ["_law_deal", "_law_deeds_here"] (spTexts T) := by
  refine okC F hc scTr (fun vs H Q E h => ?_) (fun A outer s H vs Q E hr h => ?_)
  · obtain ⟨p, q, l, ws, ds, rfl, _⟩ := h
    rfl
  · obtain ⟨p, q, l, ws, ds, rfl, dl, lp, lq, hl, ⟨d5, gd⟩, pw, tb, k⟩ := h
    have hr1 := hr.mono (show 1 ≤ 7 by decide)
    have hr2 := hr.mono (show 2 ≤ 7 by decide)
    have un := hr.units
    obtain ⟨mc, r, g, fdr, rd, sm, br, FR⟩ := PC.read
    refine ⟨_, pss_cons (ps_asg (pe_tup (pa_cons (pe_lc (own := [("_law_word", 6), ("_law_name", 7)]) (g := gTup K 2 (gCons (gName 6) (gCons (gName 7) gNil))) (tt := tYes) (by rfl) scTr.nd (pi_list (pv 1))
          (blkOk_by (own := [("_law_word", 6), ("_law_name", 7)]) (N := NT) (sc := defScope sTexts) (by decide +kernel))
          (fun _ _ _ _ _ => pg_tup (by rfl) (pgs_cons (pg_name (i := 6) scTr.nd rfl (Or.inl rfl)) (pgs_cons (pg_name (i := 7) scTr.nd rfl (Or.inl rfl)) pgs_nil))) (fun _ _ _ _ _ => pts_nil)
          (fun _ _ _ _ _ => pe_op op_add_str (pe_op op_add_str (pv 6) pe_str) (pv 7)))
        (pa_cons (pe_callee An hr1 rfl (pa_cons (pv 0) (pa_cons (pe_op op_add (pe_callB call_len_seq (by rfl) B.len PySem.boot_len (pa_cons (pv 1) pa_nil)) pe_int) pa_nil))) pa_nil)))
        (pg_tup (by rfl) (pgs_cons (pg_name (i := 2) scTr.nd rfl (Or.inr rfl)) (pgs_cons (pg_name (i := 3) scTr.nd rfl (Or.inl rfl)) pgs_nil))))
      (pss_cons (ps_set (i := 4) scTr.nd rfl (Or.inl rfl) (pe_lst (pa_cons pe_str (pa_cons pe_str (pa_cons pe_str (pa_cons pe_str (pa_cons pe_str (pa_cons pe_str (pa_cons pe_str (pa_cons pe_str (pa_cons pe_str (pa_cons pe_str pa_nil))))))))))))
      (pss_cons (ps_set (i := 5) scTr.nd rfl (Or.inr rfl) (pe_join pe_str (pe_op op_cat (pe_op op_cat (pe_slice sl_list (pv 2) po_none (po_some (pv 3))) (pe_lst (pa_cons (pe_callee Of hr2 rfl (pa_cons (pv 0) (pa_cons (pv 4) pa_nil))) pa_nil))) (pe_slice sl_list (pv 2) (po_some (pv 3)) po_none))))
      (pss_cons (ps_if (pt_cmpR (op_neD un) (pe_refused R rfl TB rfl hmT hu hr (lamS_by (sc := defScope sTexts) (by decide +kernel)) rfl (fun _ _ _ _ _ => rfl) (fun A outer s H E f' c' hr' => pe_smeth (pe_glob (v := .ref C) rfl PC.m rfl) rd sm FR hr' br (passes_call (takes_of rfl rfl rfl rfl) (fun _ _ _ _ h => h)) (pa_cons (pv 5) pa_nil)))
          (pe_lst (pa_cons (pv 3) (pa_cons pe_bl pa_nil))) (nomark _)) (pss_one ps_never) pss_nil)
      (pss_cons (ps_if (PW.pt (pw_and (pt_cmpR (op_neD un) (pv 2) (pe_lst pa_nil) (nomark _)) (pw_and1 (pt_cmpR (op_neD un) (pe_refused R rfl TB rfl hmT hu hr (lamS_by (sc := defScope sTexts) (by decide +kernel)) rfl (fun _ _ _ _ _ => rfl) (fun A outer s H E f' c' hr' => pe_smeth (pe_glob (v := .ref C) rfl PC.m rfl) rd sm FR hr' br (passes_call (takes_of rfl rfl rfl rfl) (fun _ _ _ _ h => h)) (pa_cons (pe_op op_add_str (show PE _ _ (tM1 (fun x xs H Q => ∃ a p ys, x = V.str a ∧ xs = [V.ref p] ∧ (SqL K H p (List.map V.str ys) ∨ SqT K H p (List.map V.str ys)) ∧ (List.map (fun x => x.length) ys).sum + ys.length * a.length ≤ 16777216 ∧ Q (V.str (Txt.join a ys)) H) (tC (.str "\n")) (tVar 2)) from pe_join pe_str (pv 2)) pe_str) pa_nil)))
          (pe_lst (pa_cons (pe_callB call_len_seq (by rfl) B.len PySem.boot_len (pa_cons (pv 2) pa_nil)) (pa_cons pe_bl pa_nil))) (nomark _))))) (pss_one ps_never) pss_nil)
      (pss_one (ps_ret (pe_cmpR (op_eqD un) (pe_refused R rfl TB rfl hmT hu hr (lamS_by (sc := defScope sTexts) (by decide +kernel)) rfl (fun _ _ _ _ _ => rfl) (fun A outer s H E f' c' hr' => pe_smeth (pe_glob (v := .ref C) rfl PC.m rfl) rd sm FR hr' br (passes_call (takes_of rfl rfl rfl rfl) (fun _ _ _ _ h => h))
          (pa_cons (pe_callee Of (hr'.mono (show 2 ≤ 5 by decide)) rfl (pa_cons (pv 0) (pa_cons (pe_lst (pa_cons pe_non (pa_cons pe_int (pa_cons (pe_tup (pa_cons pe_str (pa_cons pe_str pa_nil))) pa_nil)))) pa_nil))) pa_nil)))
          (pe_lst (pa_cons pe_int (pa_cons pe_bl pa_nil))) (nomark _)))))))), ?_⟩
    have line : (2000 : Nat) ≤ sizeLine := by decide
    have lw := paired_len pw
    refine seq_asg (tup_first ?_)
    refine ⟨_, rfl, l, rfl, ⟨_, SqL.of hl⟩, fun D nD => ?_⟩
    refine lc_list (xs := ws) (fun i H' => Same H H' ∧ H' D = some (.lst (((ds.take i).map rowOf).map V.str))) ⟨same_upd nD, upd_same⟩ (fun i H' _ z => SqL.of (z.1 _ _ hl)) ?_ ?_
    · rintro i x H1 hx ⟨s1, at_D⟩
      have hi : i < ds.length := by
        have := (List.getElem?_eq_some_iff.mp hx).1
        omega
      obtain ⟨c0, rfl, ec⟩ : DeedAt H x ds[i] := by
        obtain ⟨d, hd, r⟩ := paired_get pw hx
        obtain ⟨_, rfl⟩ := List.getElem?_eq_some_iff.mp hd
        exact r
      obtain ⟨g1, g2⟩ := gd _ (List.getElem_mem hi)
      obtain ⟨r1, r2, r3⟩ := row_short ds[i] g1 g2
      have e1 : (" " : Str).length = 1 := by decide +kernel
      have r4 : (ds[i].1 ++ " ").length ≤ 11 := by rw [Str.length_append, e1]; omega
      refine ⟨c0, _, rfl, SqT.of (s1 _ _ ec), rfl, _, _, rfl, _, _, rfl, rfl, rfl, kept ⟨_, rfl, ds[i].1, " ", rfl, rfl, by rw [e1]; omega, _, rfl, _, ds[i].2, rfl, rfl, by omega, _, at_D, ?_, fun b o e => ?_, ?_⟩⟩
      · rw [List.length_map, List.length_map, List.length_take]
        omega
      · rw [upd_ne (ne_of_none e nD)]
        exact s1 _ _ e
      · rw [upd_same, List.take_succ_eq_append_getElem hi, List.map_append, List.map_append, ← rowOf_eq]
        rfl
    rintro H1 ⟨s1, at_D⟩
    rw [lw, List.take_length] at at_D
    generalize hrs : ds.map rowOf = rs at at_D
    have nDp := dl.new nD
    have lrs : rs.length = ds.length := by rw [← hrs, List.length_map]
    have dl1 := dl.same s1
    refine ⟨_, rfl, _, rfl, l, _, rfl, .inl (SqL.of (s1 _ _ hl)), _, _, rfl, rfl, p, q, _, rfl, dl1, by omega, by omega, fun r0 H2 ra rb but2 dl2 => ?_⟩
    obtain ⟨j, rfl⟩ : ∃ j : Nat, r0 = (j : Int) := ⟨r0.toNat, by omega⟩
    have hj : j ≤ rs.length := by omega
    have at_D2 := but2 _ _ nDp.1 nDp.2 at_D
    have b2 : But2 p q H H2 := fun c o n1 n2 e => but2 _ _ n1 n2 (s1 _ _ e)
    refine ⟨by show 2 ≤ sizeLine; decide, fun t nt => ?_⟩
    have s3 := same_upd (o := .tup [.ref D, .int (j : Nat)]) nt
    refine ⟨t, _, rfl, SqT.of upd_same, rfl, _, _, rfl, _, _, rfl, rfl, ?_⟩
    have dl3 := dl2.same s3
    have b3 : But2 p q H (upd H2 t (.tup [.ref D, .int (j : Nat)])) := fun c o n1 n2 e => s3 _ _ (b2 _ _ n1 n2 e)
    have at_D3 := s3 _ _ at_D2
    revert dl3 b3 at_D3
    generalize upd H2 t (.tup [.ref D, .int (j : Nat)]) = G
    intro dl3 b3 at_D3
    clear s3 nt at_D2 b2 dl2 but2
    refine ⟨by show 10 ≤ sizeLine; decide, fun m nm => ?_⟩
    generalize hG4 : upd G m _ = G4
    have s4 : Same G G4 := by rw [← hG4]; exact same_upd nm
    have at_m : G4 m = some (.lst (wrongs.map V.str)) := by rw [← hG4]; exact upd_same
    obtain ⟨mp, mq⟩ := dl3.new nm
    have dl4 := dl3.same s4
    have at_D4 := s4 _ _ at_D3
    have b4 : But2 p q H G4 := fun c o n1 n2 e => s4 _ _ (b3 _ _ n1 n2 e)
    have lm : (rs.map V.str).length = rs.length := List.length_map ..
    refine ⟨⟨_, rfl⟩, _, rfl, _, rfl, _, rfl, D, _, rfl, SqL.of at_D4, fun a1 h1 => ?_⟩
    rw [cut_takeV (rs.map V.str) j (by omega)]
    have y1 := same_upd (o := .lst ((rs.map V.str).take j)) h1
    obtain ⟨a1p, a1q⟩ := dl4.new h1
    have ea1 := upd_same (H := G4) (a := a1) (o := .lst ((rs.map V.str).take j))
    refine ⟨_, rfl, _, rfl, p, q, m, _, rfl, dl4.same y1, mp, mq, y1 _ _ at_m, by show 1 ≤ 10; decide, by show 10 ≤ 1000; decide, fun x H6 hx but6 dl6 => ?_⟩
    obtain ⟨wr, hwr, rfl⟩ := List.mem_map.mp hx
    have ea16 := but6 _ _ a1p a1q ea1
    have b06 : But2 p q H H6 := fun c o n1 n2 e => but6 _ _ n1 n2 (y1 _ _ (b4 _ _ n1 n2 e))
    have at_D6 := but6 _ _ nDp.1 nDp.2 (y1 _ _ at_D4)
    refine ⟨by show 1 ≤ sizeLine; decide, fun a2 h2 => ?_⟩
    have y2 := same_upd (o := .lst [V.str wr]) h2
    have tl : ((rs.map V.str).take j).length ≤ 5 := by rw [List.length_take]; omega
    have dr : ((rs.map V.str).drop j).length ≤ 5 := by rw [List.length_drop]; omega
    refine ⟨_, _, _, _, rfl, rfl, y2 _ _ ea16, upd_same, by show _ + 1 ≤ _; omega, fun a3 h3 => ?_⟩
    have y3 := same_upd (o := .lst ((rs.map V.str).take j ++ [V.str wr])) h3
    have y23 := y2.trans y3
    have ea3 := upd_same (H := upd H6 a2 (.lst [V.str wr])) (a := a3) (o := .lst ((rs.map V.str).take j ++ [V.str wr]))
    refine ⟨_, rfl, _, rfl, _, rfl, D, _, rfl, SqL.of (y23 _ _ at_D6), fun a4 h4 => ?_⟩
    rw [cut_dropV (rs.map V.str) j (by omega)]
    have y4 := same_upd (o := .lst ((rs.map V.str).drop j)) h4
    have y24 := y23.trans y4
    refine ⟨_, _, _, _, rfl, rfl, y4 _ _ ea3, upd_same, by rw [List.length_append]; show _ + 1 + _ ≤ _; omega, fun a5 h5 => ?_⟩
    generalize hG5 : upd _ a5 _ = G5
    have y5 := same_upd (o := .lst ((rs.map V.str).take j ++ [V.str wr] ++ (rs.map V.str).drop j)) h5
    rw [hG5] at y5
    have y25 := y24.trans y5
    have exs : (rs.map V.str).take j ++ [V.str wr] ++ (rs.map V.str).drop j = (rs.take j ++ [wr] ++ rs.drop j).map V.str := by
      rw [List.map_append, List.map_append, List.map_take, List.map_drop]
      rfl
    have at5 : G5 a5 = some (HO.lst ((rs.take j ++ [wr] ++ rs.drop j).map V.str)) := by
      rw [← exs, ← hG5]
      exact upd_same
    have b5 : But2 p q H G5 := fun c o n1 n2 e => y25 _ _ (b06 _ _ n1 n2 e)
    have dl5 := dl6.same y25
    have at_D5 := y25 _ _ at_D6
    -- the rows of the text
    have fine : ∀ r, r ∈ rs → rowFine r = true ∧ rowB r = true ∧ r ≠ "" := fun r hr => by
      rw [← hrs] at hr
      obtain ⟨d, hd, rfl⟩ := List.mem_map.mp hr
      obtain ⟨g1, g2⟩ := gd d hd
      obtain ⟨h1, h2, h3, _⟩ := good_row d g1 g2
      exact ⟨h1, h2, h3⟩
    obtain ⟨w1, w2, w3⟩ := wrong_row wr hwr
    have fineX : ∀ r, r ∈ rs.take j ++ [wr] ++ rs.drop j → rowFine r = true := fun r hr => by
      simp only [List.mem_append, List.mem_singleton] at hr
      rcases hr with (z | rfl) | z
      · exact (fine r (List.mem_of_mem_take z)).1
      · exact w1
      · exact (fine r (List.mem_of_mem_drop z)).1
    have memX : wr ∈ rs.take j ++ [wr] ++ rs.drop j := by simp
    have lenX : (rs.take j ++ [wr] ++ rs.drop j).length = rs.length + 1 := by
      simp only [List.length_append, List.length_take, List.length_drop, List.length_singleton]
      omega
    have rowsX := rows_of memX w3 fineX
    have shortX := short_of memX w3 fineX (by omega)
    have firstX := first_bad_at hj (fun r hr => (fine r hr).2.1) w2
    have badX : ¬ ∀ r, r ∈ rs.take j ++ [wr] ++ rs.drop j → rowB r = true := fun z => by
      have := z wr memX
      rw [w2] at this
      cases this
    generalize hX : rs.take j ++ [wr] ++ rs.drop j = xs at at5 rowsX shortX lenX fineX firstX badX
    have nl1 : ("\n" : Str).length = 1 := by decide +kernel
    have joinS : ∀ ys : List Str, (∀ r, r ∈ ys → rowFine r = true) → ys.length ≤ 7 → (List.map (fun x => x.length) ys).sum + ys.length * ("\n" : Str).length ≤ 16777216 := fun ys fy fewy => by
      have h2 := sum_le (ys.map (·.length)) 20 (fun y hy => by
        obtain ⟨r, hr, rfl⟩ := List.mem_map.mp hy
        exact (fine_of (fy r hr)).2)
      rw [List.length_map] at h2
      rw [nl1]
      omega
    refine ⟨"\n", a5, xs, rfl, rfl, .inl (SqL.of at5), joinS xs fineX (by omega), ?_⟩
    have tb5 := tabs_but dl b5 tb
    have n5 : BN p q H G5 := .but b5
    -- the first work: one row is wrong
    refine ⟨tb5, fun K1 x1 t1 => ⟨rfl, _, rfl, _, rfl, .str _, (fun h => nomatch h), fun s hs => ?_⟩⟩
    cases hs
    rw [rowsX]
    refine ⟨shortX, fun all => absurd all badX, fun i fb H7 d7 s7 nd7 ed7 => ⟨d7, _, rfl, ed7, .inr ⟨rfl, fun p7 np7 => ?_⟩⟩⟩
    obtain rfl := first_bad_uniq fb firstX
    have z7 := same_upd (o := .lst [.int (i : Nat), .bl false]) np7
    refine ⟨_, rfl, by show 2 ≤ sizeLine; decide, fun p8 np8 => ?_⟩
    have z8 := same_upd (o := .lst [.int (i : Nat), .bl false]) np8
    refine ⟨_, _, res_dp (z8 _ _ upd_same), res_dp upd_same, res_shaped _ _, res_shaped _ _, _, rfl, ?_⟩
    rw [res_eqv]
    refine iteF ?_
    have s8 := (s7.trans z7).trans z8
    have e8 := x1.trans (ext_same s8)
    have n8 := n5.trans (.ext e8)
    have dl8 := dl5.ext e8
    have tb8 := tabs_same t1 s8
    have at_D8 := e8 _ _ at_D5 (fun _ z => nomatch z)
    generalize hG8 : upd _ p8 _ = G8
    rw [hG8] at n8 dl8 tb8 at_D8
    have shR : SeqAt.shaped (.list (rs.map PyData.str)) = true := shaped_strs fun r hr => by
      rw [← hrs] at hr
      obtain ⟨d, hd, rfl⟩ := List.mem_map.mp hr
      obtain ⟨g1, g2⟩ := gd d hd
      exact lay_row d g1 g2
    refine ⟨_, rfl, Nat.zero_le _, fun a8 na8 => ?_⟩
    have w8 := same_upd (o := .lst []) na8
    refine ⟨_, _, .lst (SqL.of (w8 _ _ at_D8)) (dps_strs rs), .lst (SqL.of upd_same) .nil, shR, shaped_strs (xs := []) (fun _ z => nomatch z), _, rfl, ?_⟩
    rw [ne_nilS]
    have n8 := n8.trans (.of w8)
    have dl8 := dl8.same w8
    have tb8 := tabs_same tb8 w8
    have at_D8 := w8 _ _ at_D8
    generalize hG8 : upd G8 a8 _ = G8' at n8 dl8 tb8 at_D8
    by_cases hne : rs = []
    · rw [hne]
      refine iteF (iteF ?_)
      refine ⟨tb8, fun K3 x3 t3 => ⟨rfl, _, rfl, by show 2 ≤ sizeLine; decide, fun o1 no1 => ⟨by show 3 ≤ sizeLine; decide, fun o2 no2 => ?_⟩⟩⟩
      have dK := dl8.ext x3
      have q1 := same_upd (o := .tup [.str "off", .str "p"]) no1
      generalize hK4 : upd _ o2 _ = K4
      have q2 : Same K3 K4 := by rw [← hK4]; exact q1.trans (same_upd no2)
      have at_o : K4 o2 = some (.lst [.non, .int 5, .ref o1]) := by rw [← hK4]; exact upd_same
      have at_o1 : K4 o1 = some (.tup [.str "off", .str "p"]) := by rw [← hK4]; exact same_upd no2 _ _ upd_same
      have dK4 := dK.same q2
      obtain ⟨o2p, o2q⟩ := dK.new (q1.free no2)
      refine ⟨p, q, o2, _, rfl, dK4, o2p, o2q, at_o, by show 1 ≤ 3; decide, by show 3 ≤ 1000; decide, fun y K5 hy but5 dK5 => ?_⟩
      have okY : OkV K5 y ∧ isStr y = false := by
        simp only [List.mem_cons, List.not_mem_nil, or_false] at hy
        rcases hy with rfl | rfl | rfl
        · exact ⟨.non, rfl⟩
        · exact ⟨.int 5, rfl⟩
        · exact ⟨.tup (dK4.tup but5 at_o1), rfl⟩
      refine ⟨y, rfl, okY.1, fun _ K6 d6 s6 nd6 ed6 => ⟨d6, _, rfl, ed6, .inr ⟨rfl, fun p9 np9 => ?_⟩⟩, fun s hs => ?_⟩
      · have z9 := same_upd (o := .lst [.int 0, .bl false]) np9
        refine ⟨by show 2 ≤ sizeLine; decide, fun pa npa => ?_⟩
        have za := same_upd (o := .lst [.int 0, .bl false]) npa
        refine ⟨_, _, res_dp (za _ _ upd_same), res_dp upd_same, res_shaped _ _, res_shaped _ _, ?_⟩
        rw [res_eqv]
        have sA := (s6.trans z9).trans za
        have n9 : BN p q H K5 := ((n8.trans (.ext x3)).trans (.of q2)).trans (.but but5)
        exact k _ (n9.trans (.of sA)) (dK5.same sA) (tabs_same (tabs_but dK4 but5 (tabs_same t3 q2)) sA)
      · rw [hs] at okY
        exact absurd okY.2 (by intro z; cases z)
    · have e0 : (!rs.isEmpty) = true := by
        cases rs with
        | nil => exact absurd rfl hne
        | cons _ _ => rfl
      rw [e0]
      refine iteT ?_
      have fineR : ∀ r, r ∈ rs → rowFine r = true := fun r hr => (fine r hr).1
      have lenT : (Txt.join "\n" rs).length ≤ 1000 := by
        obtain ⟨r, hr⟩ := List.exists_mem_of_ne_nil rs hne
        exact (short_of hr (fine r hr).2.2 fineR (by omega)).1
      refine ⟨tb8, fun K1 x1 t1 => ⟨rfl, ⟨_, rfl⟩, _, rfl, "\n", D, rs, rfl, rfl, .inl (SqL.of (x1 _ _ at_D8 (fun _ z => nomatch z))), joinS rs fineR (by omega), _, _, rfl, rfl, by rw [nl1]; omega, _, rfl, .str _, (fun h => nomatch h), fun s hs => ?_⟩⟩
      cases hs
      rw [join_snoc rs hne]
      have fineS : ∀ r, r ∈ rs ++ [("" : Str)] → rowFine r = true := fun r hr => by
        rcases List.mem_append.mp hr with z | z
        · exact fineR r z
        · obtain rfl := List.mem_singleton.mp z
          exact empty_row.2
      obtain ⟨r1, hr1⟩ := List.exists_mem_of_ne_nil rs hne
      have mem1 : r1 ∈ rs ++ [("" : Str)] := List.mem_append_left _ hr1
      have len1 : (rs ++ [("" : Str)]).length = rs.length + 1 := by simp
      have firstS : firstBad (rs ++ [("" : Str)]) rs.length := by
        have := first_bad_at (j := rs.length) (Nat.le_refl _) (fun r hr => (fine r hr).2.1) empty_row.1
        simpa using this
      rw [rows_of mem1 (fine r1 hr1).2.2 fineS]
      refine ⟨short_of mem1 (fine r1 hr1).2.2 fineS (by omega), fun all => ?_, fun i fb H7 d7 s7 nd7 ed7 => ⟨d7, _, rfl, ed7, .inr ⟨rfl, fun p7 np7 => ?_⟩⟩⟩
      · have := all "" (by simp)
        rw [empty_row.1] at this
        cases this
      obtain rfl := first_bad_uniq fb firstS
      have z7 := same_upd (o := .lst [.int (rs.length : Nat), .bl false]) np7
      have at_D9 := z7 _ _ (s7 _ _ (x1 _ _ at_D8 (fun _ z => nomatch z)))
      refine ⟨_, rfl, D, _, rfl, .inl (SqL.of at_D9), by show 2 ≤ sizeLine; decide, fun p8' np8 => ?_⟩
      rw [lm]
      have z8 := same_upd (o := .lst [.int (rs.length : Nat), .bl false]) np8
      refine ⟨_, _, res_dp (z8 _ _ upd_same), res_dp upd_same, res_shaped _ _, res_shaped _ _, _, rfl, ?_⟩
      rw [res_eqv]
      refine iteF ?_
      have s8 := (s7.trans z7).trans z8
      have e8 := x1.trans (ext_same s8)
      have n9 := n8.trans (.ext e8)
      have dl9 := dl8.ext e8
      have tb9 := tabs_same t1 s8
      generalize hG9 : upd _ p8' _ = G9
      rw [hG9] at n9 dl9 tb9
      refine ⟨tb9, fun K3 x3 t3 => ⟨rfl, _, rfl, by show 2 ≤ sizeLine; decide, fun o1 no1 => ⟨by show 3 ≤ sizeLine; decide, fun o2 no2 => ?_⟩⟩⟩
      have dK := dl9.ext x3
      have q1 := same_upd (o := .tup [.str "off", .str "p"]) no1
      generalize hK4 : upd _ o2 _ = K4
      have q2 : Same K3 K4 := by rw [← hK4]; exact q1.trans (same_upd no2)
      have at_o : K4 o2 = some (.lst [.non, .int 5, .ref o1]) := by rw [← hK4]; exact upd_same
      have at_o1 : K4 o1 = some (.tup [.str "off", .str "p"]) := by rw [← hK4]; exact same_upd no2 _ _ upd_same
      have dK4 := dK.same q2
      obtain ⟨o2p, o2q⟩ := dK.new (q1.free no2)
      refine ⟨p, q, o2, _, rfl, dK4, o2p, o2q, at_o, by show 1 ≤ 3; decide, by show 3 ≤ 1000; decide, fun y K5 hy but5 dK5 => ?_⟩
      have okY : OkV K5 y ∧ isStr y = false := by
        simp only [List.mem_cons, List.not_mem_nil, or_false] at hy
        rcases hy with rfl | rfl | rfl
        · exact ⟨.non, rfl⟩
        · exact ⟨.int 5, rfl⟩
        · exact ⟨.tup (dK4.tup but5 at_o1), rfl⟩
      refine ⟨y, rfl, okY.1, fun _ K6 d6 s6 nd6 ed6 => ⟨d6, _, rfl, ed6, .inr ⟨rfl, fun p9 np9 => ?_⟩⟩, fun s hs => ?_⟩
      · have z9 := same_upd (o := .lst [.int 0, .bl false]) np9
        refine ⟨by show 2 ≤ sizeLine; decide, fun pa npa => ?_⟩
        have za := same_upd (o := .lst [.int 0, .bl false]) npa
        refine ⟨_, _, res_dp (za _ _ upd_same), res_dp upd_same, res_shaped _ _, res_shaped _ _, ?_⟩
        rw [res_eqv]
        have sA := (s6.trans z9).trans za
        have n9 : BN p q H K5 := ((n9.trans (.ext x3)).trans (.of q2)).trans (.but but5)
        exact k _ (n9.trans (.of sA)) (dK5.same sA) (tabs_same (tabs_but dK4 but5 (tabs_same t3 q2)) sA)
      · rw [hs] at okY
        exact absurd okY.2 (by intro z; cases z)
end
end K17

namespace K17
open PySem PySem.Spec PyProof.Rows L2
open Cal EnuT Exn Keys LamX Stc

/-! ### what the law needs of deeds, texts and their data -/
theorem rows_text {ds : List (Str × Str)} (g : GoodDeeds ds) : rowsOf (textOf ds) = ds.map rowOf ∧ Short (textOf ds) := by
  obtain ⟨d5, gd⟩ := g
  cases ds with
  | nil =>
    have e : textOf [] = "" := by decide +kernel
    rw [e]
    refine ⟨if_pos rfl, by decide +kernel, ?_, ?_⟩
    · rw [show rowsOf "" = [] from if_pos rfl]
      decide
    · rw [show rowsOf "" = [] from if_pos rfl]
      exact fun r hr => nomatch hr
  | cons d ds =>
    have fine : ∀ r, r ∈ (d :: ds).map rowOf → rowFine r = true := fun r hr => by
      obtain ⟨e, he, rfl⟩ := List.mem_map.mp hr
      exact (good_row e (gd e he).1 (gd e he).2).1
    have m0 : rowOf d ∈ (d :: ds).map rowOf := List.mem_map.mpr ⟨d, List.mem_cons_self .., rfl⟩
    have n0 := (good_row d (gd d (List.mem_cons_self ..)).1 (gd d (List.mem_cons_self ..)).2).2.2.1
    exact ⟨rows_of m0 n0 fine, short_of m0 n0 fine (by rw [List.length_map]; omega)⟩
theorem rows_good {ds : List (Str × Str)} (g : GoodDeeds ds) : ∀ r, r ∈ ds.map rowOf → rowB r = true := fun r hr => by
  obtain ⟨e, he, rfl⟩ := List.mem_map.mp hr
  exact (good_row e (g.2 e he).1 (g.2 e he).2).2.1
theorem deeds_back {ds : List (Str × Str)} (g : GoodDeeds ds) : (ds.map rowOf).map deedOf = ds := by
  rw [List.map_map]
  conv => rhs; rw [← List.map_id ds]
  exact List.map_congr_left fun d hd => (good_row d (g.2 d hd).1 (g.2 d hd).2).2.2.2
def deedFits (d : Str × Str) : Bool := (deedD d).showable && !(deedD d).hasDict && decide ((deedD d).depth = 1) && PyData.leavesShort 12 (deedD d) && decide ((deedD d).bulk ≤ 19)
theorem deed_fits : ∀ d : Str × Str, d.1 ∈ words → d.2 ∈ pnames → deedFits d = true := by
  have h : (words.all fun a => pnames.all fun b => deedFits (a, b)) = true := by decide +kernel
  intro d h1 h2
  exact List.all_eq_true.mp (List.all_eq_true.mp h d.1 h1) d.2 h2
theorem deeds_fit {ds : List (Str × Str)} (g : GoodDeeds ds) : (deedsD ds).showable = true ∧ (deedsD ds).hasDict = false ∧ (deedsD ds).depth ≤ 20 ∧ (deedsD ds).shown.length ≤ sizeLine := by
  obtain ⟨d5, gd⟩ := g
  have key : ∀ ds : List (Str × Str), (∀ d, d ∈ ds → d.1 ∈ words ∧ d.2 ∈ pnames) → PyData.showableAll (ds.map deedD) = true ∧ PyData.hasDictAll (ds.map deedD) = false ∧ PyData.depthAll (ds.map deedD) ≤ 2 ∧ PyData.leavesShortAll 12 (ds.map deedD) = true ∧ PyData.bulkAll (ds.map deedD) ≤ ds.length * 20 := by
    intro ds
    induction ds with
    | nil => exact fun _ => ⟨by simp [PyData.showableAll], by simp [PyData.hasDictAll], by simp [PyData.depthAll], by simp [PyData.leavesShortAll], by simp [PyData.bulkAll]⟩
    | cons d ds ih =>
      intro g
      obtain ⟨i1, i2, i3, i4, i5⟩ := ih fun e he => g e (List.mem_cons_of_mem _ he)
      have f := deed_fits d (g d (List.mem_cons_self ..)).1 (g d (List.mem_cons_self ..)).2
      unfold deedFits at f
      simp only [Bool.and_eq_true, decide_eq_true_eq, Bool.not_eq_true'] at f
      obtain ⟨⟨⟨⟨f1, f2⟩, f3⟩, f4⟩, f5⟩ := f
      refine ⟨?_, ?_, ?_, ?_, ?_⟩
      · rw [List.map_cons, PyData.showableAll, f1, i1]; rfl
      · rw [List.map_cons, PyData.hasDictAll, f2, i2]; rfl
      · rw [List.map_cons, PyData.depthAll, f3]; omega
      · rw [List.map_cons, PyData.leavesShortAll, f4, i4]; rfl
      · rw [List.map_cons, PyData.bulkAll, List.length_cons]; omega
  obtain ⟨k1, k2, k3, k4, k5⟩ := key ds gd
  refine ⟨?_, ?_, ?_, ?_⟩
  · simpa only [deedsD, PyData.showable] using k1
  · simpa only [deedsD, PyData.hasDict] using k2
  · simp only [deedsD, PyData.depth]
    omega
  · have s := PyData.shown_le_bulk 12 (by decide) (deedsD ds) (by simpa only [deedsD, PyData.leavesShort] using k4)
    have e : (deedsD ds).bulk ≤ 100 := by
      simp only [deedsD, PyData.bulk]
      omega
    have : (2000 : Nat) ≤ sizeLine := by decide
    have : (12 + 2) * (deedsD ds).bulk ≤ (12 + 2) * 100 := Nat.mul_le_mul_left _ e
    omega
/-- deeds as a list -/
def deedsL (ds : List (Str × Str)) : PyData := .list (ds.map deedD)
theorem eqv_deedsL (ds es : List (Str × Str)) : PyData.eqv (deedsL ds) (deedsL es) = decide (ds = es) := by
  have := eqv_deeds ds es
  simpa only [deedsD, deedsL, PyData.eqv] using this
theorem shaped_deedsL {ds : List (Str × Str)} (g : GoodDeeds ds) : SeqAt.shaped (deedsL ds) = true := by
  have := shaped_deeds g
  simpa only [deedsD, deedsL, SeqAt.shaped, PyData.canLay0, PyData.depth] using this
theorem dp_deedsL {K : W.Frag} {H : Hp} {t : Addr} {ws : List V} {ds : List (Str × Str)} (ht : H t = some (.lst ws)) (pw : Paired (DeedAt H) ws ds) : Dp K H (.ref t) (deedsL ds) := .lst (SqL.of ht) (dps_deeds pw)
theorem ne_nilD (ds : List (Str × Str)) : (!PyData.eqv (deedsL ds) (.list [])) = !ds.isEmpty := by cases ds <;> rfl
/-- whom a deed asks for -/
def askV (d : Str × Str) : V := if d.1 ∈ (["drain", "off"] : List Str) then .str d.2 else .non
def askD (d : Str × Str) : PyData := if d.1 ∈ (["drain", "off"] : List Str) then .str d.2 else .none
theorem ask_dp {K : W.Frag} {H : Hp} (d : Str × Str) : Dp K H (askV d) (askD d) := by
  unfold askV askD
  split
  · exact .str _
  · exact .non
theorem dps_ask {K : W.Frag} {H : Hp} : ∀ ds : List (Str × Str), DpAll K H (ds.map askV) (ds.map askD)
  | [] => .nil
  | d :: ds => .cons (ask_dp d) (dps_ask ds)
theorem lay_ask : ∀ d : Str × Str, d.1 ∈ words → d.2 ∈ pnames → (askD d).canLay0 = true ∧ (askD d).depth = 0 := by
  have h : (words.all fun a => pnames.all fun b => (askD (a, b)).canLay0 && decide ((askD (a, b)).depth = 0)) = true := by decide +kernel
  intro d h1 h2
  simpa [Bool.and_eq_true] using List.all_eq_true.mp (List.all_eq_true.mp h d.1 h1) d.2 h2
theorem shaped_ask {ds : List (Str × Str)} (g : GoodDeeds ds) : SeqAt.shaped (.list (ds.map askD)) = true := by
  have h : ∀ ds : List (Str × Str), (∀ d, d ∈ ds → d.1 ∈ words ∧ d.2 ∈ pnames) → PyData.canLayAll0 (ds.map askD) = true ∧ PyData.depthAll (ds.map askD) ≤ 1 := by
    intro ds
    induction ds with
    | nil => exact fun _ => ⟨by simp [PyData.canLayAll0], by simp [PyData.depthAll]⟩
    | cons d ds ih =>
      intro g
      obtain ⟨i1, i2⟩ := ih fun e he => g e (List.mem_cons_of_mem _ he)
      obtain ⟨e1, e2⟩ := lay_ask d (g d (List.mem_cons_self ..)).1 (g d (List.mem_cons_self ..)).2
      refine ⟨?_, ?_⟩
      · rw [List.map_cons, PyData.canLayAll0, e1, i1]; rfl
      · rw [List.map_cons, PyData.depthAll, e2]; omega
  obtain ⟨h1, h2⟩ := h ds g.2
  simp [SeqAt.shaped, PyData.canLay0, PyData.depth, h1]
  omega
theorem ask_refl (ds : List (Str × Str)) : PyData.eqv (.list (ds.map askD)) (.list (ds.map askD)) = true := by
  have h : PyData.eqvAll (ds.map askD) (ds.map askD) = true := by
    induction ds with
    | nil => simp [PyData.eqvAll]
    | cons d ds ih =>
      simp only [List.map_cons, PyData.eqvAll, ih, Bool.and_true]
      unfold askD
      split <;> simp [PyData.eqv]
  simp only [PyData.eqv, h]
/-- a deed's tuple -/
theorem deed_at {H : Hp} {v : V} {d : Str × Str} (h : DeedAt H v d) (h1 : d.1 ∈ words) (h2 : d.2 ∈ pnames) : deedB H v = true ∧ OkItems H v ∧ tupOf H v = [.str d.1, .str d.2] := by
  obtain ⟨t, rfl, e⟩ := h
  have f : (words.all fun a => pnames.all fun b => decide (a ∈ words) && nameOk b) = true := by decide +kernel
  have f := List.all_eq_true.mp (List.all_eq_true.mp f d.1 h1) d.2 h2
  obtain ⟨_, r2, r3⟩ := row_short d h1 h2
  refine ⟨?_, ⟨.tup e, fun xs hx y hy => ?_⟩, ?_⟩
  · unfold deedB
    rw [seqOf_tup e]
    exact f
  · rw [seqOf_tup e] at hx
    obtain rfl := Option.some.inj hx
    simp only [List.mem_cons, List.not_mem_nil, or_false] at hy
    rcases hy with rfl | rfl
    · exact ⟨.str _, fun s hs => by cases hs; omega⟩
    · exact ⟨.str _, fun s hs => by cases hs; omega⟩
  · unfold tupOf
    rw [seqOf_tup e]
    rfl
theorem deeds_at {H : Hp} : ∀ {ws : List V} {ds : List (Str × Str)}, Paired (DeedAt H) ws ds → (∀ d, d ∈ ds → d.1 ∈ words ∧ d.2 ∈ pnames) → ∀ x, x ∈ ws → deedB H x = true ∧ OkItems H x
  | _, _, .nil, _, x, h => nomatch h
  | _, _, .cons r t, g, x, h => by
    rcases List.mem_cons.mp h with z | z
    · rw [z]
      obtain ⟨a, b, _⟩ := deed_at r (g _ (List.mem_cons_self ..)).1 (g _ (List.mem_cons_self ..)).2
      exact ⟨a, b⟩
    · exact deeds_at t (fun d hd => g d (List.mem_cons_of_mem _ hd)) x z
theorem kept_deeds {H1 H2 : Hp} : ∀ {vs ws : List V} {ds : List (Str × Str)}, (∀ d, d ∈ ds → d.1 ∈ words ∧ d.2 ∈ pnames) → Paired (fun w x => ∃ c, w = V.ref c ∧ H2 c = some (.tup (tupOf H1 x))) vs ws → Paired (DeedAt H1) ws ds → Paired (DeedAt H2) vs ds
  | _, _, _, _, .nil, .nil => .nil
  | _, _, _, g, .cons ⟨c, e, ec⟩ t, .cons r t2 => by
    obtain ⟨_, _, h3⟩ := deed_at r (g _ (List.mem_cons_self ..)).1 (g _ (List.mem_cons_self ..)).2
    exact .cons ⟨c, e, by rw [ec, h3]⟩ (kept_deeds (fun d hd => g d (List.mem_cons_of_mem _ hd)) t t2)
end K17

namespace K17
open PySem PySem.Spec PyProof.Rows L2
open Cal EnuT Exn Keys LamX Stc Oeq

/-- a def by its name, called by keywords -/
def CalleeK (P : Program) (w : World) (K : W.Frag) (mg : Str → Option Value) (base : Heap) (x : Str) (k : Nat) (ps ks : List Str) (g : List Value → List Value → List Value) (gV : List V → List V → List V) (sp : Sp) : Prop :=
  ∃ f fd, mg x = some (.ref f) ∧ W.keepIn K (.ref f) = true ∧ KBinds K fd ps ks g gV ∧ FnOk P w K mg base CX0 k f fd ps sp
theorem pe_calleeK {X : Cx} {x : Str} {k : Nat} {ps ks : List Str} {sp : Sp} {p pos : Pos} {kws : List Keyword} {tk : TA} {g : List Value → List Value → List Value} {gV : List V → List V → List V} (c : CalleeK X.prog X.w X.K X.mg X.base x k ps ks g gV sp) (hr : Room k X.A) (hg : Gl X x) (hk : PK X kws tk)
    (hall : (backToKw pos (keywordEach kws X.env)).all (·.1.isSome) = true := by rfl) (hks : (backToKw pos (keywordEach kws X.env)).filterMap (·.1) = ks := by rfl) (hdb : (x == ("__debug__" : Str)) = false := by decide)
    (hpl : ((backTo pos (starEach [] X.env)).any (·.1) || (backToKw pos (keywordEach kws X.env)).any (·.1.isNone)) = false := by rfl) :
    PE X (.Call (.Name x p) [] kws pos) (tCallK sp gV E0 tNil tk) := by
  obtain ⟨f, fd, m, kp, b, F⟩ := c
  exact pe_callK0 F hr hg m kp b pass0 hk hall hks hdb hpl
def g1 : List Value → List Value → List Value := fun us ws => match us, ws with
  | [], [a] => [a]
  | _, _ => []
def gV1 : List V → List V → List V := fun us ws => match us, ws with
  | [], [a] => [a]
  | _, _ => []
theorem passX {X : Cx} : Passes (L2.CX X.prog X.w) X E0 := passes_call LamX.takes0 (fun _ _ _ _ h => h)
theorem planIns_but {H H' : Hp} {C o h : Addr} {xs : List V} {ds : List (Str × Str)} (e : H h = some (.lst xs)) (k : ∀ b u, b ≠ h → H b = some u → H' b = some u) (p : PlanIns H C o ds) : PlanIns H' C o ds := by
  obtain ⟨dx, t, ws, h1, h2, pw⟩ := p
  exact ⟨dx, t, ws, k _ _ (ne_of h1 e (fun z => by cases z)) h1, k _ _ (ne_of h2 e (fun z => by cases z)) h2, paired_mono (fun _ _ ⟨c, ec, et⟩ => ⟨c, ec, k _ _ (ne_of et e (fun z => by cases z)) et⟩) pw⟩
theorem tabs_but1 {H H' : Hp} {h : Addr} {xs : List V} {T : List (Addr × Str)} (e : H h = some (.lst xs)) (k : ∀ b u, b ≠ h → H b = some u → H' b = some u) (t : Tabs T H) : Tabs T H' := fun x hx => by
  obtain ⟨ps, h1, h2, h3⟩ := t x hx
  refine ⟨ps, k _ _ (ne_of h1 e (fun z => by cases z)) h1, h2, fun pos cv hc => ?_⟩
  obtain ⟨c, e1, e2⟩ := h3 pos cv hc
  exact ⟨c, e1, k _ _ (ne_of e2 e (fun z => by cases z)) e2⟩
structure Defs (P : Program) (w : World) (K : W.Frag) (mg : Str → Option Value) (base : Heap) (C CP CT : Addr) (T : List (Addr × Str)) : Prop where
  dealt : Callee P w K mg base "_law_dealt" 1 ["_law_script", "_law_base"] (spDealt K)
  of : Callee P w K mg base "_law_of" 2 ["_law_deal", "_law_some"] spOf
  deeds : Callee P w K mg base "_law_deeds" 3 ["_law_deal"] spDeeds
  wrong : Callee P w K mg base "_law_with_wrong" 3 ["_law_deal", "_law_deeds_here"] spWrong
  texts : Callee P w K mg base "_law_texts_right" 8 ["_law_deal", "_law_deeds_here"] (spTexts T)
  asked : Callee P w K mg base "asked_empty" 1 ["told"] spAsked
  askedK : CalleeK P w K mg base "asked_empty" 1 ["told"] ["told"] g1 gV1 spAsked
  refd : Refd P w K mg base CP CT
  pc : PlanC P w K mg base C CP CT
  initK : ∃ fI fdI, Mk K C fI ∧ KBn K fdI ["self", "deeds"] 1 ["deeds"] (fun us ws => us ++ ws) (fun us ws => us ++ ws) ∧ FnOk P w K mg base (L2.CX P w) 3 fI fdI ["self", "deeds"] (spInit C CP)
  readK : ∃ mc r g fd, ClX.CRead K C mc ∧ SMet K C mc "read" r g ∧ KBinds K fd ["text"] ["text"] g1 gV1 ∧ FnOk P w K mg base (L2.CX P w) 5 g fd ["text"] (spPlanRead C CT)
  text : ∃ fT fd, Meth K C "text" fT ∧ Binds K fd ["self"] [] ∧ FnOk P w K mg base CX0 1 fT fd ["self"] (spText C)
  eq : ∃ fE fd, W.findIn K (.ref C) "__eq__" = some (some (.ref fE)) ∧ W.isFn K (.ref fE) = true ∧ Binds K fd ["self", "other"] [] ∧ FnOk P w K mg base CX0 1 fE fd ["self", "other"] (spEq K C)
  cl : Cls K C
  na : NoAttr K C "deeds"
  ns : W.notFirst K C (.type "str") = true
  nt : W.notFirst K C (.type "tuple") = true
  ks : W.kitOne K (.type "str") (.ref C) = some false
  kt : W.kitOne K (.type "tuple") (.ref C) = some false
abbrev NL : List Str := ["_law_script", "_law_turn", "_law_deal", "_law_deeds_here", "_law_handed", "_law_plan", "_law_text", "_law_back", "_law_other", "_law_bent", "_law_at", "_law_word", "_law_name", "_law_told"]
theorem scL : FnScope NL ["_law_script"] (defScope sLaw) := ⟨rfl, rfl, rfl, by decide +kernel, rfl, by decide +kernel, by decide +kernel⟩
abbrev qL : Str := "law.<locals>.<lambda>"
section
variable {P : Program} {w : World} {K : W.Frag} {mg : Str → Option Value} {base : Heap}
theorem law_ok {f c Pt C CP CT a : Addr} {fd : FuncData} {T : List (Addr × Str)} {s : Shared} {H : Hp} {ns : List Int} (F : Fun K "law" "law" sLaw f fd) (hc : fd.code = .ref c) (TB : TabB base mg c Pt) (hmT : (Pt, qL) ∈ T) (hu : ∀ p ∈ T, p.1 = Pt → p.2 = qL) (B : Bl mg)
    (D : Defs P w K mg base C CP CT T) (e0 : Env0 P w K mg base callerA [] s H) (bind : Binds K fd ["_law_script"] []) (tb : Tabs T H) (sq : SqL K H a (ns.map V.int)) (few : ns.length ≤ 63) :
    codeAny (model P w) callerA (.call (.ref f) ⟨[.ref a], []⟩) (CR CX0 [] P w H s (fun v _ => v = .bl true) E0) s := by
  refine law_runC (vs := [V.ref a]) F hc scL e0 bind (.cons (show RelV (V.ref a) (Value.ref a) from rfl) .nil) rfl ?_
  have hr10 : Room 10 callerA := ⟨rfl, by decide, by decide⟩
  have hr9 : Room 9 (callerA.deeper (envOfC "law" (defScope sLaw) s.heap.objs.size f (.ref c))) := hr10.deeper _
  have hr8 := hr9.mono (show 8 ≤ 9 by decide)
  have hr6 := hr9.mono (show 6 ≤ 9 by decide)
  have hr7 := hr9.mono (show 7 ≤ 9 by decide)
  have hr5 := hr9.mono (show 5 ≤ 9 by decide)
  have hr4 := hr9.mono (show 4 ≤ 9 by decide)
  have hr3 := hr9.mono (show 3 ≤ 9 by decide)
  have hr2 := hr9.mono (show 2 ≤ 9 by decide)
  have hr1 := hr9.mono (show 1 ≤ 9 by decide)
  have un := hr9.units
  obtain ⟨fI, fdI, mk, bI, FI⟩ := D.pc.init
  obtain ⟨fI', fdI', mk', bI', FI'⟩ := D.initK
  obtain ⟨mc, r, g, fdr, rd, sm, br, FR⟩ := D.readK
  obtain ⟨fT, fdT, mT, bT, FT⟩ := D.text
  obtain ⟨fE, fdE, iE, nE, bE, FE⟩ := D.eq
  have opE : OpR (cxOf CX0 P w K mg base NL "law" (defScope sLaw) f (.ref c) callerA [] s H E0).nox (compareOp .Eq) (rEqO K C (spEq K C)) := op_eqO FE iE nE bE hr1
  refine ⟨_, pss_cons (ps_set (i := 2) scL.nd rfl (Or.inr rfl) (pe_callee D.dealt hr1 rfl (pa_cons (pv 0) (pa_cons pe_int pa_nil))))
      (pss_cons (ps_for PassesOwn.never rfl (pi_range1 rfl B.range (pa_cons pe_int pa_nil)) (pg_name (i := 1) scL.nd rfl (Or.inl rfl))
      (pss_cons (ps_set (i := 3) scL.nd rfl (Or.inl rfl) (pe_callee D.deeds hr3 rfl (pa_cons (pv 2) pa_nil)))
      (pss_cons (ps_set (i := 4) scL.nd rfl (Or.inl rfl) (pe_callTy call_list_of (by rfl) B.list (by decide +kernel) (pa_cons (pv 3) pa_nil)))
      (pss_cons (ps_set (i := 5) scL.nd rfl (Or.inl rfl) (pe_make mk FI hr4 rfl D.pc.m bI .nil passX (pa_cons (pe_callee D.of hr2 rfl (pa_cons (pv 2) (pa_cons (pe_lst (pa_cons (pv 4) (pa_cons (pe_callTy call_tuple_of (by rfl) B.tuple (by decide +kernel) (pa_cons (pv 4) pa_nil)) pa_nil))) pa_nil))) pa_nil)))
      (pss_cons (ps_expr (pe_bm PySem.F.plainAttrs_list PySem.F.slot_list_append PySem.F.type_list_append mt_append (pv 4) (pa_cons (pe_tup (pa_cons pe_str (pa_cons pe_str pa_nil))) pa_nil)))
      (pss_cons (ps_set (i := 6) scL.nd rfl (Or.inl rfl) (pe_join pe_str (pe_lc (own := [("_law_word", 11), ("_law_name", 12)]) (g := gTup K 2 (gCons (gName 11) (gCons (gName 12) gNil))) (tt := tYes) (by rfl) scL.nd (pi_list (pv 3))
          (blkOk_by (own := [("_law_word", 11), ("_law_name", 12)]) (N := NL) (sc := defScope sLaw) (by decide +kernel))
          (fun _ _ _ _ _ => pg_tup (by rfl) (pgs_cons (pg_name (i := 11) scL.nd rfl (Or.inl rfl)) (pgs_cons (pg_name (i := 12) scL.nd rfl (Or.inl rfl)) pgs_nil))) (fun _ _ _ _ _ => pts_nil)
          (fun _ _ _ _ _ => pe_op op_add_str (pe_op op_add_str (pv 11) pe_str) (pv 12)))))
      (pss_cons (ps_if (PW.pt (pw_or (pt_cmpR op_ne (pe_callB (call_repr calm_guards un) (by rfl) B.repr (by decide +kernel) (pa_cons (pe_fld (pv 5) rfl) pa_nil)) (pe_callB (call_repr calm_guards un) (by rfl) B.repr (by decide +kernel) (pa_cons (pe_callTy call_tuple_of (by rfl) B.tuple (by decide +kernel) (pa_cons (pv 3) pa_nil)) pa_nil)) (nomark _)) (pw_or1 (pt_cmpR op_ne (pe_meth0 (pv 5) D.cl mT FT hr1 bT .nil pass0) (pv 6) (nomark _))))) (pss_one ps_never) pss_nil)
      (pss_cons (ps_set (i := 7) scL.nd rfl (Or.inl rfl) (pe_smethK (pe_glob (v := .ref C) rfl D.pc.m rfl) rd sm FR hr5 br passX (pk_cons (pv 6) pk_nil)))
      (pss_cons (ps_if (PW.pt (pw_or (pt_not (pt_cmpR opE (pv 7) (pv 5) (nomark _))) (pw_or (pt_cmpR op_ne (pe_callB (call_repr calm_guards un) (by rfl) B.repr (by decide +kernel) (pa_cons (pe_fld (pv 7) rfl) pa_nil)) (pe_callB (call_repr calm_guards un) (by rfl) B.repr (by decide +kernel) (pa_cons (pe_callTy call_tuple_of (by rfl) B.tuple (by decide +kernel) (pa_cons (pv 3) pa_nil)) pa_nil)) (nomark _)) (pw_or (pt_cmpR opE (pv 5) (pv 6) (nomark _)) (pw_or1 (pt_cmpR opE (pv 5) (pe_callTy call_tuple_of (by rfl) B.tuple (by decide +kernel) (pa_cons (pv 3) pa_nil)) (nomark _))))))) (pss_one ps_never) pss_nil)
      (pss_cons (ps_set (i := 8) scL.nd rfl (Or.inl rfl) (pe_callee D.deeds hr3 rfl (pa_cons (pv 2) pa_nil)))
      (pss_cons (ps_if (pt_cmpR op_ne (pe_cmpR opE (pe_make mk FI hr4 rfl D.pc.m bI .nil passX (pa_cons (pv 8) pa_nil)) (pv 5) (nomark _)) (pe_cmpR (op_eqD un) (pv 8) (pv 3) (nomark _)) (nomark _)) (pss_one ps_never) pss_nil)
      (pss_cons (ps_if (PW.pt (pw_and (pt_cmpR (op_neD un) (pv 3) (pe_lst pa_nil) (nomark _)) (pw_and1 (pt_cmpR op_ne (pe_calleeK D.askedK hr1 rfl (pk_cons (pe_ix ix_list (pv 3) pe_int (fun _ _ => rfl)) pk_nil)) (pe_ifExp (pt_cmpR op_in_seq (pe_ix ix_tup (pe_ix ix_list (pv 3) pe_int (fun _ _ => rfl)) pe_int (fun _ _ => rfl)) (pe_tup (pa_cons pe_str (pa_cons pe_str pa_nil))) (by rfl)) (pe_ix ix_tup (pe_ix ix_list (pv 3) pe_int (fun _ _ => rfl)) pe_int (fun _ _ => rfl)) pe_non) (nomark _))))) (pss_one ps_never) pss_nil)
      (pss_cons (ps_if (pt_cmpR (op_neD un) (pe_lc (own := [("_law_told", 13)]) (g := gName 13) (tt := tYes) (by rfl) scL.nd (pi_list (pv 3))
          (blkOk_by (own := [("_law_told", 13)]) (N := NL) (sc := defScope sLaw) (by decide +kernel))
          (fun _ _ _ _ _ => pg_name (i := 13) scL.nd rfl (Or.inl rfl)) (fun _ _ _ _ _ => pts_nil)
          (fun _ _ _ _ _ => pe_callee D.asked hr1 rfl (pa_cons (pv 13) pa_nil))) (pe_lc (own := [("_law_word", 11), ("_law_name", 12)]) (g := gTup K 2 (gCons (gName 11) (gCons (gName 12) gNil))) (tt := tYes) (by rfl) scL.nd (pi_list (pv 3))
          (blkOk_by (own := [("_law_word", 11), ("_law_name", 12)]) (N := NL) (sc := defScope sLaw) (by decide +kernel))
          (fun _ _ _ _ _ => pg_tup (by rfl) (pgs_cons (pg_name (i := 11) scL.nd rfl (Or.inl rfl)) (pgs_cons (pg_name (i := 12) scL.nd rfl (Or.inl rfl)) pgs_nil))) (fun _ _ _ _ _ => pts_nil)
          (fun _ _ _ _ _ => (show PE _ _ (tIf (tTest (tOp (rIn K false) (tVar 11) (tTup (tCons (tC (.str "drain")) (tCons (tC (.str "off")) tNil))))) (tVar 12) (tC .non)) from pe_ifExp (pt_cmpR op_in_seq (pv 11) (pe_tup (pa_cons pe_str (pa_cons pe_str pa_nil))) (by rfl)) (pv 12) pe_non))) (nomark _)) (pss_one ps_never) pss_nil)
      (pss_cons (ps_asg (pe_callee D.wrong hr3 rfl (pa_cons (pv 2) (pa_cons (pv 3) pa_nil))) (pg_tup (by rfl) (pgs_cons (pg_name (i := 9) scL.nd rfl (Or.inr rfl)) (pgs_cons (pg_name (i := 10) scL.nd rfl (Or.inl rfl)) pgs_nil))))
      (pss_cons (ps_if (pt_cmpR (op_neD un) (pe_refused D.refd rfl TB rfl hmT hu hr7 (lamS_by (sc := defScope sLaw) (by decide +kernel)) rfl (fun _ _ _ _ _ => rfl) (fun A outer s H E f' c' hr' => pe_makeK0 mk' FI' (hr'.mono (show 4 ≤ 5 by decide)) rfl D.pc.m bI' (passes_call (takes_of rfl rfl rfl rfl) (fun _ _ _ _ h => h)) (pk_cons (pv 9) pk_nil))) (pe_lst (pa_cons (pv 10) (pa_cons pe_bl pa_nil))) (nomark _)) (pss_one ps_never) pss_nil)
      (pss_cons (ps_if (pt_cmpR (op_neD un) (pe_refused D.refd rfl TB rfl hmT hu hr7 (lamS_by (sc := defScope sLaw) (by decide +kernel)) rfl (fun _ _ _ _ _ => rfl) (fun A outer s H E f' c' hr' => pe_make mk FI (hr'.mono (show 4 ≤ 5 by decide)) rfl D.pc.m bI .nil (passes_call (takes_of rfl rfl rfl rfl) (fun _ _ _ _ h => h)) (pa_cons (pe_callee D.of (hr'.mono (show 2 ≤ 5 by decide)) rfl (pa_cons (pv 2) (pa_cons (pe_lst (pa_cons pe_non (pa_cons pe_str (pa_cons pe_int pa_nil)))) pa_nil))) pa_nil))) (pe_lst (pa_cons (pe_op op_sub pe_int pe_int) (pa_cons pe_bl pa_nil))) (nomark _)) (pss_one ps_never) pss_nil)
      (pss_one (ps_if (pt_not (pt_val (pe_callee D.texts hr8 rfl (pa_cons (pv 2) (pa_cons (pv 3) pa_nil))))) (pss_one ps_never) pss_nil))))))))))))))))))
      (pss_one (ps_ret pe_bl))), ?_⟩
  have line : (2000 : Nat) ≤ sizeLine := by decide
  refine ⟨_, rfl, a, ns, rfl, sq, few, fun H1 p q s1 np nq dl1 => ?_⟩
  have tb1 := tabs_same tb s1
  refine ⟨3, rfl, by decide, by decide, for_range (n := 3) (fun i σ H' => ∃ v1 v3 v4 v5 v6 v7 v8 v9 v10 v11 v12 v13 : Option V, σ = [some (.ref a), v1, some (.ref p), v3, v4, v5, v6, v7, v8, v9, v10, v11, v12, v13] ∧ Deal H' p q ∧ Tabs T H')
    ⟨none, none, none, none, none, none, none, none, none, none, none, none, rfl, dl1, tb1⟩ ?_ (fun σ H2 _ => rfl)⟩
  rintro i σ H2 hi ⟨v1, v3, v4, v5, v6, v7, v8, v9, v10, v11, v12, v13, rfl, dl2, tb2⟩
  refine ⟨_, rfl, p, q, rfl, dl2, fun H3 l ws ds gds but3 dl3 nl hl pw => ?_⟩
  have gd := gds.2
  have d5 := gds.1
  have lw := paired_len pw
  have tb3 := tabs_but dl2 but3 tb2
  obtain ⟨lp, lq⟩ := dl2.new nl
  have okw := deeds_at pw gd
  -- handed
  refine ⟨_, rfl, l, _, rfl, .inl (SqL.of hl), fun h nh => ?_⟩
  obtain ⟨hp, hq⟩ := dl3.new nh
  have lh : l ≠ h := ne_of_none hl nh
  generalize hG4 : upd H3 h _ = G4
  have s4 : Same H3 G4 := by rw [← hG4]; exact same_upd nh
  have at_h4 : G4 h = some (.lst ws) := by rw [← hG4]; exact upd_same
  -- one of the two
  refine ⟨_, rfl, _, rfl, _, rfl, h, _, rfl, .inl ⟨SqL.of at_h4, fun t nt => ⟨by show 2 ≤ sizeLine; decide, fun m nm => ?_⟩⟩⟩
  have s5 := same_upd (o := .tup ws) nt
  have dl4 := dl3.same s4
  obtain ⟨mp, mq⟩ := (dl4.same s5).new nm
  generalize hG5 : upd _ m _ = G5
  have s6 : Same G4 G5 := by rw [← hG5]; exact s5.trans (same_upd nm)
  have at_t5 : G5 t = some (.tup ws) := by rw [← hG5]; exact same_upd nm _ _ upd_same
  have at_m5 : G5 m = some (.lst [.ref h, .ref t]) := by rw [← hG5]; exact upd_same
  have dl5 := dl4.same s6
  refine ⟨p, q, m, _, rfl, dl5, mp, mq, at_m5, by show 1 ≤ 2; decide, by show 2 ≤ 1000; decide, fun x H6 hx but6 dl6 o dx no ndx ne => ?_⟩
  have b36 : But2 p q H3 H6 := fun c o n1 n2 e => but6 c o n1 n2 (s6 _ _ (s4 _ _ e))
  have hl6 := b36 _ _ lp lq hl
  have at_h6 := but6 _ _ hp hq (s6 _ _ at_h4)
  have at_t6 := dl5.tup but6 at_t5
  have pw6 : Paired (DeedAt H6) ws ds := paired_mono (fun _ _ ⟨c, e, ec⟩ => ⟨c, e, dl3.tup b36 ec⟩) pw
  have sI : Same H6 (upd (upd H6 dx (.own o)) o (.ins C dx [])) := fun b u e => by
    rw [upd_ne (ne_of_none e no), upd_ne (ne_of_none e ndx)]
    exact e
  have pwI : Paired (DeedAt (upd (upd H6 dx (.own o)) o (.ins C dx []))) ws ds := paired_mono (fun _ _ ⟨c, e, ec⟩ => ⟨c, e, sI _ _ ec⟩) pw6
  have okI := deeds_at pwI gd
  have seqx : OkV (upd (upd H6 dx (.own o)) o (.ins C dx [])) x ∧ seqOf (upd (upd H6 dx (.own o)) o (.ins C dx [])) x = some ws := by
    simp only [List.mem_cons, List.not_mem_nil, or_false] at hx
    rcases hx with rfl | rfl
    · exact ⟨.lst (sI _ _ at_h6), seqOf_lst (sI _ _ at_h6)⟩
    · exact ⟨.tup (sI _ _ at_t6), seqOf_tup (sI _ _ at_t6)⟩
  refine ⟨o, dx, x, rfl, upd_same, seqx.1, fun xs e => ?_, fun e => ?_, fun xs j e bad => ?_, fun xs e _ H7 t7 ws7 k7 e7 et7 p7 => ⟨rfl, ?_⟩⟩
  · rw [seqx.2] at e
    obtain rfl := Option.some.inj e
    exact ⟨by omega, fun y hy => (okI y hy).2⟩
  · rw [seqx.2] at e
    cases e
  · rw [seqx.2] at e
    obtain rfl := Option.some.inj e
    obtain ⟨hj, _, hb⟩ := bad
    rw [(okI _ (List.getElem_mem hj)).1] at hb
    cases hb
  rw [seqx.2] at e
  obtain rfl := Option.some.inj e
  have s67 : Same H6 H7 := fun b u e => k7 b u (ne_of_none e no) (sI _ _ e)
  have plan7 : PlanIns H7 C o ds := ⟨dx, t7, ws7, e7, et7, kept_deeds gd p7 pwI⟩
  have dl7 := dl6.same s67
  have hl7 := s67 _ _ hl6
  have at_h7 := s67 _ _ at_h6
  have pw7 : Paired (DeedAt H7) ws ds := paired_mono (fun _ _ ⟨c, e, ec⟩ => ⟨c, e, s67 _ _ ec⟩) pw6
  have tb7 : Tabs T H7 := tabs_same (tabs_but dl5 but6 (tabs_same tb3 (s4.trans s6))) s67
  clear okI seqx pwI sI k7 p7 hx at_t6 at_t5 at_m5 at_h4 hG4 hG5
  -- what is handed in is changed
  refine ⟨_, rfl, .inl ⟨rfl, _, SqL.of at_h7⟩, by show 2 ≤ sizeLine; decide, fun t8 n8 => ?_⟩
  have z8 := same_upd (o := .tup [.str "off", .str "z"]) n8
  refine ⟨h, ws, _, rfl, rfl, z8 _ _ at_h7, by omega, ?_⟩
  generalize hG8 : upd _ h _ = G8
  have k8 : ∀ b u, b ≠ h → H7 b = some u → G8 b = some u := fun b u n e => by
    rw [← hG8, upd_ne n]
    exact z8 _ _ e
  have dl8 : Deal G8 p q := by
    obtain ⟨ne, ns, b, e1, e2, r⟩ := dl7
    exact ⟨ne, ns, b, k8 _ _ (Ne.symm hp) e1, k8 _ _ (Ne.symm hq) e2, r⟩
  have hl8 := k8 _ _ lh hl7
  have plan8 := planIns_but at_h7 k8 plan7
  have tb8 := tabs_but1 at_h7 k8 tb7
  have pw8 : Paired (DeedAt G8) ws ds := paired_mono (fun _ _ ⟨c, ec, et⟩ => ⟨c, ec, k8 _ _ (ne_of et at_h7 (fun z => by cases z)) et⟩) pw7
  clear k8 hG8 z8 n8
  -- its text
  refine ⟨⟨_, rfl⟩, _, rfl, l, rfl, ⟨_, SqL.of hl8⟩, fun D9 nD9 => ?_⟩
  refine lc_list (xs := ws) (fun i H' => Same G8 H' ∧ H' D9 = some (.lst (((ds.take i).map rowOf).map V.str))) ⟨same_upd nD9, upd_same⟩ (fun i H' _ z => SqL.of (z.1 _ _ hl8)) ?_ ?_
  · rintro i x H1 hx ⟨s1, at_D⟩
    have hi : i < ds.length := by
      have := (List.getElem?_eq_some_iff.mp hx).1
      omega
    obtain ⟨c0, rfl, ec⟩ : DeedAt G8 x ds[i] := by
      obtain ⟨d, hd, r⟩ := paired_get pw8 hx
      obtain ⟨_, rfl⟩ := List.getElem?_eq_some_iff.mp hd
      exact r
    obtain ⟨g1, g2⟩ := gd _ (List.getElem_mem hi)
    obtain ⟨r1, r2, r3⟩ := row_short ds[i] g1 g2
    have e1 : (" " : Str).length = 1 := by decide +kernel
    have r4 : (ds[i].1 ++ " ").length ≤ 11 := by rw [Str.length_append, e1]; omega
    refine ⟨c0, _, rfl, SqT.of (s1 _ _ ec), rfl, _, _, rfl, _, _, rfl, rfl, rfl, kept ⟨_, rfl, ds[i].1, " ", rfl, rfl, by rw [e1]; omega, _, rfl, _, ds[i].2, rfl, rfl, by omega, _, at_D, ?_, fun b o e => ?_, ?_⟩⟩
    · rw [List.length_map, List.length_map, List.length_take]
      omega
    · rw [upd_ne (ne_of_none e nD9)]
      exact s1 _ _ e
    · rw [upd_same, List.take_succ_eq_append_getElem hi, List.map_append, List.map_append, ← rowOf_eq]
      rfl
  rintro H9 ⟨s9, at_D9⟩
  rw [lw, List.take_length] at at_D9
  refine ⟨"\n", D9, ds.map rowOf, rfl, rfl, .inl (SqL.of at_D9), ?_, ?_⟩
  · have := sum_le ((ds.map rowOf).map fun x => x.length) 20 (fun x hx => by
      obtain ⟨r, hr, rfl⟩ := List.mem_map.mp hx
      obtain ⟨d, hd, rfl⟩ := List.mem_map.mp hr
      exact (row_short d (gd d hd).1 (gd d hd).2).1)
    rw [List.length_map, List.length_map] at this
    rw [List.length_map]
    have e : ("\n" : Str).length = 1 := rfl
    rw [e]
    omega
  show Ends.nx _ _ _
  obtain ⟨f1, f2, f3, f4⟩ := deeds_fit gds
  have dl9 := dl8.same s9
  have hl9 := s9 _ _ hl8
  have plan9 := plan8.same s9
  have tb9 := tabs_same tb8 s9
  have pw9 : Paired (DeedAt H9) ws ds := paired_mono (fun _ _ ⟨c, ec, et⟩ => ⟨c, ec, s9 _ _ et⟩) pw8
  have text_e : Txt.join "\n" (ds.map rowOf) = textOf ds := rfl
  rw [text_e]
  -- what it keeps, and tells
  have dpA := plan9
  obtain ⟨dxA, tA, wsA, hoA, htA, pwA⟩ := dpA
  have dA : Dp K H9 (.ref tA) (deedsD ds) := dp_deeds htA pwA
  have dB : ∀ (G : Hp) (t : Addr), Same H9 G → G t = some (.tup ws) → Dp K G (.ref t) (deedsD ds) := fun G t s e => dp_deeds e (paired_mono (fun _ _ ⟨c, ec, et⟩ => ⟨c, ec, s _ _ et⟩) pw9)
  revert dA dB f1 f2 f3 f4
  generalize hd : deedsD ds = dd
  intro f1 f2 f3 f4 dA dB
  refine ⟨_, rfl, o, C, dxA, _, _, rfl, hoA, D.cl, D.na, rfl, _, dd, rfl, dA, f1, f2, f3, f4, _, rfl, l, _, rfl, .inl ⟨SqL.of hl9, fun tB nB => ?_⟩⟩
  have sB := same_upd (o := .tup ws) nB
  refine ⟨_, dd, rfl, dB _ tB sB upd_same, f1, f2, f3, f4, rfl, _, rfl, iteNS rfl ?_⟩
  refine ⟨_, rfl, o, dxA, _, rfl, sB _ _ hoA, rfl, o, ds, rfl, plan9.same sB, gds, fun HA sA => ?_⟩
  refine ⟨_, rfl, rfl, _, rfl, iteNS rfl ?_⟩
  have sA9 := sB.trans sA
  have dlA := dl9.same sA9
  have hlA := sA9 _ _ hl9
  have planA := plan9.same sA9
  have tbA := tabs_same tb9 sA9
  have dBA : ∀ (G : Hp) (t : Addr), Same HA G → G t = some (.tup ws) → Dp K G (.ref t) dd := fun G t s e => dB G t (sA9.trans s) e
  have pwAA : Paired (DeedAt HA) ws ds := paired_mono (fun _ _ ⟨c, ec, et⟩ => ⟨c, ec, sA9 _ _ et⟩) pw9
  clear dB dA hoA htA pwA sB sA nB
  -- read back
  refine ⟨rfl, _, rfl, _, rfl, .str _, (fun h => nomatch h), fun s hs => ?_⟩
  cases hs
  obtain ⟨rt, st⟩ := rows_text gds
  refine ⟨st, fun _ HB oB sB nB planB => ?_, fun i fb => ?_⟩
  rotate_left
  · rw [rt] at fb
    obtain ⟨hi, _, hb⟩ := fb
    have := rows_good gds _ (List.getElem_mem hi)
    rw [hb hi] at this
    cases this
  rw [rt, deeds_back gds] at planB
  have dlB := dlA.same sB
  have hlB := sB _ _ hlA
  have planBo := planA.same sB
  have tbB := tabs_same tbA sB
  have pwB : Paired (DeedAt HB) ws ds := paired_mono (fun _ _ ⟨c, ec, et⟩ => ⟨c, ec, sB _ _ et⟩) pwAA
  obtain ⟨dxB, tB, wsB, hoB, htB, pwtB⟩ := id planB
  obtain ⟨dxO, tO, wsO, hoO, htO, pwtO⟩ := id planBo
  have dE : Dp K HB (.ref tB) dd := by rw [← hd]; exact dp_deeds htB pwtB
  refine ⟨_, rfl, _, rfl, oB, dxB, _, .ref C, rfl, hoB, .ins hoO, by simp [W.notFirst], oB, _, ds, rfl, planB, gds, .inl ⟨o, ds, rfl, planBo, gds, _, rfl, ?_⟩⟩
  refine ⟨_, rfl, ?_⟩
  rw [decide_eq_true (rfl : ds = ds)]
  refine iteF ?_
  refine ⟨_, rfl, oB, C, dxB, _, _, rfl, hoB, D.cl, D.na, rfl, _, dd, rfl, dE, f1, f2, f3, f4, _, rfl, l, _, rfl, .inl ⟨SqL.of hlB, fun tC nC => ?_⟩⟩
  have sC := same_upd (o := .tup ws) nC
  refine ⟨_, dd, rfl, dBA _ tC (sB.trans sC) upd_same, f1, f2, f3, f4, rfl, _, rfl, iteNS rfl ?_⟩
  refine ⟨_, rfl, _, rfl, o, dxO, _, .type "str", rfl, sC _ _ hoO, .str _, D.ns, o, _, ds, rfl, planBo.same sC, gds, .inr ⟨.type "str", .base (.str _), D.ks, _, rfl, ?_⟩⟩
  refine ⟨_, rfl, iteF ?_⟩
  refine ⟨_, rfl, _, rfl, l, _, rfl, .inl ⟨SqL.of (sC _ _ hlB), fun tD nD => ?_⟩⟩
  have sD := same_upd (o := .tup ws) nD
  have sCD := sC.trans sD
  refine ⟨o, dxO, _, .type "tuple", rfl, sCD _ _ hoO, .tup upd_same, D.nt, o, _, ds, rfl, planBo.same sCD, gds, .inr ⟨.type "tuple", .base (.tup upd_same), D.kt, _, rfl, ?_⟩⟩
  refine ⟨_, rfl, iteF ?_⟩
  generalize hGD : upd _ tD _ = GD
  rw [hGD] at sD sCD
  have dlD := dlB.same sCD
  have hlD := sCD _ _ hlB
  have planD := planBo.same sCD
  have tbD := tabs_same tbB sCD
  have pwD : Paired (DeedAt GD) ws ds := paired_mono (fun _ _ ⟨c, ec, et⟩ => ⟨c, ec, sCD _ _ et⟩) pwB
  clear dBA dE hoB htB pwtB hoO htO pwtO sC sD sCD nC nD hGD
  -- another plan
  refine ⟨_, rfl, p, q, rfl, dlD, fun HE l2 ws2 es gds2 but2 dlE nl2 hl2 pw2 => ?_⟩
  have hlE := but2 _ _ lp lq hlD
  have planE : PlanIns HE C o ds := by
    obtain ⟨dx1, t1, w1, e1, e2, e3⟩ := planD
    obtain ⟨_, ns1, b1, hp1, hq1, _⟩ := dlD
    exact ⟨dx1, t1, w1, but2 _ _ (ne_of e1 hp1 (fun z => by cases z)) (ne_of e1 hq1 (fun z => by cases z)) e1, but2 _ _ (ne_of e2 hp1 (fun z => by cases z)) (ne_of e2 hq1 (fun z => by cases z)) e2,
      paired_mono (fun _ _ ⟨c, ec, et⟩ => ⟨c, ec, but2 _ _ (ne_of et hp1 (fun z => by cases z)) (ne_of et hq1 (fun z => by cases z)) et⟩) e3⟩
  have pwE : Paired (DeedAt HE) ws ds := paired_mono (fun _ _ ⟨c, ec, et⟩ => ⟨c, ec, dlD.tup but2 et⟩) pwD
  have tbE := tabs_but dlD but2 tbD
  have lw2 := paired_len pw2
  have d52 := gds2.1
  refine ⟨_, rfl, fun o3 dx3 no3 ndx3 ne3 => ?_⟩
  have sF : Same HE (upd (upd HE dx3 (.own o3)) o3 (.ins C dx3 [])) := fun b u e => by
    rw [upd_ne (ne_of_none e no3), upd_ne (ne_of_none e ndx3)]
    exact e
  have hl2F := sF _ _ hl2
  have pw2F : Paired (DeedAt (upd (upd HE dx3 (.own o3)) o3 (.ins C dx3 []))) ws2 es := paired_mono (fun _ _ ⟨c, e, ec⟩ => ⟨c, e, sF _ _ ec⟩) pw2
  have okF := deeds_at pw2F gds2.2
  refine ⟨o3, dx3, .ref l2, rfl, upd_same, .lst hl2F, fun xs e => ?_, fun e => ?_, fun xs j e bad => ?_, fun xs e _ HG tG wsG kG eG etG pG => ⟨rfl, ?_⟩⟩
  · rw [seqOf_lst hl2F] at e
    obtain rfl := Option.some.inj e
    exact ⟨by omega, fun y hy => (okF y hy).2⟩
  · rw [seqOf_lst hl2F] at e
    cases e
  · rw [seqOf_lst hl2F] at e
    obtain rfl := Option.some.inj e
    obtain ⟨hj, _, hb⟩ := bad
    rw [(okF _ (List.getElem_mem hj)).1] at hb
    cases hb
  rw [seqOf_lst hl2F] at e
  obtain rfl := Option.some.inj e
  have sEG : Same HE HG := fun b u e => kG b u (ne_of_none e no3) (sF _ _ e)
  have plan3 : PlanIns HG C o3 es := ⟨dx3, tG, wsG, eG, etG, kept_deeds gds2.2 pG pw2F⟩
  have planG := planE.same sEG
  have hlG := sEG _ _ hlE
  have hl2G := sEG _ _ hl2
  have pwG : Paired (DeedAt HG) ws ds := paired_mono (fun _ _ ⟨c, ec, et⟩ => ⟨c, ec, sEG _ _ et⟩) pwE
  have pw2G : Paired (DeedAt HG) ws2 es := paired_mono (fun _ _ ⟨c, ec, et⟩ => ⟨c, ec, sEG _ _ et⟩) pw2
  have dlG := dlE.same sEG
  have tbG := tabs_same tbE sEG
  obtain ⟨dxO, tO, wsO, hoO, htO, pwtO⟩ := id planG
  refine ⟨_, rfl, o3, dx3, _, .ref C, rfl, eG, .ins hoO, by simp [W.notFirst], o3, _, es, rfl, plan3, gds2, .inl ⟨o, ds, rfl, planG, gds, _, rfl, ?_⟩⟩
  refine ⟨_, rfl, _, rfl, deedsL es, deedsL ds, dp_deedsL hl2G pw2G, dp_deedsL hlG pwG, shaped_deedsL gds2, shaped_deedsL gds, ?_⟩
  rw [eqv_deedsL]
  refine ⟨rfl, _, rfl, iteNS rfl ?_⟩
  clear okF pw2F pG kG eG etG plan3 hl2F sF sEG hoO htO pwtO planD planE hl2 pw2 hl2G pw2G
  -- whom the first one asks for
  refine ⟨_, rfl, Nat.zero_le _, fun aH nH => ?_⟩
  have sH := same_upd (o := .lst []) nH
  have pwH0 : Paired (DeedAt (upd HG aH (.lst []))) ws ds := paired_mono (fun _ _ ⟨c, ec, et⟩ => ⟨c, ec, sH _ _ et⟩) pwG
  refine ⟨deedsL ds, .list [], dp_deedsL (sH _ _ hlG) pwH0, .lst (SqL.of upd_same) .nil, shaped_deedsL gds, shaped_strs (xs := []) (fun _ z => nomatch z), _, rfl, ?_⟩
  rw [ne_nilD]
  generalize hGH : upd HG aH _ = GH at pwH0
  rw [hGH] at sH
  have hlH := sH _ _ hlG
  have dlH := dlG.same sH
  have tbH := tabs_same tbG sH
  -- CUT
  by_cases hne : ds = []
  · rw [show (!ds.isEmpty) = false by rw [hne]; rfl]
    refine iteF (iteF ?_)
    have pwH := pwH0
    -- whom all ask for
    refine ⟨_, rfl, l, rfl, ⟨_, SqL.of hlH⟩, fun DA nDA => ?_⟩
    refine lc_list (xs := ws) (fun i H' => Same GH H' ∧ H' DA = some (.lst ((ds.take i).map askV))) ⟨same_upd nDA, upd_same⟩ (fun i H' _ z => SqL.of (z.1 _ _ hlH)) ?_ ?_
    · rintro i x H1 hx ⟨s1, at_D⟩
      have hi : i < ds.length := by
        have := (List.getElem?_eq_some_iff.mp hx).1
        omega
      obtain ⟨c0, rfl, ec⟩ : DeedAt GH x ds[i] := by
        obtain ⟨d, hd, r⟩ := paired_get pwH hx
        obtain ⟨_, rfl⟩ := List.getElem?_eq_some_iff.mp hd
        exact r
      refine ⟨rfl, kept ⟨_, rfl, c0, ds[i], rfl, s1 _ _ ec, fun H2 s2 => ⟨_, s2 _ _ at_D, ?_, fun b o e => ?_, ?_⟩⟩⟩
      · rw [List.length_map, List.length_take]
        omega
      · rw [upd_ne (ne_of_none e nDA)]
        exact s2 _ _ (s1 _ _ e)
      · rw [upd_same, List.take_succ_eq_append_getElem hi, List.map_append]
        rfl
    rintro HI ⟨sI, at_DI⟩
    rw [lw, List.take_length] at at_DI
    have hlI := sI _ _ hlH
    refine ⟨_, rfl, l, rfl, ⟨_, SqL.of hlI⟩, fun DB nDB => ?_⟩
    refine lc_list (xs := ws) (fun i H' => Same HI H' ∧ H' DB = some (.lst ((ds.take i).map askV))) ⟨same_upd nDB, upd_same⟩ (fun i H' _ z => SqL.of (z.1 _ _ hlI)) ?_ ?_
    · rintro i x H1 hx ⟨s1, at_D⟩
      have hi : i < ds.length := by
        have := (List.getElem?_eq_some_iff.mp hx).1
        omega
      obtain ⟨c0, rfl, ec⟩ : DeedAt GH x ds[i] := by
        obtain ⟨d, hd, r⟩ := paired_get pwH hx
        obtain ⟨_, rfl⟩ := List.getElem?_eq_some_iff.mp hd
        exact r
      refine ⟨c0, _, rfl, SqT.of (s1 _ _ (sI _ _ ec)), rfl, _, _, rfl, _, _, rfl, rfl, rfl, kept ⟨_, rfl, by show 2 ≤ sizeLine; decide, fun t nt => ?_⟩⟩
      have s2 := same_upd (o := .tup ((["drain", "off"] : List Str).map V.str)) nt
      have fin : ∀ v, v = askV ds[i] → ∃ acc, upd H1 t (.tup ((["drain", "off"] : List Str).map V.str)) DB = some (.lst acc) ∧ acc.length < sizeLine ∧ Same HI (upd (upd H1 t (.tup ((["drain", "off"] : List Str).map V.str))) DB (.lst (acc ++ [v]))) ∧ upd (upd H1 t (.tup ((["drain", "off"] : List Str).map V.str))) DB (.lst (acc ++ [v])) DB = some (.lst ((ds.take (i + 1)).map askV)) := fun v hv => by
        refine ⟨_, s2 _ _ at_D, ?_, fun b o e => ?_, ?_⟩
        · rw [List.length_map, List.length_take]
          omega
        · rw [upd_ne (ne_of_none e nDB)]
          exact s2 _ _ (s1 _ _ e)
        · rw [upd_same, List.take_succ_eq_append_getElem hi, List.map_append, hv]
          rfl
      refine ⟨t, (["drain", "off"] : List Str).map V.str, rfl, .inr (SqT.of upd_same), rfl, flat_strs _, _, rfl, ?_⟩
      rw [inV_strs]
      refine ite2 (fun h => ?_) (fun h => ?_)
      · have h : ds[i].1 ∈ (["drain", "off"] : List Str) := by simpa using h
        exact ⟨_, rfl, fin _ (by unfold askV; rw [if_pos h])⟩
      · have h : ¬ ds[i].1 ∈ (["drain", "off"] : List Str) := by simpa using h
        exact fin _ (by unfold askV; rw [if_neg h])
    rintro HJ ⟨sJ, at_DJ⟩
    rw [lw, List.take_length] at at_DJ
    refine ⟨_, _, .lst (SqL.of (sJ _ _ at_DI)) (dps_ask ds), .lst (SqL.of at_DJ) (dps_ask ds), shaped_ask gds, shaped_ask gds, _, rfl, ?_⟩
    rw [ask_refl]
    refine iteF ?_
    have sIJ := sI.trans sJ
    have hlJ := sIJ _ _ hlH
    have dlJ := dlH.same sIJ
    have tbJ := tabs_same tbH sIJ
    have pwJ : Paired (DeedAt HJ) ws ds := paired_mono (fun _ _ ⟨c, ec, et⟩ => ⟨c, ec, sIJ _ _ et⟩) pwH
    clear sI sJ sIJ at_DI at_DJ nDA nDB
    -- a deed that is none, put in somewhere
    refine ⟨_, rfl, _, rfl, p, q, l, ws, rfl, dlJ, lp, lq, hlJ, by omega, fun HK tK mK j x hj butK dlK ntK nmK etK emK bx => ?_⟩
    refine ⟨tK, _, rfl, SqT.of etK, rfl, _, _, rfl, _, _, rfl, rfl, ?_⟩
    have hlK := butK _ _ lp lq hlJ
    have tbK := tabs_but dlJ butK tbJ
    have pwK : Paired (DeedAt HK) ws ds := paired_mono (fun _ _ ⟨c, ec, et⟩ => ⟨c, ec, dlJ.tup butK et⟩) pwJ
    refine ⟨tbK, fun K1 x1 t1 => ⟨_, rfl, rfl, rfl, fun o4 dx4 no4 ndx4 ne4 => ?_⟩⟩
    have sL : Same K1 (upd (upd K1 dx4 (.own o4)) o4 (.ins C dx4 [])) := fun b u e => by
      rw [upd_ne (ne_of_none e no4), upd_ne (ne_of_none e ndx4)]
      exact e
    have eL : ExtN HK (upd (upd K1 dx4 (.own o4)) o4 (.ins C dx4 [])) := x1.trans (ext_same sL)
    have emL := eL _ _ emK (fun _ z => nomatch z)
    have pwL : Paired (DeedAt (upd (upd K1 dx4 (.own o4)) o4 (.ins C dx4 []))) ws ds := paired_mono (fun _ _ ⟨c, ec, et⟩ => ⟨c, ec, eL _ _ et (fun _ z => nomatch z)⟩) pwK
    have okL := deeds_at pwL gd
    have bxL : BadV (upd (upd K1 dx4 (.own o4)) o4 (.ins C dx4 [])) x := bx.imp id fun ⟨t, xs, e, h, r⟩ => ⟨t, xs, e, eL _ _ h (fun _ z => nomatch z), r⟩
    obtain ⟨okx, nox⟩ := bxL.ok
    have lenL : (ws.take j ++ [x] ++ ws.drop j).length = ws.length + 1 := by
      simp only [List.length_append, List.length_take, List.length_drop, List.length_singleton]
      omega
    refine ⟨o4, dx4, .ref mK, rfl, upd_same, .lst emL, fun xs e => ?_, fun e => ?_, fun xs i e bad HM d sM nd ed => ?_, fun xs e all => ?_⟩
    · rw [seqOf_lst emL] at e
      obtain rfl := Option.some.inj e
      refine ⟨by omega, fun y hy => ?_⟩
      simp only [List.mem_append, List.mem_singleton] at hy
      rcases hy with (z | rfl) | z
      · exact (okL y (List.mem_of_mem_take z)).2
      · exact okx
      · exact (okL y (List.mem_of_mem_drop z)).2
    · rw [seqOf_lst emL] at e
      cases e
    rotate_left
    · rw [seqOf_lst emL] at e
      obtain rfl := Option.some.inj e
      have := all x (by simp)
      rw [nox] at this
      cases this
    rw [seqOf_lst emL] at e
    obtain rfl := Option.some.inj e
    obtain rfl : i = j := by
      obtain ⟨hi, ha, hb⟩ := bad
      have lt : (ws.take j).length = j := by rw [List.length_take]; omega
      rcases Nat.lt_trichotomy i j with h | h | h
      · have e1 : (ws.take j ++ [x] ++ ws.drop j)[i] = ws[i]'(by omega) := by
          simp only [List.append_assoc, List.getElem_append, List.length_take, List.getElem_take]
          rw [dif_pos (by omega)]
        rw [e1, (okL _ (List.getElem_mem _)).1] at hb
        cases hb
      · exact h
      · have := ha j (by omega) h
        have e1 : (ws.take j ++ [x] ++ ws.drop j)[j]'(by omega) = x := by
          simp only [List.append_assoc, List.getElem_append, List.length_take, List.length_singleton]
          rw [dif_neg (by omega), dif_pos (by omega)]
          simp
        rw [e1, nox] at this
        cases this
    refine ⟨d, _, rfl, ed, .inl ⟨rfl, fun p7 np7 => ?_⟩⟩
    have z7 := same_upd (o := .lst [.int (i : Nat), .bl true]) np7
    refine ⟨_, rfl, by show 2 ≤ sizeLine; decide, fun p8 np8 => ?_⟩
    have z8 := same_upd (o := .lst [.int (i : Nat), .bl true]) np8
    refine ⟨_, _, res_dp (z8 _ _ upd_same), res_dp upd_same, res_shaped _ _, res_shaped _ _, _, rfl, ?_⟩
    rw [res_eqv]
    refine iteF ?_
    have sN := (sM.trans z7).trans z8
    have eN := eL.trans (ext_same sN)
    have dlN := dlK.ext eN
    have tbN := tabs_same t1 (sL.trans sN)
    have hlN := eN _ _ hlK (fun _ z => nomatch z)
    have pwN : Paired (DeedAt (upd (upd HM p7 (.lst [.int (i : Nat), .bl true])) p8 (.lst [.int (i : Nat), .bl true]))) ws ds := paired_mono (fun _ _ ⟨c, ec, et⟩ => ⟨c, ec, eN _ _ et (fun _ z => nomatch z)⟩) pwK
    generalize hGN : upd _ p8 _ = GN
    rw [hGN] at dlN tbN hlN pwN
    clear hGN eN sN z8 z7 okL bxL okx nox emL pwL eL sL
    -- what is no sequence
    refine ⟨tbN, fun K2 x2 t2 => ⟨_, rfl, by show 3 ≤ sizeLine; decide, fun m9 n9 => ?_⟩⟩
    have dl9' := dlN.ext x2
    have s9' := same_upd (o := .lst [.non, .str "off p", .int 3]) n9
    obtain ⟨m9p, m9q⟩ := dl9'.new n9
    refine ⟨p, q, m9, _, rfl, dl9'.same s9', m9p, m9q, upd_same, by show 1 ≤ 3; decide, by show 3 ≤ 1000; decide, fun y HP hy butP dlP o5 dx5 no5 ndx5 ne5 => ?_⟩
    have okY : ∀ G, OkV G y ∧ seqOf G y = none := fun G => by
      simp only [List.mem_cons, List.not_mem_nil, or_false] at hy
      rcases hy with rfl | rfl | rfl
      · exact ⟨.non, rfl⟩
      · exact ⟨.str _, rfl⟩
      · exact ⟨.int 3, rfl⟩
    have sQ : Same HP (upd (upd HP dx5 (.own o5)) o5 (.ins C dx5 [])) := fun b u e => by
      rw [upd_ne (ne_of_none e no5), upd_ne (ne_of_none e ndx5)]
      exact e
    refine ⟨o5, dx5, y, rfl, upd_same, (okY _).1, fun xs e => ?_, fun _ HR d sR nd ed => ⟨d, _, rfl, ed, .inl ⟨rfl, fun pa npa => ?_⟩⟩, fun xs i e => ?_, fun xs e => ?_⟩
    · rw [(okY _).2] at e
      cases e
    rotate_left
    · rw [(okY _).2] at e
      cases e
    · rw [(okY _).2] at e
      cases e
    have za := same_upd (o := .lst [.int (-1), .bl true]) npa
    refine ⟨_, _, rfl, rfl, by show 2 ≤ sizeLine; decide, fun pb npb => ?_⟩
    have zb := same_upd (o := .lst [.int (-1), .bl true]) npb
    refine ⟨_, _, res_dp (zb _ _ upd_same), res_dp upd_same, res_shaped _ _, res_shaped _ _, _, rfl, ?_⟩
    rw [show PyData.eqv (.list [.int (-1), .bool true]) (.list [.int (0 - 1), .bool true]) = true from res_eqv (-1) true]
    refine iteF ?_
    have sS := (sR.trans za).trans zb
    have bS : BN p q GN (upd (upd HR pa (.lst [.int (-1), .bl true])) pb (.lst [.int (-1), .bl true])) := (((BN.ext x2).trans (.of s9')).trans (.but butP)).trans (.of (sQ.trans sS))
    have dlS := dlP.same (sQ.trans sS)
    have tbS := tabs_same (tabs_but (dl9'.same s9') butP (tabs_same t2 s9')) (sQ.trans sS)
    have hlS := bS _ _ lp lq hlN (fun _ z => nomatch z)
    have pwS : Paired (DeedAt (upd (upd HR pa (.lst [.int (-1), .bl true])) pb (.lst [.int (-1), .bl true]))) ws ds := by
      obtain ⟨_, ns1, b1, hp1, hq1, _⟩ := dlN
      exact paired_mono (fun _ _ ⟨c, ec, et⟩ => ⟨c, ec, bS _ _ (ne_of et hp1 (fun z => by cases z)) (ne_of et hq1 (fun z => by cases z)) et (fun _ z => nomatch z)⟩) pwN
    -- the texts
    refine ⟨_, rfl, _, rfl, p, q, l, ws, ds, rfl, dlS, lp, lq, hlS, gds, pwS, tbS, fun HZ _ dlZ tbZ => ⟨_, rfl, iteF ?_⟩⟩
    exact ⟨_, _, _, _, _, _, _, _, _, _, _, _, rfl, dlZ, tbZ⟩
  · obtain ⟨d0, ds0, hds⟩ : ∃ d0 ds0, ds = d0 :: ds0 := List.exists_cons_of_ne_nil hne
    rw [show (!ds.isEmpty) = true by rw [hds]; rfl]
    refine iteT ?_
    obtain ⟨c0, wr0, hws, ec0⟩ : ∃ c0 wr0, ws = V.ref c0 :: wr0 ∧ GH c0 = some (.tup [.str d0.1, .str d0.2]) := by
      have pw1 := pwH0
      rw [hds] at pw1
      generalize ws = w1 at pw1
      cases pw1 with
      | cons r _ =>
        obtain ⟨c0, rfl, ec0⟩ := r
        exact ⟨c0, _, rfl, ec0⟩
    have at0 : atI ws 0 = some (V.ref c0) := by
      rw [hws]
      exact atI_nat (j := 0) rfl
    refine ⟨_, rfl, l, _, _, .ref c0, rfl, rfl, SqL.of hlH, at0, c0, d0, rfl, ec0, fun HT sT => ?_⟩
    have hlT := sT _ _ hlH
    have ecT := sT _ _ ec0
    refine ⟨_, rfl, l, _, _, .ref c0, rfl, rfl, SqL.of hlT, at0, c0, _, _, .str d0.1, rfl, rfl, SqT.of ecT, atI_nat (j := 0) rfl, by show 2 ≤ sizeLine; decide, fun t nt => ?_⟩
    have sU := same_upd (o := .tup ((["drain", "off"] : List Str).map V.str)) nt
    refine ⟨t, (["drain", "off"] : List Str).map V.str, rfl, .inr (SqT.of upd_same), rfl, flat_strs _, _, rfl, ?_⟩
    generalize hGU : upd HT t _ = GU
    have sU : Same HT GU := by rw [← hGU]; exact sU
    rw [inV_strs]
    have sHU := sT.trans sU
    have hlU := sHU _ _ hlH
    have ecU := sHU _ _ ec0
    have dlU := dlH.same sHU
    have tbU := tabs_same tbH sHU
    have pwU : Paired (DeedAt GU) ws ds := paired_mono (fun _ _ ⟨c, ec, et⟩ => ⟨c, ec, sHU _ _ et⟩) pwH0
    clear hGU sU sHU sT hlT ecT hws hds hne
    refine ite2 (fun h => ?_) (fun h => ?_)
    · have h : d0.1 ∈ (["drain", "off"] : List Str) := by simpa using h
      rw [if_pos h]
      refine ⟨_, rfl, l, _, _, .ref c0, rfl, rfl, SqL.of hlU, at0, c0, _, _, .str d0.2, rfl, rfl, SqT.of ecU, atI_nat (j := 1) rfl, rfl, _, rfl, iteNS rfl ?_⟩
      -- whom all ask for
      refine ⟨_, rfl, l, rfl, ⟨_, SqL.of hlU⟩, fun DA nDA => ?_⟩
      refine lc_list (xs := ws) (fun i H' => Same GU H' ∧ H' DA = some (.lst ((ds.take i).map askV))) ⟨same_upd nDA, upd_same⟩ (fun i H' _ z => SqL.of (z.1 _ _ hlU)) ?_ ?_
      · rintro i x H1 hx ⟨s1, at_D⟩
        have hi : i < ds.length := by
          have := (List.getElem?_eq_some_iff.mp hx).1
          omega
        obtain ⟨c0, rfl, ec⟩ : DeedAt GU x ds[i] := by
          obtain ⟨d, hd, r⟩ := paired_get pwU hx
          obtain ⟨_, rfl⟩ := List.getElem?_eq_some_iff.mp hd
          exact r
        refine ⟨rfl, kept ⟨_, rfl, c0, ds[i], rfl, s1 _ _ ec, fun H2 s2 => ⟨_, s2 _ _ at_D, ?_, fun b o e => ?_, ?_⟩⟩⟩
        · rw [List.length_map, List.length_take]
          omega
        · rw [upd_ne (ne_of_none e nDA)]
          exact s2 _ _ (s1 _ _ e)
        · rw [upd_same, List.take_succ_eq_append_getElem hi, List.map_append]
          rfl
      rintro HI ⟨sI, at_DI⟩
      rw [lw, List.take_length] at at_DI
      have hlI := sI _ _ hlU
      refine ⟨_, rfl, l, rfl, ⟨_, SqL.of hlI⟩, fun DB nDB => ?_⟩
      refine lc_list (xs := ws) (fun i H' => Same HI H' ∧ H' DB = some (.lst ((ds.take i).map askV))) ⟨same_upd nDB, upd_same⟩ (fun i H' _ z => SqL.of (z.1 _ _ hlI)) ?_ ?_
      · rintro i x H1 hx ⟨s1, at_D⟩
        have hi : i < ds.length := by
          have := (List.getElem?_eq_some_iff.mp hx).1
          omega
        obtain ⟨c0, rfl, ec⟩ : DeedAt GU x ds[i] := by
          obtain ⟨d, hd, r⟩ := paired_get pwU hx
          obtain ⟨_, rfl⟩ := List.getElem?_eq_some_iff.mp hd
          exact r
        refine ⟨c0, _, rfl, SqT.of (s1 _ _ (sI _ _ ec)), rfl, _, _, rfl, _, _, rfl, rfl, rfl, kept ⟨_, rfl, by show 2 ≤ sizeLine; decide, fun t nt => ?_⟩⟩
        have s2 := same_upd (o := .tup ((["drain", "off"] : List Str).map V.str)) nt
        have fin : ∀ v, v = askV ds[i] → ∃ acc, upd H1 t (.tup ((["drain", "off"] : List Str).map V.str)) DB = some (.lst acc) ∧ acc.length < sizeLine ∧ Same HI (upd (upd H1 t (.tup ((["drain", "off"] : List Str).map V.str))) DB (.lst (acc ++ [v]))) ∧ upd (upd H1 t (.tup ((["drain", "off"] : List Str).map V.str))) DB (.lst (acc ++ [v])) DB = some (.lst ((ds.take (i + 1)).map askV)) := fun v hv => by
          refine ⟨_, s2 _ _ at_D, ?_, fun b o e => ?_, ?_⟩
          · rw [List.length_map, List.length_take]
            omega
          · rw [upd_ne (ne_of_none e nDB)]
            exact s2 _ _ (s1 _ _ e)
          · rw [upd_same, List.take_succ_eq_append_getElem hi, List.map_append, hv]
            rfl
        refine ⟨t, (["drain", "off"] : List Str).map V.str, rfl, .inr (SqT.of upd_same), rfl, flat_strs _, _, rfl, ?_⟩
        rw [inV_strs]
        refine ite2 (fun h => ?_) (fun h => ?_)
        · have h : ds[i].1 ∈ (["drain", "off"] : List Str) := by simpa using h
          exact ⟨_, rfl, fin _ (by unfold askV; rw [if_pos h])⟩
        · have h : ¬ ds[i].1 ∈ (["drain", "off"] : List Str) := by simpa using h
          exact fin _ (by unfold askV; rw [if_neg h])
      rintro HJ ⟨sJ, at_DJ⟩
      rw [lw, List.take_length] at at_DJ
      refine ⟨_, _, .lst (SqL.of (sJ _ _ at_DI)) (dps_ask ds), .lst (SqL.of at_DJ) (dps_ask ds), shaped_ask gds, shaped_ask gds, _, rfl, ?_⟩
      rw [ask_refl]
      refine iteF ?_
      have sIJ := sI.trans sJ
      have hlJ := sIJ _ _ hlU
      have dlJ := dlU.same sIJ
      have tbJ := tabs_same tbU sIJ
      have pwJ : Paired (DeedAt HJ) ws ds := paired_mono (fun _ _ ⟨c, ec, et⟩ => ⟨c, ec, sIJ _ _ et⟩) pwU
      clear sI sJ sIJ at_DI at_DJ nDA nDB
      -- a deed that is none, put in somewhere
      refine ⟨_, rfl, _, rfl, p, q, l, ws, rfl, dlJ, lp, lq, hlJ, by omega, fun HK tK mK j x hj butK dlK ntK nmK etK emK bx => ?_⟩
      refine ⟨tK, _, rfl, SqT.of etK, rfl, _, _, rfl, _, _, rfl, rfl, ?_⟩
      have hlK := butK _ _ lp lq hlJ
      have tbK := tabs_but dlJ butK tbJ
      have pwK : Paired (DeedAt HK) ws ds := paired_mono (fun _ _ ⟨c, ec, et⟩ => ⟨c, ec, dlJ.tup butK et⟩) pwJ
      refine ⟨tbK, fun K1 x1 t1 => ⟨_, rfl, rfl, rfl, fun o4 dx4 no4 ndx4 ne4 => ?_⟩⟩
      have sL : Same K1 (upd (upd K1 dx4 (.own o4)) o4 (.ins C dx4 [])) := fun b u e => by
        rw [upd_ne (ne_of_none e no4), upd_ne (ne_of_none e ndx4)]
        exact e
      have eL : ExtN HK (upd (upd K1 dx4 (.own o4)) o4 (.ins C dx4 [])) := x1.trans (ext_same sL)
      have emL := eL _ _ emK (fun _ z => nomatch z)
      have pwL : Paired (DeedAt (upd (upd K1 dx4 (.own o4)) o4 (.ins C dx4 []))) ws ds := paired_mono (fun _ _ ⟨c, ec, et⟩ => ⟨c, ec, eL _ _ et (fun _ z => nomatch z)⟩) pwK
      have okL := deeds_at pwL gd
      have bxL : BadV (upd (upd K1 dx4 (.own o4)) o4 (.ins C dx4 [])) x := bx.imp id fun ⟨t, xs, e, h, r⟩ => ⟨t, xs, e, eL _ _ h (fun _ z => nomatch z), r⟩
      obtain ⟨okx, nox⟩ := bxL.ok
      have lenL : (ws.take j ++ [x] ++ ws.drop j).length = ws.length + 1 := by
        simp only [List.length_append, List.length_take, List.length_drop, List.length_singleton]
        omega
      refine ⟨o4, dx4, .ref mK, rfl, upd_same, .lst emL, fun xs e => ?_, fun e => ?_, fun xs i e bad HM d sM nd ed => ?_, fun xs e all => ?_⟩
      · rw [seqOf_lst emL] at e
        obtain rfl := Option.some.inj e
        refine ⟨by omega, fun y hy => ?_⟩
        simp only [List.mem_append, List.mem_singleton] at hy
        rcases hy with (z | rfl) | z
        · exact (okL y (List.mem_of_mem_take z)).2
        · exact okx
        · exact (okL y (List.mem_of_mem_drop z)).2
      · rw [seqOf_lst emL] at e
        cases e
      rotate_left
      · rw [seqOf_lst emL] at e
        obtain rfl := Option.some.inj e
        have := all x (by simp)
        rw [nox] at this
        cases this
      rw [seqOf_lst emL] at e
      obtain rfl := Option.some.inj e
      obtain rfl : i = j := by
        obtain ⟨hi, ha, hb⟩ := bad
        have lt : (ws.take j).length = j := by rw [List.length_take]; omega
        rcases Nat.lt_trichotomy i j with h | h | h
        · have e1 : (ws.take j ++ [x] ++ ws.drop j)[i] = ws[i]'(by omega) := by
            simp only [List.append_assoc, List.getElem_append, List.length_take, List.getElem_take]
            rw [dif_pos (by omega)]
          rw [e1, (okL _ (List.getElem_mem _)).1] at hb
          cases hb
        · exact h
        · have := ha j (by omega) h
          have e1 : (ws.take j ++ [x] ++ ws.drop j)[j]'(by omega) = x := by
            simp only [List.append_assoc, List.getElem_append, List.length_take, List.length_singleton]
            rw [dif_neg (by omega), dif_pos (by omega)]
            simp
          rw [e1, nox] at this
          cases this
      refine ⟨d, _, rfl, ed, .inl ⟨rfl, fun p7 np7 => ?_⟩⟩
      have z7 := same_upd (o := .lst [.int (i : Nat), .bl true]) np7
      refine ⟨_, rfl, by show 2 ≤ sizeLine; decide, fun p8 np8 => ?_⟩
      have z8 := same_upd (o := .lst [.int (i : Nat), .bl true]) np8
      refine ⟨_, _, res_dp (z8 _ _ upd_same), res_dp upd_same, res_shaped _ _, res_shaped _ _, _, rfl, ?_⟩
      rw [res_eqv]
      refine iteF ?_
      have sN := (sM.trans z7).trans z8
      have eN := eL.trans (ext_same sN)
      have dlN := dlK.ext eN
      have tbN := tabs_same t1 (sL.trans sN)
      have hlN := eN _ _ hlK (fun _ z => nomatch z)
      have pwN : Paired (DeedAt (upd (upd HM p7 (.lst [.int (i : Nat), .bl true])) p8 (.lst [.int (i : Nat), .bl true]))) ws ds := paired_mono (fun _ _ ⟨c, ec, et⟩ => ⟨c, ec, eN _ _ et (fun _ z => nomatch z)⟩) pwK
      generalize hGN : upd _ p8 _ = GN
      rw [hGN] at dlN tbN hlN pwN
      clear hGN eN sN z8 z7 okL bxL okx nox emL pwL eL sL
      -- what is no sequence
      refine ⟨tbN, fun K2 x2 t2 => ⟨_, rfl, by show 3 ≤ sizeLine; decide, fun m9 n9 => ?_⟩⟩
      have dl9' := dlN.ext x2
      have s9' := same_upd (o := .lst [.non, .str "off p", .int 3]) n9
      obtain ⟨m9p, m9q⟩ := dl9'.new n9
      refine ⟨p, q, m9, _, rfl, dl9'.same s9', m9p, m9q, upd_same, by show 1 ≤ 3; decide, by show 3 ≤ 1000; decide, fun y HP hy butP dlP o5 dx5 no5 ndx5 ne5 => ?_⟩
      have okY : ∀ G, OkV G y ∧ seqOf G y = none := fun G => by
        simp only [List.mem_cons, List.not_mem_nil, or_false] at hy
        rcases hy with rfl | rfl | rfl
        · exact ⟨.non, rfl⟩
        · exact ⟨.str _, rfl⟩
        · exact ⟨.int 3, rfl⟩
      have sQ : Same HP (upd (upd HP dx5 (.own o5)) o5 (.ins C dx5 [])) := fun b u e => by
        rw [upd_ne (ne_of_none e no5), upd_ne (ne_of_none e ndx5)]
        exact e
      refine ⟨o5, dx5, y, rfl, upd_same, (okY _).1, fun xs e => ?_, fun _ HR d sR nd ed => ⟨d, _, rfl, ed, .inl ⟨rfl, fun pa npa => ?_⟩⟩, fun xs i e => ?_, fun xs e => ?_⟩
      · rw [(okY _).2] at e
        cases e
      rotate_left
      · rw [(okY _).2] at e
        cases e
      · rw [(okY _).2] at e
        cases e
      have za := same_upd (o := .lst [.int (-1), .bl true]) npa
      refine ⟨_, _, rfl, rfl, by show 2 ≤ sizeLine; decide, fun pb npb => ?_⟩
      have zb := same_upd (o := .lst [.int (-1), .bl true]) npb
      refine ⟨_, _, res_dp (zb _ _ upd_same), res_dp upd_same, res_shaped _ _, res_shaped _ _, _, rfl, ?_⟩
      rw [show PyData.eqv (.list [.int (-1), .bool true]) (.list [.int (0 - 1), .bool true]) = true from res_eqv (-1) true]
      refine iteF ?_
      have sS := (sR.trans za).trans zb
      have bS : BN p q GN (upd (upd HR pa (.lst [.int (-1), .bl true])) pb (.lst [.int (-1), .bl true])) := (((BN.ext x2).trans (.of s9')).trans (.but butP)).trans (.of (sQ.trans sS))
      have dlS := dlP.same (sQ.trans sS)
      have tbS := tabs_same (tabs_but (dl9'.same s9') butP (tabs_same t2 s9')) (sQ.trans sS)
      have hlS := bS _ _ lp lq hlN (fun _ z => nomatch z)
      have pwS : Paired (DeedAt (upd (upd HR pa (.lst [.int (-1), .bl true])) pb (.lst [.int (-1), .bl true]))) ws ds := by
        obtain ⟨_, ns1, b1, hp1, hq1, _⟩ := dlN
        exact paired_mono (fun _ _ ⟨c, ec, et⟩ => ⟨c, ec, bS _ _ (ne_of et hp1 (fun z => by cases z)) (ne_of et hq1 (fun z => by cases z)) et (fun _ z => nomatch z)⟩) pwN
      -- the texts
      refine ⟨_, rfl, _, rfl, p, q, l, ws, ds, rfl, dlS, lp, lq, hlS, gds, pwS, tbS, fun HZ _ dlZ tbZ => ⟨_, rfl, iteF ?_⟩⟩
      exact ⟨_, _, _, _, _, _, _, _, _, _, _, _, rfl, dlZ, tbZ⟩
    · have h : ¬ d0.1 ∈ (["drain", "off"] : List Str) := by simpa using h
      rw [if_neg h]
      refine ⟨rfl, _, rfl, iteNS rfl ?_⟩
      -- whom all ask for
      refine ⟨_, rfl, l, rfl, ⟨_, SqL.of hlU⟩, fun DA nDA => ?_⟩
      refine lc_list (xs := ws) (fun i H' => Same GU H' ∧ H' DA = some (.lst ((ds.take i).map askV))) ⟨same_upd nDA, upd_same⟩ (fun i H' _ z => SqL.of (z.1 _ _ hlU)) ?_ ?_
      · rintro i x H1 hx ⟨s1, at_D⟩
        have hi : i < ds.length := by
          have := (List.getElem?_eq_some_iff.mp hx).1
          omega
        obtain ⟨c0, rfl, ec⟩ : DeedAt GU x ds[i] := by
          obtain ⟨d, hd, r⟩ := paired_get pwU hx
          obtain ⟨_, rfl⟩ := List.getElem?_eq_some_iff.mp hd
          exact r
        refine ⟨rfl, kept ⟨_, rfl, c0, ds[i], rfl, s1 _ _ ec, fun H2 s2 => ⟨_, s2 _ _ at_D, ?_, fun b o e => ?_, ?_⟩⟩⟩
        · rw [List.length_map, List.length_take]
          omega
        · rw [upd_ne (ne_of_none e nDA)]
          exact s2 _ _ (s1 _ _ e)
        · rw [upd_same, List.take_succ_eq_append_getElem hi, List.map_append]
          rfl
      rintro HI ⟨sI, at_DI⟩
      rw [lw, List.take_length] at at_DI
      have hlI := sI _ _ hlU
      refine ⟨_, rfl, l, rfl, ⟨_, SqL.of hlI⟩, fun DB nDB => ?_⟩
      refine lc_list (xs := ws) (fun i H' => Same HI H' ∧ H' DB = some (.lst ((ds.take i).map askV))) ⟨same_upd nDB, upd_same⟩ (fun i H' _ z => SqL.of (z.1 _ _ hlI)) ?_ ?_
      · rintro i x H1 hx ⟨s1, at_D⟩
        have hi : i < ds.length := by
          have := (List.getElem?_eq_some_iff.mp hx).1
          omega
        obtain ⟨c0, rfl, ec⟩ : DeedAt GU x ds[i] := by
          obtain ⟨d, hd, r⟩ := paired_get pwU hx
          obtain ⟨_, rfl⟩ := List.getElem?_eq_some_iff.mp hd
          exact r
        refine ⟨c0, _, rfl, SqT.of (s1 _ _ (sI _ _ ec)), rfl, _, _, rfl, _, _, rfl, rfl, rfl, kept ⟨_, rfl, by show 2 ≤ sizeLine; decide, fun t nt => ?_⟩⟩
        have s2 := same_upd (o := .tup ((["drain", "off"] : List Str).map V.str)) nt
        have fin : ∀ v, v = askV ds[i] → ∃ acc, upd H1 t (.tup ((["drain", "off"] : List Str).map V.str)) DB = some (.lst acc) ∧ acc.length < sizeLine ∧ Same HI (upd (upd H1 t (.tup ((["drain", "off"] : List Str).map V.str))) DB (.lst (acc ++ [v]))) ∧ upd (upd H1 t (.tup ((["drain", "off"] : List Str).map V.str))) DB (.lst (acc ++ [v])) DB = some (.lst ((ds.take (i + 1)).map askV)) := fun v hv => by
          refine ⟨_, s2 _ _ at_D, ?_, fun b o e => ?_, ?_⟩
          · rw [List.length_map, List.length_take]
            omega
          · rw [upd_ne (ne_of_none e nDB)]
            exact s2 _ _ (s1 _ _ e)
          · rw [upd_same, List.take_succ_eq_append_getElem hi, List.map_append, hv]
            rfl
        refine ⟨t, (["drain", "off"] : List Str).map V.str, rfl, .inr (SqT.of upd_same), rfl, flat_strs _, _, rfl, ?_⟩
        rw [inV_strs]
        refine ite2 (fun h => ?_) (fun h => ?_)
        · have h : ds[i].1 ∈ (["drain", "off"] : List Str) := by simpa using h
          exact ⟨_, rfl, fin _ (by unfold askV; rw [if_pos h])⟩
        · have h : ¬ ds[i].1 ∈ (["drain", "off"] : List Str) := by simpa using h
          exact fin _ (by unfold askV; rw [if_neg h])
      rintro HJ ⟨sJ, at_DJ⟩
      rw [lw, List.take_length] at at_DJ
      refine ⟨_, _, .lst (SqL.of (sJ _ _ at_DI)) (dps_ask ds), .lst (SqL.of at_DJ) (dps_ask ds), shaped_ask gds, shaped_ask gds, _, rfl, ?_⟩
      rw [ask_refl]
      refine iteF ?_
      have sIJ := sI.trans sJ
      have hlJ := sIJ _ _ hlU
      have dlJ := dlU.same sIJ
      have tbJ := tabs_same tbU sIJ
      have pwJ : Paired (DeedAt HJ) ws ds := paired_mono (fun _ _ ⟨c, ec, et⟩ => ⟨c, ec, sIJ _ _ et⟩) pwU
      clear sI sJ sIJ at_DI at_DJ nDA nDB
      -- a deed that is none, put in somewhere
      refine ⟨_, rfl, _, rfl, p, q, l, ws, rfl, dlJ, lp, lq, hlJ, by omega, fun HK tK mK j x hj butK dlK ntK nmK etK emK bx => ?_⟩
      refine ⟨tK, _, rfl, SqT.of etK, rfl, _, _, rfl, _, _, rfl, rfl, ?_⟩
      have hlK := butK _ _ lp lq hlJ
      have tbK := tabs_but dlJ butK tbJ
      have pwK : Paired (DeedAt HK) ws ds := paired_mono (fun _ _ ⟨c, ec, et⟩ => ⟨c, ec, dlJ.tup butK et⟩) pwJ
      refine ⟨tbK, fun K1 x1 t1 => ⟨_, rfl, rfl, rfl, fun o4 dx4 no4 ndx4 ne4 => ?_⟩⟩
      have sL : Same K1 (upd (upd K1 dx4 (.own o4)) o4 (.ins C dx4 [])) := fun b u e => by
        rw [upd_ne (ne_of_none e no4), upd_ne (ne_of_none e ndx4)]
        exact e
      have eL : ExtN HK (upd (upd K1 dx4 (.own o4)) o4 (.ins C dx4 [])) := x1.trans (ext_same sL)
      have emL := eL _ _ emK (fun _ z => nomatch z)
      have pwL : Paired (DeedAt (upd (upd K1 dx4 (.own o4)) o4 (.ins C dx4 []))) ws ds := paired_mono (fun _ _ ⟨c, ec, et⟩ => ⟨c, ec, eL _ _ et (fun _ z => nomatch z)⟩) pwK
      have okL := deeds_at pwL gd
      have bxL : BadV (upd (upd K1 dx4 (.own o4)) o4 (.ins C dx4 [])) x := bx.imp id fun ⟨t, xs, e, h, r⟩ => ⟨t, xs, e, eL _ _ h (fun _ z => nomatch z), r⟩
      obtain ⟨okx, nox⟩ := bxL.ok
      have lenL : (ws.take j ++ [x] ++ ws.drop j).length = ws.length + 1 := by
        simp only [List.length_append, List.length_take, List.length_drop, List.length_singleton]
        omega
      refine ⟨o4, dx4, .ref mK, rfl, upd_same, .lst emL, fun xs e => ?_, fun e => ?_, fun xs i e bad HM d sM nd ed => ?_, fun xs e all => ?_⟩
      · rw [seqOf_lst emL] at e
        obtain rfl := Option.some.inj e
        refine ⟨by omega, fun y hy => ?_⟩
        simp only [List.mem_append, List.mem_singleton] at hy
        rcases hy with (z | rfl) | z
        · exact (okL y (List.mem_of_mem_take z)).2
        · exact okx
        · exact (okL y (List.mem_of_mem_drop z)).2
      · rw [seqOf_lst emL] at e
        cases e
      rotate_left
      · rw [seqOf_lst emL] at e
        obtain rfl := Option.some.inj e
        have := all x (by simp)
        rw [nox] at this
        cases this
      rw [seqOf_lst emL] at e
      obtain rfl := Option.some.inj e
      obtain rfl : i = j := by
        obtain ⟨hi, ha, hb⟩ := bad
        have lt : (ws.take j).length = j := by rw [List.length_take]; omega
        rcases Nat.lt_trichotomy i j with h | h | h
        · have e1 : (ws.take j ++ [x] ++ ws.drop j)[i] = ws[i]'(by omega) := by
            simp only [List.append_assoc, List.getElem_append, List.length_take, List.getElem_take]
            rw [dif_pos (by omega)]
          rw [e1, (okL _ (List.getElem_mem _)).1] at hb
          cases hb
        · exact h
        · have := ha j (by omega) h
          have e1 : (ws.take j ++ [x] ++ ws.drop j)[j]'(by omega) = x := by
            simp only [List.append_assoc, List.getElem_append, List.length_take, List.length_singleton]
            rw [dif_neg (by omega), dif_pos (by omega)]
            simp
          rw [e1, nox] at this
          cases this
      refine ⟨d, _, rfl, ed, .inl ⟨rfl, fun p7 np7 => ?_⟩⟩
      have z7 := same_upd (o := .lst [.int (i : Nat), .bl true]) np7
      refine ⟨_, rfl, by show 2 ≤ sizeLine; decide, fun p8 np8 => ?_⟩
      have z8 := same_upd (o := .lst [.int (i : Nat), .bl true]) np8
      refine ⟨_, _, res_dp (z8 _ _ upd_same), res_dp upd_same, res_shaped _ _, res_shaped _ _, _, rfl, ?_⟩
      rw [res_eqv]
      refine iteF ?_
      have sN := (sM.trans z7).trans z8
      have eN := eL.trans (ext_same sN)
      have dlN := dlK.ext eN
      have tbN := tabs_same t1 (sL.trans sN)
      have hlN := eN _ _ hlK (fun _ z => nomatch z)
      have pwN : Paired (DeedAt (upd (upd HM p7 (.lst [.int (i : Nat), .bl true])) p8 (.lst [.int (i : Nat), .bl true]))) ws ds := paired_mono (fun _ _ ⟨c, ec, et⟩ => ⟨c, ec, eN _ _ et (fun _ z => nomatch z)⟩) pwK
      generalize hGN : upd _ p8 _ = GN
      rw [hGN] at dlN tbN hlN pwN
      clear hGN eN sN z8 z7 okL bxL okx nox emL pwL eL sL
      -- what is no sequence
      refine ⟨tbN, fun K2 x2 t2 => ⟨_, rfl, by show 3 ≤ sizeLine; decide, fun m9 n9 => ?_⟩⟩
      have dl9' := dlN.ext x2
      have s9' := same_upd (o := .lst [.non, .str "off p", .int 3]) n9
      obtain ⟨m9p, m9q⟩ := dl9'.new n9
      refine ⟨p, q, m9, _, rfl, dl9'.same s9', m9p, m9q, upd_same, by show 1 ≤ 3; decide, by show 3 ≤ 1000; decide, fun y HP hy butP dlP o5 dx5 no5 ndx5 ne5 => ?_⟩
      have okY : ∀ G, OkV G y ∧ seqOf G y = none := fun G => by
        simp only [List.mem_cons, List.not_mem_nil, or_false] at hy
        rcases hy with rfl | rfl | rfl
        · exact ⟨.non, rfl⟩
        · exact ⟨.str _, rfl⟩
        · exact ⟨.int 3, rfl⟩
      have sQ : Same HP (upd (upd HP dx5 (.own o5)) o5 (.ins C dx5 [])) := fun b u e => by
        rw [upd_ne (ne_of_none e no5), upd_ne (ne_of_none e ndx5)]
        exact e
      refine ⟨o5, dx5, y, rfl, upd_same, (okY _).1, fun xs e => ?_, fun _ HR d sR nd ed => ⟨d, _, rfl, ed, .inl ⟨rfl, fun pa npa => ?_⟩⟩, fun xs i e => ?_, fun xs e => ?_⟩
      · rw [(okY _).2] at e
        cases e
      rotate_left
      · rw [(okY _).2] at e
        cases e
      · rw [(okY _).2] at e
        cases e
      have za := same_upd (o := .lst [.int (-1), .bl true]) npa
      refine ⟨_, _, rfl, rfl, by show 2 ≤ sizeLine; decide, fun pb npb => ?_⟩
      have zb := same_upd (o := .lst [.int (-1), .bl true]) npb
      refine ⟨_, _, res_dp (zb _ _ upd_same), res_dp upd_same, res_shaped _ _, res_shaped _ _, _, rfl, ?_⟩
      rw [show PyData.eqv (.list [.int (-1), .bool true]) (.list [.int (0 - 1), .bool true]) = true from res_eqv (-1) true]
      refine iteF ?_
      have sS := (sR.trans za).trans zb
      have bS : BN p q GN (upd (upd HR pa (.lst [.int (-1), .bl true])) pb (.lst [.int (-1), .bl true])) := (((BN.ext x2).trans (.of s9')).trans (.but butP)).trans (.of (sQ.trans sS))
      have dlS := dlP.same (sQ.trans sS)
      have tbS := tabs_same (tabs_but (dl9'.same s9') butP (tabs_same t2 s9')) (sQ.trans sS)
      have hlS := bS _ _ lp lq hlN (fun _ z => nomatch z)
      have pwS : Paired (DeedAt (upd (upd HR pa (.lst [.int (-1), .bl true])) pb (.lst [.int (-1), .bl true]))) ws ds := by
        obtain ⟨_, ns1, b1, hp1, hq1, _⟩ := dlN
        exact paired_mono (fun _ _ ⟨c, ec, et⟩ => ⟨c, ec, bS _ _ (ne_of et hp1 (fun z => by cases z)) (ne_of et hq1 (fun z => by cases z)) et (fun _ z => nomatch z)⟩) pwN
      -- the texts
      refine ⟨_, rfl, _, rfl, p, q, l, ws, ds, rfl, dlS, lp, lq, hlS, gds, pwS, tbS, fun HZ _ dlZ tbZ => ⟨_, rfl, iteF ?_⟩⟩
      exact ⟨_, _, _, _, _, _, _, _, _, _, _, _, rfl, dlZ, tbZ⟩
end
end K17

namespace K17
open PySem PySem.Spec PyProof.Rows L2
open Cal EnuT Exn Keys LamX Stc Oeq Fx

theorem callee_mk {P : Program} {w : World} {K : W.Frag} {h : Heap} {mg : Str → Option Value} {base : Heap} {x : Str} {f : Addr} {ps : List Str} {sp : Sp} {k : Nat} {st : Stmt} {oc kV doc pm cdv ct : Value} {od an : Option Addr} {sl : Array (Option Value)} (X : K.In h) (G : h.Ns mainGlobals mg)
    (a : W.nsIn K mainGlobals x = some (some (.ref f))) (l : K.lookup f = some ⟨oc, od, .func (W.fnOf x x (defArgs st) (defBody st) (defScope st) .none kV doc pm an cdv ct), sl⟩) (c : W.codeIn K cdv x = true) (kp : W.keepIn K (.ref f) = true)
    (b : ∀ (kV doc pm : Value) (an : Option Addr) (cdv ct : Value) (us : List Value), us.length = ps.length → bindArgs (W.fnOf x x (defArgs st) (defBody st) (defScope st) .none kV doc pm an cdv ct) ⟨us, []⟩ = pure (ps.zip us))
    (ok : ∀ cdv', cdv' = cdv → Fun K x x st f (W.fnOf x x (defArgs st) (defBody st) (defScope st) .none kV doc pm an cdv ct) → FnOk P w K mg base CX0 k f (W.fnOf x x (defArgs st) (defBody st) (defScope st) .none kV doc pm an cdv ct) ps sp) : Callee P w K mg base x k ps sp := by
  have F := fun_mk (st := st) l c kp
  exact ⟨f, _, W.mg_of X G a, kp, F.binds b, ok cdv rfl F⟩
theorem rel1 {vs : List V} {us : List Value} {zs : List V} {ws : List Value} (a : Vals vs us) (b : Vals zs ws) : Vals (gV1 vs zs) (g1 us ws) := by
  cases a with
  | nil =>
    cases b with
    | nil => exact .nil
    | cons r t =>
      cases t with
      | nil => exact .cons r .nil
      | cons _ _ => exact .nil
  | cons _ _ => exact .nil
abbrev iP : Stmt := inClass (top 5) 0
abbrev iT : Stmt := inClass (top 6) 0
theorem keP : InitTxt iP "at" := ⟨⟨_, _, _, _, rfl⟩, ⟨rfl, rfl, rfl, by decide +kernel, rfl, by decide +kernel, by decide +kernel⟩, .inl rfl, .inl rfl, by decide, by decide, fun _ _ _ _ _ _ _ _ _ => rfl, fun _ _ _ _ _ _ _ _ _ => rfl⟩
theorem keT : InitTxt iT "at" := ⟨⟨_, _, _, _, rfl⟩, ⟨rfl, rfl, rfl, by decide +kernel, rfl, by decide +kernel, by decide +kernel⟩, .inl rfl, .inl rfl, by decide, by decide, fun _ _ _ _ _ _ _ _ _ => rfl, fun _ _ _ _ _ _ _ _ _ => rfl⟩
def tabsB (K : W.Frag) : Bool := match W.tabIn K "law", W.tabIn K "_law_texts_right" with
  | some p, some q => (K.lookup p.2).isNone && (K.lookup q.2).isNone && decide (p.2 ≠ q.2)
  | _, _ => false
theorem tabs_of {K : W.Frag} (h : tabsB K = true) : ∃ cL PL cT PT, W.tabIn K "law" = some (cL, PL) ∧ W.tabIn K "_law_texts_right" = some (cT, PT) ∧ K.lookup PL = none ∧ K.lookup PT = none ∧ PL ≠ PT := by
  unfold tabsB at h
  split at h
  · rename_i p q h1 h2
    simp only [Bool.and_eq_true, decide_eq_true_eq, Option.isNone_iff_eq_none] at h
    exact ⟨p.1, p.2, q.1, q.2, h1, h2, h.1.1, h.1.2, h.2⟩
  · cases h
def kitB (K : W.Frag) (C CP CT : Addr) : Bool :=
  decide (W.exmAny K (.ref CP) [.ref CP, .ref CT] = some true) && decide (W.exmAny K (.ref CT) [.ref CP, .ref CT] = some true) && decide (W.kitOne K (.ref CP) (.ref CP) = some true) && decide (W.kitOne K (.ref CT) (.ref CP) = some false) &&
  W.notFirst K C (.type "str") && W.notFirst K C (.type "tuple") && decide (W.kitOne K (.type "str") (.ref C) = some false) && decide (W.kitOne K (.type "tuple") (.ref C) = some false)

theorem all_mk {P : Program} {w : World} {K : W.Frag} {h : Heap} {mg : Str → Option Value} {fa : Addr} {C CP CT fI fE fT fR rR iCP iCT : Addr} {restR : List Value} {o_I v_I d_I p_I c_I t_I : Value} {x_I n_I : Option Addr} {y_I : Array (Option Value)} {o_E v_E d_E p_E c_E t_E : Value} {x_E n_E : Option Addr} {y_E : Array (Option Value)} {o_T v_T d_T p_T c_T t_T : Value} {x_T n_T : Option Addr} {y_T : Array (Option Value)} {o_R v_R d_R p_R c_R t_R : Value} {x_R n_R : Option Addr} {y_R : Array (Option Value)} {oiCP viCP diCP piCP ciCP tiCP : Value} {xiCP niCP : Option Addr} {siCP : Array (Option Value)} {oiCT viCT diCT piCT ciCT tiCT : Value} {xiCT niCT : Option Addr} {siCT : Array (Option Value)} {f_isseq' : Addr} {o_isseq v_isseq d_isseq p_isseq c_isseq t_isseq : Value} {x_isseq n_isseq : Option Addr} {s_isseq : Array (Option Value)} {f_isname' : Addr} {o_isname v_isname d_isname p_isname c_isname t_isname : Value} {x_isname n_isname : Option Addr} {s_isname : Array (Option Value)} {f_isdeed' : Addr} {o_isdeed v_isdeed d_isdeed p_isdeed c_isdeed t_isdeed : Value} {x_isdeed n_isdeed : Option Addr} {s_isdeed : Array (Option Value)} {f_read' : Addr} {o_read v_read d_read p_read c_read t_read : Value} {x_read n_read : Option Addr} {s_read : Array (Option Value)} {f_asked' : Addr} {o_asked v_asked d_asked p_asked c_asked t_asked : Value} {x_asked n_asked : Option Addr} {s_asked : Array (Option Value)} {f_dealt' : Addr} {o_dealt v_dealt d_dealt p_dealt c_dealt t_dealt : Value} {x_dealt n_dealt : Option Addr} {s_dealt : Array (Option Value)} {f_any' : Addr} {o_any v_any d_any p_any c_any t_any : Value} {x_any n_any : Option Addr} {s_any : Array (Option Value)} {f_of' : Addr} {o_of v_of d_of p_of c_of t_of : Value} {x_of n_of : Option Addr} {s_of : Array (Option Value)} {f_deeds' : Addr} {o_deeds v_deeds d_deeds p_deeds c_deeds t_deeds : Value} {x_deeds n_deeds : Option Addr} {s_deeds : Array (Option Value)} {f_refd' : Addr} {o_refd v_refd d_refd p_refd c_refd t_refd : Value} {x_refd n_refd : Option Addr} {s_refd : Array (Option Value)} {f_wrong' : Addr} {o_wrong v_wrong d_wrong p_wrong c_wrong t_wrong : Value} {x_wrong n_wrong : Option Addr} {s_wrong : Array (Option Value)} {f_texts' : Addr} {o_texts v_texts d_texts p_texts c_texts t_texts : Value} {x_texts n_texts : Option Addr} {s_texts : Array (Option Value)} {f_law' : Addr} {o_law v_law d_law p_law c_law t_law : Value} {x_law n_law : Option Addr} {s_law : Array (Option Value)}
    (X : K.In h) (G : h.Ns mainGlobals mg) (hfa : mg "law" = some (.ref fa))
    (aC : W.nsIn K mainGlobals "Plan" = some (some (.ref C))) (nI : W.findIn K (.ref C) "__init__" = some (some (.ref fI))) (nE : W.findIn K (.ref C) "__eq__" = some (some (.ref fE))) (nT : W.findIn K (.ref C) "text" = some (some (.ref fT))) (nR : W.findCls K (.ref C) (.type "type") "read" = some (.get (.builtin "staticmethod.__get__") (.ref rR) .none (.ref C))) (rR_ : W.recIn K rR "staticmethod" = some (.ref fR :: restR))
    (l_I : K.lookup fI = some ⟨o_I, x_I, .func (W.fnOf "__init__" "Plan.__init__" (defArgs sInit) (defBody sInit) (defScope sInit) .none v_I d_I p_I n_I c_I t_I), y_I⟩) (g_I : W.codeIn K c_I "Plan.__init__" = true) (k_I : W.keepIn K (.ref fI) = true) (f_I : W.isFn K (.ref fI) = true)
    (l_E : K.lookup fE = some ⟨o_E, x_E, .func (W.fnOf "__eq__" "Plan.__eq__" (defArgs sEq) (defBody sEq) (defScope sEq) .none v_E d_E p_E n_E c_E t_E), y_E⟩) (g_E : W.codeIn K c_E "Plan.__eq__" = true) (k_E : W.keepIn K (.ref fE) = true) (f_E : W.isFn K (.ref fE) = true)
    (l_T : K.lookup fT = some ⟨o_T, x_T, .func (W.fnOf "text" "Plan.text" (defArgs sText) (defBody sText) (defScope sText) .none v_T d_T p_T n_T c_T t_T), y_T⟩) (g_T : W.codeIn K c_T "Plan.text" = true) (k_T : W.keepIn K (.ref fT) = true) (f_T : W.isFn K (.ref fT) = true)
    (l_R : K.lookup fR = some ⟨o_R, x_R, .func (W.fnOf "read" "Plan.read" (defArgs sPlanRead) (defBody sPlanRead) (defScope sPlanRead) .none v_R d_R p_R n_R c_R t_R), y_R⟩) (g_R : W.codeIn K c_R "Plan.read" = true) (k_R : W.keepIn K (.ref fR) = true) (f_R : W.isFn K (.ref fR) = true)
    (aCP : W.nsIn K mainGlobals "InvalidPlan" = some (some (.ref CP))) (bCP : clsB K CP exTail "Exception.__new__" "at" = true) (nCP : W.findIn K (.ref CP) "__init__" = some (some (.ref iCP))) (tCP : W.typeIn K (.ref iCP) = some (.type "function"))
    (lCP : K.lookup iCP = some ⟨oiCP, xiCP, .func (W.fnOf "__init__" "InvalidPlan.__init__" (defArgs iP) (defBody iP) (defScope iP) .none viCP diCP piCP niCP ciCP tiCP), siCP⟩) (cCP : W.codeIn K ciCP "InvalidPlan.__init__" = true) (kCP : W.keepIn K (.ref iCP) = true)
    (aCT : W.nsIn K mainGlobals "InvalidText" = some (some (.ref CT))) (bCT : clsB K CT exTail "Exception.__new__" "at" = true) (nCT : W.findIn K (.ref CT) "__init__" = some (some (.ref iCT))) (tCT : W.typeIn K (.ref iCT) = some (.type "function"))
    (lCT : K.lookup iCT = some ⟨oiCT, xiCT, .func (W.fnOf "__init__" "InvalidText.__init__" (defArgs iT) (defBody iT) (defScope iT) .none viCT diCT piCT niCT ciCT tiCT), siCT⟩) (cCT : W.codeIn K ciCT "InvalidText.__init__" = true) (kCT : W.keepIn K (.ref iCT) = true)
    (hO : ownB K C ["deeds"] = true) (hK : kitB K C CP CT = true) (hD : wordsB K "DOOR_DEEDS" ["shut", "open"] = true) (hP : wordsB K "PART_DEEDS" ["drain", "off", "on"] = true) (hC : wordsB K "CELL_DEEDS" ["save", "load"] = true)
    (e_isseq : W.nsIn K mainGlobals "is_sequence" = some (some (.ref f_isseq'))) (l_isseq : K.lookup f_isseq' = some ⟨o_isseq, x_isseq, .func (W.fnOf "is_sequence" "is_sequence" (defArgs sIsSeq) (defBody sIsSeq) (defScope sIsSeq) .none v_isseq d_isseq p_isseq n_isseq c_isseq t_isseq), s_isseq⟩) (g_isseq : W.codeIn K c_isseq "is_sequence" = true) (k_isseq : W.keepIn K (.ref f_isseq') = true)
    (e_isname : W.nsIn K mainGlobals "is_name" = some (some (.ref f_isname'))) (l_isname : K.lookup f_isname' = some ⟨o_isname, x_isname, .func (W.fnOf "is_name" "is_name" (defArgs sIsName) (defBody sIsName) (defScope sIsName) .none v_isname d_isname p_isname n_isname c_isname t_isname), s_isname⟩) (g_isname : W.codeIn K c_isname "is_name" = true) (k_isname : W.keepIn K (.ref f_isname') = true)
    (e_isdeed : W.nsIn K mainGlobals "_is_deed" = some (some (.ref f_isdeed'))) (l_isdeed : K.lookup f_isdeed' = some ⟨o_isdeed, x_isdeed, .func (W.fnOf "_is_deed" "_is_deed" (defArgs sIsDeed) (defBody sIsDeed) (defScope sIsDeed) .none v_isdeed d_isdeed p_isdeed n_isdeed c_isdeed t_isdeed), s_isdeed⟩) (g_isdeed : W.codeIn K c_isdeed "_is_deed" = true) (k_isdeed : W.keepIn K (.ref f_isdeed') = true)
    (e_read : W.nsIn K mainGlobals "_read_deeds" = some (some (.ref f_read'))) (l_read : K.lookup f_read' = some ⟨o_read, x_read, .func (W.fnOf "_read_deeds" "_read_deeds" (defArgs sReadDeeds) (defBody sReadDeeds) (defScope sReadDeeds) .none v_read d_read p_read n_read c_read t_read), s_read⟩) (g_read : W.codeIn K c_read "_read_deeds" = true) (k_read : W.keepIn K (.ref f_read') = true)
    (e_asked : W.nsIn K mainGlobals "asked_empty" = some (some (.ref f_asked'))) (l_asked : K.lookup f_asked' = some ⟨o_asked, x_asked, .func (W.fnOf "asked_empty" "asked_empty" (defArgs sAsked) (defBody sAsked) (defScope sAsked) .none v_asked d_asked p_asked n_asked c_asked t_asked), s_asked⟩) (g_asked : W.codeIn K c_asked "asked_empty" = true) (k_asked : W.keepIn K (.ref f_asked') = true)
    (e_dealt : W.nsIn K mainGlobals "_law_dealt" = some (some (.ref f_dealt'))) (l_dealt : K.lookup f_dealt' = some ⟨o_dealt, x_dealt, .func (W.fnOf "_law_dealt" "_law_dealt" (defArgs sDealt) (defBody sDealt) (defScope sDealt) .none v_dealt d_dealt p_dealt n_dealt c_dealt t_dealt), s_dealt⟩) (g_dealt : W.codeIn K c_dealt "_law_dealt" = true) (k_dealt : W.keepIn K (.ref f_dealt') = true)
    (e_any : W.nsIn K mainGlobals "_law_any" = some (some (.ref f_any'))) (l_any : K.lookup f_any' = some ⟨o_any, x_any, .func (W.fnOf "_law_any" "_law_any" (defArgs sAny) (defBody sAny) (defScope sAny) .none v_any d_any p_any n_any c_any t_any), s_any⟩) (g_any : W.codeIn K c_any "_law_any" = true) (k_any : W.keepIn K (.ref f_any') = true)
    (e_of : W.nsIn K mainGlobals "_law_of" = some (some (.ref f_of'))) (l_of : K.lookup f_of' = some ⟨o_of, x_of, .func (W.fnOf "_law_of" "_law_of" (defArgs sOf) (defBody sOf) (defScope sOf) .none v_of d_of p_of n_of c_of t_of), s_of⟩) (g_of : W.codeIn K c_of "_law_of" = true) (k_of : W.keepIn K (.ref f_of') = true)
    (e_deeds : W.nsIn K mainGlobals "_law_deeds" = some (some (.ref f_deeds'))) (l_deeds : K.lookup f_deeds' = some ⟨o_deeds, x_deeds, .func (W.fnOf "_law_deeds" "_law_deeds" (defArgs sDeeds) (defBody sDeeds) (defScope sDeeds) .none v_deeds d_deeds p_deeds n_deeds c_deeds t_deeds), s_deeds⟩) (g_deeds : W.codeIn K c_deeds "_law_deeds" = true) (k_deeds : W.keepIn K (.ref f_deeds') = true)
    (e_refd : W.nsIn K mainGlobals "_law_refused" = some (some (.ref f_refd'))) (l_refd : K.lookup f_refd' = some ⟨o_refd, x_refd, .func (W.fnOf "_law_refused" "_law_refused" (defArgs sRefused) (defBody sRefused) (defScope sRefused) .none v_refd d_refd p_refd n_refd c_refd t_refd), s_refd⟩) (g_refd : W.codeIn K c_refd "_law_refused" = true) (k_refd : W.keepIn K (.ref f_refd') = true)
    (e_wrong : W.nsIn K mainGlobals "_law_with_wrong" = some (some (.ref f_wrong'))) (l_wrong : K.lookup f_wrong' = some ⟨o_wrong, x_wrong, .func (W.fnOf "_law_with_wrong" "_law_with_wrong" (defArgs sWrong) (defBody sWrong) (defScope sWrong) .none v_wrong d_wrong p_wrong n_wrong c_wrong t_wrong), s_wrong⟩) (g_wrong : W.codeIn K c_wrong "_law_with_wrong" = true) (k_wrong : W.keepIn K (.ref f_wrong') = true)
    (e_texts : W.nsIn K mainGlobals "_law_texts_right" = some (some (.ref f_texts'))) (l_texts : K.lookup f_texts' = some ⟨o_texts, x_texts, .func (W.fnOf "_law_texts_right" "_law_texts_right" (defArgs sTexts) (defBody sTexts) (defScope sTexts) .none v_texts d_texts p_texts n_texts c_texts t_texts), s_texts⟩) (g_texts : W.codeIn K c_texts "_law_texts_right" = true) (k_texts : W.keepIn K (.ref f_texts') = true)
    (e_law : W.nsIn K mainGlobals "law" = some (some (.ref f_law'))) (l_law : K.lookup f_law' = some ⟨o_law, x_law, .func (W.fnOf "law" "law" (defArgs sLaw) (defBody sLaw) (defScope sLaw) .none v_law d_law p_law n_law c_law t_law), s_law⟩) (g_law : W.codeIn K c_law "law" = true) (k_law : W.keepIn K (.ref f_law') = true)
    (hT : tabsB K = true)
    (z_len : W.nsIn K mainGlobals "len" = some none)
    (z_abs : W.nsIn K mainGlobals "abs" = some none)
    (z_int : W.nsIn K mainGlobals "int" = some none)
    (z_range : W.nsIn K mainGlobals "range" = some none)
    (z_list : W.nsIn K mainGlobals "list" = some none)
    (z_tuple : W.nsIn K mainGlobals "tuple" = some none)
    (z_isinstance : W.nsIn K mainGlobals "isinstance" = some none)
    (z_enumerate : W.nsIn K mainGlobals "enumerate" = some none)
    (z_str : W.nsIn K mainGlobals "str" = some none)
    (z_all : W.nsIn K mainGlobals "all" = some none)
    (z_repr : W.nsIn K mainGlobals "repr" = some none) :
    ∃ cs : List (Addr × Addr), (∀ p ∈ cs, K.lookup p.2 = none ∧ ∃ x ∈ (["law", "_law_texts_right"] : List Str), W.tabIn K x = some p) ∧
    ∀ (s : Shared) (a : Addr) (ns : List Int) (base : Heap) (H : Hp), ns.length ≤ 63 → K.In base → base.Ns mainGlobals mg → (∀ p ∈ cs, TabB base mg p.1 p.2) → Env0 P w K mg base callerA [] s H → (∀ p ∈ cs, H p.2 = some (.tbl #[])) → SqL K H a (ns.map V.int) →
      codeAny (model P w) callerA (.call (.ref fa) ⟨[.ref a], []⟩) (CR CX0 [] P w H s (fun v _ => v = .bl true) E0) s := by
  have e := hfa.symm.trans (W.mg_of X G e_law)
  cases e
  obtain ⟨cL, PL, cT, PT, tL, tT, uL, uT, nP⟩ := tabs_of hT
  refine ⟨[(cL, PL), (cT, PT)], fun p hp => ?_, fun s a ns base H few _ _ TB e0 h0 sq => ?_⟩
  · simp only [List.mem_cons, List.not_mem_nil, or_false] at hp
    rcases hp with rfl | rfl
    · exact ⟨uL, "law", by simp, tL⟩
    · exact ⟨uT, "_law_texts_right", by simp, tT⟩
  have TL := TB (cL, PL) (by simp)
  have TT := TB (cT, PT) (by simp)
  have tabs : Tabs [(PL, qL), (PT, qT)] H := fun p hp => by
    simp only [List.mem_cons, List.not_mem_nil, or_false] at hp
    rcases hp with rfl | rfl
    · exact .nil (h0 (cL, PL) (by simp))
    · exact .nil (h0 (cT, PT) (by simp))
  have huL : ∀ p ∈ [(PL, qL), (PT, qT)], p.1 = PL → p.2 = qL := fun p hp e => by
    simp only [List.mem_cons, List.not_mem_nil, or_false] at hp
    rcases hp with rfl | rfl
    · rfl
    · exact absurd e.symm nP
  have huT : ∀ p ∈ [(PL, qL), (PT, qT)], p.1 = PT → p.2 = qT := fun p hp e => by
    simp only [List.mem_cons, List.not_mem_nil, or_false] at hp
    rcases hp with rfl | rfl
    · exact absurd e nP
    · rfl
  have B : Bl mg := ⟨W.mg_none_of X G z_len, W.mg_none_of X G z_abs, W.mg_none_of X G z_int, W.mg_none_of X G z_range, W.mg_none_of X G z_list, W.mg_none_of X G z_tuple, W.mg_none_of X G z_isinstance, W.mg_none_of X G z_enumerate, W.mg_none_of X G z_str, W.mg_none_of X G z_all, W.mg_none_of X G z_repr⟩
  have ow := own_of hO
  unfold kitB at hK
  simp only [Bool.and_eq_true, decide_eq_true_eq] at hK
  obtain ⟨⟨⟨⟨⟨⟨⟨q1, q2⟩, q3⟩, q4⟩, q5⟩, q6⟩, q7⟩, q8⟩ := hK
  have cP : CE P w K mg base "InvalidPlan" CP "at" := cl1_mk X G aCP bCP nCP tCP lCP cCP kCP keP exE tail_Exception exS
  have cT' : CE P w K mg base "InvalidText" CT "at" := cl1_mk X G aCT bCT nCT tCT lCT cCT kCT keT exE tail_Exception exS
  have Cs : Cst K mg := ⟨words_of X G hD, words_of X G hP, words_of X G hC⟩
  have two : Two P w K mg base CP CT := ⟨cP, cT', ow.cg, q1, q2, q3, q4⟩
  have mC := W.mg_of X G aC
  have na := ow.no "deeds" (by simp)
  have cSeq : Callee P w K mg base "is_sequence" 1 ["value"] (spSeq) := callee_mk (st := sIsSeq) X G e_isseq l_isseq g_isseq k_isseq (fun _ _ _ _ _ _ us hl => match us, hl with | [_], _ => rfl) (fun cdv _ F => ok_isseq F B)
  have cName : Callee P w K mg base "is_name" 1 ["value"] (spName) := callee_mk (st := sIsName) X G e_isname l_isname g_isname k_isname (fun _ _ _ _ _ _ us hl => match us, hl with | [_], _ => rfl) (fun cdv _ F => ok_isname F B)
  have cDeed : Callee P w K mg base "_is_deed" 2 ["value"] (spDeed) := callee_mk (st := sIsDeed) X G e_isdeed l_isdeed g_isdeed k_isdeed (fun _ _ _ _ _ _ us hl => match us, hl with | [_], _ => rfl) (fun cdv _ F => ok_isdeed F B Cs cSeq cName)
  have fRd := fun_mk (st := sReadDeeds) l_read g_read k_read
  have cRead : CalleeX P w K mg base "_read_deeds" 3 ["rows", "first"] (spRead CT) := ⟨_, _, W.mg_of X G e_read, k_read, fRd.binds (fun _ _ _ _ _ _ us hl => match us, hl with | [_, _], _ => rfl), ok_read fRd B cT' cDeed⟩
  have cAsked : Callee P w K mg base "asked_empty" 1 ["told"] (spAsked) := callee_mk (st := sAsked) X G e_asked l_asked g_asked k_asked (fun _ _ _ _ _ _ us hl => match us, hl with | [_], _ => rfl) (fun cdv _ F => ok_asked F)
  have cDealt : Callee P w K mg base "_law_dealt" 1 ["_law_script", "_law_base"] (spDealt K) := callee_mk (st := sDealt) X G e_dealt l_dealt g_dealt k_dealt (fun _ _ _ _ _ _ us hl => match us, hl with | [_, _], _ => rfl) (fun cdv _ F => ok_dealt F B)
  have cAny : Callee P w K mg base "_law_any" 1 ["_law_deal", "_law_bound"] (spAny) := callee_mk (st := sAny) X G e_any l_any g_any k_any (fun _ _ _ _ _ _ us hl => match us, hl with | [_, _], _ => rfl) (fun cdv _ F => ok_any F B)
  have cOf : Callee P w K mg base "_law_of" 2 ["_law_deal", "_law_some"] (spOf) := callee_mk (st := sOf) X G e_of l_of g_of k_of (fun _ _ _ _ _ _ us hl => match us, hl with | [_, _], _ => rfl) (fun cdv _ F => ok_of F B cAny)
  have cDeeds : Callee P w K mg base "_law_deeds" 3 ["_law_deal"] (spDeeds) := callee_mk (st := sDeeds) X G e_deeds l_deeds g_deeds k_deeds (fun _ _ _ _ _ _ us hl => match us, hl with | [_], _ => rfl) (fun cdv _ F => ok_deeds F B cAny cOf)
  have cWrong : Callee P w K mg base "_law_with_wrong" 3 ["_law_deal", "_law_deeds_here"] (spWrong) := callee_mk (st := sWrong) X G e_wrong l_wrong g_wrong k_wrong (fun _ _ _ _ _ _ us hl => match us, hl with | [_, _], _ => rfl) (fun cdv _ F => ok_wrong F B cAny cOf)
  have fI' := fun_mk (st := sInit) l_I g_I k_I
  have fE' := fun_mk (st := sEq) l_E g_E k_E
  have fT' := fun_mk (st := sText) l_T g_T k_T
  have fR' := fun_mk (st := sPlanRead) l_R g_R k_R
  have mk : Mk K C fI := ⟨ow.makes, nI, f_I, ow.kp⟩
  have bI := fI'.binds (ps := ["self", "deeds"]) (fun _ _ _ _ _ _ us hl => match us, hl with | [_, _], _ => rfl)
  have okI := ok_init (P := P) (w := w) (mg := mg) (base := base) fI' B ow.cl na cP cSeq cDeed
  have okR := ok_planread (P := P) (w := w) (mg := mg) (base := base) (CP := CP) fR' B cT' cRead mC mk bI okI
  have sm : SMet K C (.type "type") "read" rR fR := ⟨nR, ⟨_, rR_⟩, k_R⟩
  have pc : PlanC P w K mg base C CP CT := ⟨mC, ⟨fI, _, mk, bI, okI⟩, ⟨_, rR, fR, _, ow.rd, sm, fR'.binds (fun _ _ _ _ _ _ us hl => match us, hl with | [_], _ => rfl), okR⟩⟩
  have fRf := fun_mk (st := sRefused) l_refd g_refd k_refd
  have rf : Refd P w K mg base CP CT := ⟨two, B, _, _, _, _, _, _, _, _, _, _, W.mg_of X G e_refd, k_refd, l_refd, g_refd⟩
  have cTexts : Callee P w K mg base "_law_texts_right" 8 ["_law_deal", "_law_deeds_here"] (spTexts [(PL, qL), (PT, qT)]) := callee_mk (st := sTexts) X G e_texts l_texts g_texts k_texts (fun _ _ _ _ _ _ us hl => match us, hl with | [_, _], _ => rfl) (fun cdv _ F => ok_texts F (code_of e_texts l_texts tT) TT (by simp) huT B rf pc cAny cOf)
  have fA := fun_mk (st := sAsked) l_asked g_asked k_asked
  have D : Defs P w K mg base C CP CT [(PL, qL), (PT, qT)] := {
    dealt := cDealt
    of := cOf
    deeds := cDeeds
    wrong := cWrong
    texts := cTexts
    asked := cAsked
    askedK := ⟨_, _, W.mg_of X G e_asked, k_asked, ⟨fun s us ws _ hl => .of_eq (match us, ws, hl with | [], [_], _ => rfl), rel1⟩, ok_asked fA⟩
    refd := rf
    pc := pc
    initK := ⟨fI, _, mk, ⟨fun s us ws _ h1 h2 => .of_eq (match us, ws, h1, h2 with | [_], [_], _, _ => rfl), fun r1 r2 => r1.append r2⟩, okI⟩
    readK := ⟨_, rR, fR, _, ow.rd, sm, ⟨fun s us ws _ hl => .of_eq (match us, ws, hl with | [], [_], _ => rfl), rel1⟩, okR⟩
    text := ⟨fT, _, ⟨nT, f_T, k_T⟩, fT'.binds (fun _ _ _ _ _ _ us hl => match us, hl with | [_], _ => rfl), ok_text fT' ow.cl na⟩
    eq := ⟨fE, _, nE, f_E, fE'.binds (fun _ _ _ _ _ _ us hl => match us, hl with | [_, _], _ => rfl), ok_eq fE' B ow.cl na mC ow.ty ow.self⟩
    cl := ow.cl
    na := na
    ns := q5
    nt := q6
    ks := q7
    kt := q8 }
  have fl := fun_mk (st := sLaw) l_law g_law k_law
  exact law_ok fl (code_of e_law l_law tL) TL (by simp) huL B D e0 (fl.binds (ps := ["_law_script"]) (fun _ _ _ _ _ _ us hl => match us, hl with | [_], _ => rfl)) tabs sq few
end K17

open PySem PySem.W PyProof.Rows in
set_option maxRecDepth 100000 in
set_option maxHeartbeats 0 in
theorem PySem.Challenge.cw_lightsout_k17_plans_and_their_texts_holds : PySem.Challenge.rw_lightsout_k17_plans_and_their_texts.Holds := by
  w_on; o_law; k_head; (case hw => w_witness2)
  k_fill
  refine Cal.walkT (l := PySem.Challenge.rw_lightsout_k17_plans_and_their_texts) (n := 63) ["law", "_law_texts_right"] rfl (by decide) rfl (fun w h Y => PySem.W.km_in_of Y) (by decide +kernel) ?F
  case F =>
    intro w mg fa h KX G hmg
    refine' K17.all_mk KX G hmg ?aC ?nI ?nE ?nT ?nR ?rR_ ?l_I ?g_I ?k_I ?f_I ?l_E ?g_E ?k_E ?f_E ?l_T ?g_T ?k_T ?f_T ?l_R ?g_R ?k_R ?f_R ?aCP ?bCP ?nCP ?tCP ?lCP ?cCP ?kCP ?aCT ?bCT ?nCT ?tCT ?lCT ?cCT ?kCT ?hO ?hK ?hD ?hP ?hC ?e_isseq ?l_isseq ?g_isseq ?k_isseq ?e_isname ?l_isname ?g_isname ?k_isname ?e_isdeed ?l_isdeed ?g_isdeed ?k_isdeed ?e_read ?l_read ?g_read ?k_read ?e_asked ?l_asked ?g_asked ?k_asked ?e_dealt ?l_dealt ?g_dealt ?k_dealt ?e_any ?l_any ?g_any ?k_any ?e_of ?l_of ?g_of ?k_of ?e_deeds ?l_deeds ?g_deeds ?k_deeds ?e_refd ?l_refd ?g_refd ?k_refd ?e_wrong ?l_wrong ?g_wrong ?k_wrong ?e_texts ?l_texts ?g_texts ?k_texts ?e_law ?l_law ?g_law ?k_law ?hT ?z_len ?z_abs ?z_int ?z_range ?z_list ?z_tuple ?z_isinstance ?z_enumerate ?z_str ?z_all ?z_repr
    (case aC => k_is)
    (case nI => k_is)
    (case nE => k_is)
    (case nT => k_is)
    (case nR => k_is)
    (case rR_ => k_is)
    (case l_I => k_is)
    (case g_I => k_is)
    (case k_I => k_is)
    (case f_I => k_is)
    (case l_E => k_is)
    (case g_E => k_is)
    (case k_E => k_is)
    (case f_E => k_is)
    (case l_T => k_is)
    (case g_T => k_is)
    (case k_T => k_is)
    (case f_T => k_is)
    (case l_R => k_is)
    (case g_R => k_is)
    (case k_R => k_is)
    (case f_R => k_is)
    (case aCP => k_is)
    (case bCP => kernel_rfl)
    (case nCP => k_is)
    (case tCP => k_is)
    (case lCP => k_is)
    (case cCP => k_is)
    (case kCP => k_is)
    (case aCT => k_is)
    (case bCT => kernel_rfl)
    (case nCT => k_is)
    (case tCT => k_is)
    (case lCT => k_is)
    (case cCT => k_is)
    (case kCT => k_is)
    (case hO => kernel_rfl)
    (case hK => kernel_rfl)
    (case hD => kernel_rfl)
    (case hP => kernel_rfl)
    (case hC => kernel_rfl)
    (case e_isseq => k_is)
    (case l_isseq => k_is)
    (case g_isseq => k_is)
    (case k_isseq => k_is)
    (case e_isname => k_is)
    (case l_isname => k_is)
    (case g_isname => k_is)
    (case k_isname => k_is)
    (case e_isdeed => k_is)
    (case l_isdeed => k_is)
    (case g_isdeed => k_is)
    (case k_isdeed => k_is)
    (case e_read => k_is)
    (case l_read => k_is)
    (case g_read => k_is)
    (case k_read => k_is)
    (case e_asked => k_is)
    (case l_asked => k_is)
    (case g_asked => k_is)
    (case k_asked => k_is)
    (case e_dealt => k_is)
    (case l_dealt => k_is)
    (case g_dealt => k_is)
    (case k_dealt => k_is)
    (case e_any => k_is)
    (case l_any => k_is)
    (case g_any => k_is)
    (case k_any => k_is)
    (case e_of => k_is)
    (case l_of => k_is)
    (case g_of => k_is)
    (case k_of => k_is)
    (case e_deeds => k_is)
    (case l_deeds => k_is)
    (case g_deeds => k_is)
    (case k_deeds => k_is)
    (case e_refd => k_is)
    (case l_refd => k_is)
    (case g_refd => k_is)
    (case k_refd => k_is)
    (case e_wrong => k_is)
    (case l_wrong => k_is)
    (case g_wrong => k_is)
    (case k_wrong => k_is)
    (case e_texts => k_is)
    (case l_texts => k_is)
    (case g_texts => k_is)
    (case k_texts => k_is)
    (case e_law => k_is)
    (case l_law => k_is)
    (case g_law => k_is)
    (case k_law => k_is)
    (case hT => kernel_rfl)
    (case z_len => k_is)
    (case z_abs => k_is)
    (case z_int => k_is)
    (case z_range => k_is)
    (case z_list => k_is)
    (case z_tuple => k_is)
    (case z_isinstance => k_is)
    (case z_enumerate => k_is)
    (case z_str => k_is)
    (case z_all => k_is)
    (case z_repr => k_is)
#print axioms PySem.Challenge.cw_lightsout_k17_plans_and_their_texts_holds

