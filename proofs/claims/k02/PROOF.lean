import PyProof.Rows.All
import Wide.All
import OpenK.AllK
import Wide.FinOn
import HandS.Base
import HandS.Call
import HandS.List
import HandS.Ends
import HandS.Words
import PyProof.ReprRoads
import KE.KExcInit
import KE.KExcIs
import HandS.Exc
import HandS.ExcInit
import KE.KFromBytes
import HandS.IsInst
import HandS.TryOnly
import HandS.WordsExc
import KE.GoesEnum
import KE.GoesMore
import HandS.Comp
import HandS.Iter
import HandS.Walk
import HandS.TupMul
import HandS.ClsMeth
import KE.KTryMore
import HandS.EndTab
import HandS.OwnEq
import HandS.ExcField
import PyProof.StrLawsChain
import PyProof.StrLawsTight
import HandS.Text
import KE.KExcLine
import KE.RegKIsAll
import HandS.WordsList
import HandS.TupAny
import HandS.NoneIn
import HandS.Style
import HandS.Star
import HandS.DictComp
import HandS.CallLocal
import HandS.DeepEq
import HandS.Lambda
import HandS.MakeKwOnly
import PySem.Challenge.RW_lightsout_k02_houses_refused
set_option Elab.async false
set_option linter.all false
set_option maxRecDepth 100000
set_option maxHeartbeats 16000000
/-! The law's own def, run from the law's caller alone: what its body knows more is that no repr runs around it. -/
namespace Cal
open PySem PySem.Spec PyProof.Rows L2

/-- what the law's call wants -/
abbrev Won (P : Program) (w : World) (s : Shared) (fa a : Addr) : Prop :=
  codeAny (model P w) callerA (.call (.ref fa) ⟨[.ref a], []⟩)
    (fun r s' => r = .ok (.ret (.bool true)) ∧ OldK s.heap s'.heap ∧ s'.os = s.os ∧ AllBare s'.gens) s

theorem won {P : Program} {w : World} {K : PySem.W.Frag} {mg mb : Str → Option Value} {fa a : Addr} {s : Shared} {vs : List Value} {ns : List Int}
    (kIn : K.In s.heap) (glo : s.heap.Ns mainGlobals mg) (bns : s.heap.Ns builtinsNs mb) (bbo : ∀ x : Str, x ≠ "__name__" → mb x = bootBuiltins x)
    (lim : s.heap.NoLimit) (gen : s.gens = #[]) (obj : s.heap.get? a = some { cls := .type "list", data := .seq vs.toArray })
    (its : IntsAre vs ns) (few : ns.length ≤ sizeLine)
    (run : ∀ (base : Heap) (H : Hp), K.In base → base.Ns mainGlobals mg → Env0 P w K mg base callerA [] s H → Only H → SqL K H a (ns.map V.int) →
      codeAny (model P w) callerA (.call (.ref fa) ⟨[.ref a], []⟩) (CR CX0 [] P w H s (fun v _ => v = .bl true) E0) s) :
    Won P w s fa a := by
  have vals := vals_ints its
  have size := its.length
  suffices main : ∀ H : Hp, Only H → SqL K H a (ns.map V.int) → HOk P w H s.heap → (∀ b, H b ≠ none → b = a ∧ K.lookup a = none) → Won P w s fa a by
    cases look : K.lookup a with
    | some o =>
      have o2 := kIn a o look
      rw [obj] at o2
      obtain rfl := Option.some.inj o2
      refine main (fun _ => none) (fun _ => Or.inl rfl) (Or.inr ⟨_, vs.toArray, _, look, rfl, rfl, rfl, ?_, ?_⟩) (fun b u z => nomatch z) (fun b z => (z rfl).elim)
      · simpa [size] using few
      · simpa using vals
    | none =>
      let H : Hp := fun b => if b = a then some (.frz { cls := .type "list", data := .seq vs.toArray } (.lst (ns.map V.int))) else none
      have at_a : H a = some (.frz { cls := .type "list", data := .seq vs.toArray } (.lst (ns.map V.int))) := if_pos rfl
      have off : ∀ {b}, b ≠ a → H b = none := fun z => if_neg z
      refine main H (fun b => ?_) (Or.inl (Or.inr ⟨_, at_a⟩)) (fun b u z => ?_) (fun b z => ?_)
      · by_cases e : b = a
        · subst e
          exact Or.inr ⟨_, _, at_a⟩
        · exact Or.inl (off e)
      · by_cases e : b = a
        · subst e
          rw [at_a] at z
          obtain rfl := Option.some.inj z
          exact ⟨obj, by simpa using few, vs, _, vals, obj⟩
        · rw [off e] at z
          cases z
      · by_cases e : b = a
        · exact ⟨e, look⟩
        · exact (z (off e)).elim
  intro H only sq ok here
  have free : ∀ {b : Addr} {o : Obj}, s.heap.get? b = some o → o.data ≠ .seq vs.toArray → H b = none := fun {b o} e d => by
    rcases only b with z | ⟨_, _, z⟩
    · exact z
    · obtain ⟨rfl, _⟩ := here b (by rw [z]; simp)
      rw [obj] at e
      obtain rfl := Option.some.inj e
      exact (d rfl).elim
  have space : ∀ {b : Addr} {m : Str → Option Value}, s.heap.Ns b m → (hidT s.heap H).Ns b m := fun {b m} ⟨o, es, ep, e, d, r⟩ =>
    ⟨o, es, ep, hidT_get e (free e (by rw [d]; intro z; cases z)), d, r⟩
  have kIn2 : K.In (hidT s.heap H) := fun b o e => hidT_get (kIn b o e) (by
    rcases only b with z | ⟨_, _, z⟩
    · exact z
    · obtain ⟨rfl, n⟩ := here b (by rw [z]; simp)
      rw [n] at e
      cases e)
  obtain ⟨mc, l1, l2⟩ := lim
  have env : Env0 P w K mg (hidT s.heap H) callerA [] s H := {
    frames := rfl
    mod := ⟨kIn2, space glo, ⟨mb, space bns, bbo⟩, ⟨mc, space l1, l2⟩⟩
    bs := fun b o e => of_hidT e
    bsz := Nat.le_of_eq (hidT_size _ _)
    funs := trivial
    frf := fun b hb => by simp [frs] at hb
    hok := ok
    bare := .of_eq gen }
  refine codeAny_mono (run _ H kIn2 (space glo) env only sq) fun r s' z => ?_
  match r, z with
  | .error e, z => exact z.elim
  | .ok .next, z => exact z.elim
  | .ok .brk, z => exact z.elim
  | .ok .cont, z => exact z.elim
  | .ok (.ret u), ⟨v, H', os, bare, un, ok', rv, q⟩ =>
    subst q
    obtain rfl : u = Value.bool true := rv
    refine ⟨rfl, OldK.of_keep fun b o e => ?_, os, bare⟩
    rcases only b with z | ⟨ob, xs, z⟩
    · exact un.keep b o e z (by simp [frs]) (by simp)
    · have y1 := (ok b _ z).1
      have y2 := (ok' b _ (un.frzs b ob _ z)).1
      rw [e] at y1
      obtain rfl := Option.some.inj y1
      exact y2

/-- the goal that k_head leaves, from the law's body run at its caller -/
theorem walk {l : PySem.W.OpenLaw} {n : Nat} {q : Program} {loose : List Str} {XP : (Str → Option Value) → Heap → Prop} {YP : World → Heap → Prop} {d : DefRec} {K : Params → PySem.W.Frag}
    (most : l.most = some n) (few : n ≤ sizeLine) (dfl : d.params.defaults = []) (hY : ∀ (w : World) (h : Heap), YP w h → (K w.params).In h)
    (run : ∀ (w : World) (mg : Str → Option Value) (fa : Addr) (h : Heap), (K w.params).In h → h.Ns mainGlobals mg → mg d.name = some (.ref fa) →
      ∀ (s : Shared) (a : Addr) (ns : List Int) (base : Heap) (H : Hp), ns.length ≤ n → (K w.params).In base → base.Ns mainGlobals mg → Env0 l.prog w (K w.params) mg base callerA [] s H → Only H → SqL (K w.params) H a (ns.map V.int) →
        codeAny (model l.prog w) callerA (.call (.ref fa) ⟨[.ref a], []⟩) (CR CX0 [] l.prog w H s (fun v _ => v = .bl true) E0) s) :
    PySem.W.WalkO q loose XP YP l.row.toRowW d [] (fun f vs => PySem.call f vs) := by
  refine Att.attach_call most dfl fun w s₀ s₁ mg mb fa o pm cd doc a vs ns G Y ho hd hcd hmg hobj hints hlen hg => ?_
  have KX := hY w _ Y
  exact won KX G.T.g G.T.b G.T.builtins G.T.nolimit hg hobj hints (Nat.le_trans hlen few) fun base H b1 b2 e0 only sq => run w mg fa _ KX G.T.g hmg s₁ a ns base H hlen b1 b2 e0 only sq

/-- the law's def, by its body: what a body of Fun.ok is, with the caller told -/
theorem law_run {P : Program} {w : World} {K : PySem.W.Frag} {mg : Str → Option Value} {base : Heap} {x qual : Str} {st : Stmt} {f : Addr} {fd : FuncData} {N ps : List Str} {s : Shared} {H : Hp} {us : List Value} {vs : List V} {Q : VK}
    (F : Fun K x qual st f fd) (S : FnScope N ps (defScope st)) (e0 : Env0 P w K mg base callerA [] s H) (bind : Binds K fd ps []) (r : Vals vs us) (hl : vs.length = ps.length)
    (body : ∀ cdv : Value, ∃ t, PSs (cxOf CX0 P w K mg base N qual (defScope st) f cdv callerA [] s H E0).nox (defBody st) t ∧ t { nx := fun _ H' => Q .non H', rt := Q } (start N vs) H) :
    codeAny (model P w) callerA (.call (.ref f) ⟨us, []⟩) (CR CX0 [] P w H s Q E0) s := by
  obtain ⟨oc, od, kV, doc, pm, an, cdv, ct, osl, rfl, lk, hcd⟩ := F.ex
  obtain ⟨t, ht, hq⟩ := body cdv
  have keep : ∀ b o, base.get? b = some o → s.heap.get? b = some o := fun b o e => (e0.bs b o e).1
  have kIn := e0.mod.kin.keeps keep
  have ul : us.length = ps.length := by rw [← r.length]; exact hl
  have hb := bind s us kIn (by simpa using ul)
  rw [List.append_nil] at hb
  refine codeAny_call_function (by decide) (kIn _ _ lk) rfl S.co S.gen rfl (PySem.W.codeRec_of kIn hcd) (hb _ _ _ _ ?_)
  refine wpAny_newFunctionEnv_cells S.kind (fun ⟨y, v⟩ hy => ?_) fun env he s1 z => ?_
  · have := S.par y (List.of_mem_zip hy).1
    rcases this with q | q
    · exact Or.inl q
    · exact Or.inr ⟨q, PySem.W.cellsFrom_some _ _ _ (Or.inl q)⟩
  · subst he
    refine ⟨(e0.mod.nolimit.keeps keep).keeps z.toInCall.keep, codeAny_func ?_⟩
    have I : Inv (cxOf CX0 P w K mg base N qual (defScope st) f cdv callerA [] s H E0) [] (start N vs) H s1 := inv_start S rfl e0 hl r z
    refine wpAny_mono (ht.nox.run [] s1 _ H _ I hq) (fun fl s' y => ?_) fun _ _ y => y
    match fl, y with
    | .ret u, ⟨v, σ', H', J, rv, q⟩ => exact ⟨v, H', J.os, J.bare, J.base, J.hok, rv, q⟩
    | .next, ⟨σ', H', J, q⟩ => exact ⟨.non, H', J.os, J.bare, J.base, J.hok, rfl, q⟩
    | .brk, ⟨_, _, _, q⟩ => exact q.elim
    | .cont, ⟨_, _, _, q⟩ => exact q.elim

/-- no repr runs around the law's own body -/
theorem calm_guards {P : Program} {w : World} {K : PySem.W.Frag} {mg : Str → Option Value} {base : Heap} {N : List Str} {qual : Str} {sc : Scope} {f : Addr} {cdv : Value} {s : Shared} {H : Hp} :
    (cxOf CX0 P w K mg base N qual sc f cdv callerA [] s H E0).nox.A.guards = some [] := rfl

/-! ### repr of data -/
section
variable {X : Cx}
def rRepr (K : PySem.W.Frag) : List V → Hp → VK → Prop := fun xs H Q =>
  ∃ (x : V) (d : PyData), xs = [x] ∧ Dp K H x d ∧ d.showable = true ∧ d.hasDict = false ∧ d.depth ≤ 20 ∧ d.shown.length ≤ sizeLine ∧ Q (.str d.shown) H
theorem call_repr (gu : X.A.guards = some []) (un : X.A.units + 64 < cLine) : CallR X (.builtin "repr") (rRepr X.K) := by
  intro pins s σ H xs us Q I r h
  obtain ⟨x, d, rfl, dp, sh, nd, de, sz, q⟩ := h
  obtain ⟨u, rfl, r1⟩ := vals1 r
  obtain ⟨as, rd⟩ := Dp.reads I d x u dp r1
  have fin : ∀ (h' : Heap) (v : Tok) (tk : Nat), (∀ b o, s.heap.get? b = some o → h'.get? b = some o) → EP X pins σ Q (.str d.shown v) { s with heap := h', toks := tk } :=
    fun h' v tk k => ⟨.str d.shown, H, I.kept k, ⟨v, rfl⟩, q⟩
  cases dp with
  | non =>
    cases r1
    exact PySem.P.repr_of_none (fin s.heap _ _ fun _ _ e => e)
  | bl b =>
    cases r1
    exact PySem.P.repr_of_bool (fin s.heap _ _ fun _ _ e => e)
  | int i =>
    obtain ⟨t, rfl⟩ := r1
    refine PySem.P.repr_of_int (by simpa [PyData.showable] using sh) ?_
    have := fin s.heap s.toks (s.toks + 1) fun _ _ e => e
    simpa only [PyData.shown] using this
  | str y =>
    obtain ⟨t, rfl⟩ := r1
    have := fin s.heap s.toks (s.toks + 1) fun _ _ e => e
    simp only [PyData.shown] at this sz
    exact PySem.P.repr_of_str this sz
  | lst hs ha =>
    cases r1
    exact repr_of_reads' rd sh (fun z => by rw [nd] at z; cases z) gu (by omega) (fun _ _ e => e) fin sz
  | tup hs ha =>
    cases r1
    exact repr_of_reads' rd sh (fun z => by rw [nd] at z; cases z) gu (by omega) (fun _ _ e => e) fin sz
end
end Cal

/-! An own exception of any built-in base made by a call with positional values and keywords: __new__ lays it, its own __init__ runs. -/
namespace Exn
open PySem PySem.Calls PyProof.Rows PySem.Spec
/-- what the classes above an own exception class must be: the one that makes it, no AttributeError, no NameError -/
structure Tail (bm : List Value) (B : String) : Prop where
  has : bm.contains (.type B) = true
  noA : bm.contains (.type "AttributeError") = false
  noN : bm.contains (.type "NameError") = false
section
variable {M : Model} {A : Around} {E : Value → Shared → Prop} {h : Heap} {g : Array GenState} {d : Drawn} {t : Nat} {os : OsState}
variable {nm q : Str} {C N : Addr} {bs bm bmB : List Value} {hd : Bool} {sn : List Str} {sub : List Value} {ab : Bool} {col : Option Bool} {dd : Option Addr}
  {k0 k1 k2 k3 k5 : Option Value} {B newId initId : String} {prog : Program} {w : World} {R : Result → Shared → Prop}

theorem chk_new (F : ExcBaseFacts B newId initId bmB) (tail : Tail bm B) {us : List Value} {kw : List (Str × Value)} {Q : Unit → Shared → Prop}
    (at_C : h.get? C = some (excClassObj nm q C N bs bm hd sn sub ab col dd k0 k1 k2 k3 k5 newId)) (k : Q () ⟨h, g, d, t, os⟩) :
    wpAny M A (checkBuiltinCall newId ⟨.ref C :: us, kw⟩) Q E ⟨h, g, d, t, os⟩ := by
  have has : (Value.ref C :: bm).contains (.type B) = true := by
    rw [List.contains_cons, tail.has]
    exact Bool.or_true _
  have star := F.noStar
  simp only [F.newRow, F.newSplit, F.newKind, checkBuiltinCall]
  repeat (first
    | refine wpAny_loadPart_at at_C ?_
    | (refine wpAny_isSubtype_exc at_C ?_; rw [has])
    | refine wpAny_staticBase_exc at_C ?_
    | refine wpAny_madeBy_exc at_C ?_
    | simp only [Bool.false_eq_true, bne_self_eq_false, if_false]
    | wp_step)
  exact k

theorem new_kw (F : ExcBaseFacts B newId initId bmB) (tail : Tail bm B) {us : List Value} {kw : List (Str × Value)}
    (at_C : h.get? C = some (excClassObj nm q C N bs bm hd sn sub ab col dd k0 k1 k2 k3 k5 newId)) (few : us.length ≤ sizeLine)
    (k : R (.ok (.ret (.ref (h.objs.size + 1)))) ⟨(h.push (PySem.W.kdv_tup us)).push (PySem.HandSPX.excO C h.objs.size), g, d, t, os⟩) :
    codeAny (model prog w) A (.builtin newId ⟨.ref C :: us, kw⟩) R ⟨h, g, d, t, os⟩ := by
  have e0 := F.ends
  have inB : (Value.ref C :: bm).contains (.type B) = true := by
    rw [List.contains_cons, tail.has]
    exact Bool.or_true _
  have noA : (Value.ref C :: bm).contains (.type "AttributeError") = false := by
    rw [List.contains_cons, tail.noA]
    rfl
  have noN : (Value.ref C :: bm).contains (.type "NameError") = false := by
    rw [List.contains_cons, tail.noN]
    rfl
  refine codeAny_builtinAt F.entry ?_
  unfold Builtin.«BaseException.__new__»
  refine PySem.wpAt_bind ?_
  show PySem.wpAt _ _ _ (stack >>= _) _ _ _
  refine PySem.wpAt_bind (PySem.wpAt_stack fun p below => PySem.wpAt_of_wpAny ?_)
  wp_walk
  refine PySem.wpAt_of_wpAny ?_
  rw [F.owner]
  repeat (first
    | with_reducible refine wpAny_madeHere_exc F.canon at_C ?_
    | with_reducible refine wpAny_loadPart_at at_C ?_
    | (with_reducible refine wpAny_isSubtype_exc at_C ?_; first | rw [inB] | rw [noA] | rw [noN])
    | wp_step)
  show R _ _
  rw [Heap.size_push]
  exact k

/-- C(us, kw): the exception is laid, then its own __init__ runs -/
theorem type_call_kw (F : ExcBaseFacts B newId initId bmB) (tail : Tail bm B) {us : List Value} {kw : List (Str × Value)} {fI : Addr} {Q : Fin → Shared → Prop}
    (at_C : h.get? C = some (excClassObj nm q C N bs bm hd sn sub ab col dd k0 k1 k2 k3 k5 newId)) (few : us.length ≤ sizeLine)
    (init : W.Looks (model prog w) h (typeLookup (.ref C) "__init__") (some (.ref fI))) (bind : ∀ self, W.Looks (model prog w) h (bindSpecial (.ref fI) self) (.ref fI, [self]))
    (k : codeAny (model prog w) A (.call (.ref fI) ⟨.ref (h.objs.size + 1) :: us, kw⟩)
      (fun r s' => match r with | .ok (.ret v) => v = .none ∧ Q (.done (.ret (.ref (h.objs.size + 1)))) s' | .ok _ => False | .error e => E e s')
      ⟨(h.push (W.kdv_tup us)).push (HandSPX.excO C h.objs.size), g, d, t, os⟩) :
    wpAny (model prog w) A (Builtin.«type.__call__» ⟨.ref C :: us, kw⟩) Q E ⟨h, g, d, t, os⟩ := by
  have kept : ∀ b o, h.get? b = some o → ((h.push (W.kdv_tup us)).push (HandSPX.excO C h.objs.size)).get? b = some o :=
    fun b o e => Heap.get?_push_of_some _ (Heap.get?_push_of_some _ e)
  have made : ((h.push (W.kdv_tup us)).push (HandSPX.excO C h.objs.size)).get? (h.objs.size + 1) = some (HandSPX.excO C h.objs.size) := by
    heap_get
  have at_C2 := kept _ _ at_C
  have own : (Value.ref C :: bm).contains (.ref C) = true := by simp
  have init2 := init.keeps kept
  have bind2 := (bind (.ref (h.objs.size + 1))).keeps kept
  repeat (first
    | with_reducible refine wpAny_loadPart_at at_C ?_
    | with_reducible refine wpAny_madeBy_exc at_C ?_
    | wp_step)
  refine codeAny_call_builtin_code (Code.quiet_builtin _ F.quiet) (chk_new F tail at_C (new_kw F tail at_C few ?_))
  show wpAny _ _ _ _ _ _
  unfold isInstance
  repeat (first
    | with_reducible refine wpAny_loadPart_at made ?_
    | (with_reducible refine wpAny_isSubtype_exc at_C2 ?_; rw [own])
    | wp_step)
  show wpAny _ _ (typeLookup (.ref C) _) _ _ _
  refine init2.at (wpAny_holding (wpAny_bind (bind2.at ?_)))
  refine wpAny_bind (wpAny_call (codeAny_mono k fun r s' z => ?_))
  match r, z with
  | .error e, z => exact z
  | .ok .next, z => exact z.elim
  | .ok .brk, z => exact z.elim
  | .ok .cont, z => exact z.elim
  | .ok (.ret v), ⟨e, z⟩ =>
    subst e
    first
      | exact wpAny_pure (wpAny_pure z)
      | (wp_walk; exact z)

theorem call_kw (F : ExcBaseFacts B newId initId bmB) (tail : Tail bm B) {us : List Value} {kw : List (Str × Value)} {fI : Addr}
    (at_C : h.get? C = some (excClassObj nm q C N bs bm hd sn sub ab col dd k0 k1 k2 k3 k5 newId)) (few : us.length ≤ sizeLine)
    (init : W.Looks (model prog w) h (typeLookup (.ref C) "__init__") (some (.ref fI))) (bind : ∀ self, W.Looks (model prog w) h (bindSpecial (.ref fI) self) (.ref fI, [self]))
    (k : codeAny (model prog w) (A.under (.builtin "type.__call__" ⟨.ref C :: us, kw⟩)) (.call (.ref fI) ⟨.ref (h.objs.size + 1) :: us, kw⟩) (W.InitBack (h.objs.size + 1) R)
      ⟨(h.push (W.kdv_tup us)).push (HandSPX.excO C h.objs.size), g, d, t, os⟩) :
    codeAny (model prog w) A (.call (.ref C) ⟨us, kw⟩) R ⟨h, g, d, t, os⟩ := by
  have l1 := tc_lookup
  have l2 := tc_bind (.ref C)
  have ty : (⟨h, g, d, t, os⟩ : Shared).TypeIs (.ref C) "type" := ⟨_, at_C, rfl⟩
  refine codeAny_of_tree ?_
  show wpAny _ _ (callAny (.ref C) _) _ _ _
  repeat (any_goals (first | assumption | with_reducible refine wpAny_loadPart_at at_C ?_ | wp_step))
  refine ⟨rfl, codeAny_call_builtin_at (Code.quiet_builtin _ (by decide +kernel)) entry_typeCall ?_⟩
  have chk : ∀ {Q : Unit → Shared → Prop} {A' : Around} {E' : Value → Shared → Prop}, Q () ⟨h, g, d, t, os⟩ → wpAny (model prog w) A' (checkBuiltinCall "type.__call__" ⟨.ref C :: us, kw⟩) Q E' ⟨h, g, d, t, os⟩ := by
    intro Q A' E' hq
    have l3 := tc_sub
    simp only [tc_split, tc_kind, checkBuiltinCall]
    repeat (any_goals (first | assumption | with_reducible refine wpAny_loadPart_at at_C ?_ | with_reducible refine wpAny_onRaise ?_ | with_reducible refine wpAny_map ?_ | wp_step))
  refine chk (type_call_kw F tail at_C few init bind (codeAny_mono k fun r s' z => ?_))
  match r, z with
  | .error e, z => exact z
  | .ok .next, z => exact z.elim
  | .ok .brk, z => exact z.elim
  | .ok .cont, z => exact z.elim
  | .ok (.ret v), z => exact z
end
end Exn

namespace Exn
open PySem PySem.Spec PyProof.Rows L2

/-- what the written part says of an own exception class over a built-in one, whose mro is bmB; B: the built-in one whose __new__ makes it -/
structure Ecl (K : W.Frag) (C : Addr) (B newId initId : String) (bmB : List Value) : Prop where
  base : ∃ bm, ExcBaseFacts B newId initId bm
  tail : Tail bmB B
  store : ∃ B', StoreFacts B' bmB "object.__setattr__" "object"
  made : W.excInitIn K C bmB newId = true
  over : W.excOver K C bmB = true
  sa : W.findIn K (.ref C) "__setattr__" = some (some (.builtin "object.__setattr__"))
  ga : W.findIn K (.ref C) "__getattribute__" = some (some (.builtin "BaseException.__getattribute__"))
  gt : W.findIn K (.ref C) "__getattr__" = some none
  hd : W.hasDictIn K C = true
  sub : W.subIn K (.ref C) (.type "BaseException") = some true
  ca : W.findIn K (.ref C) "__class__" = some (some (.builtin "object.__class__"))
  mo : W.mroIn K C (.type "object") = some true
  kp : W.keepIn K (.ref C) = true

theorem Tail.of {bm bmB : List Value} {B : String} (t : Tail bmB B) (e : ∀ Y : String, bm.contains (.type Y) = bmB.contains (.type Y)) : Tail bm B := ⟨by rw [e]; exact t.has, by rw [e]; exact t.noA, by rw [e]; exact t.noN⟩
section
variable {prog : Program} {w : World} {A : Around} {E : Value → Shared → Prop} {R : Result → Shared → Prop} {hp : Heap} {g : Array GenState} {d : Drawn} {t : Nat} {os : OsState}
variable {K : W.Frag} {C : Addr} {B newId initId : String} {bmB : List Value}
theorem store_first {x t0 : Addr} {f : Str} {tk : Tok} {v : Value} (T : Ecl K C B newId initId bmB) (X : K.In hp) (at_x : hp.get? x = some (W.excObj C t0 none .none)) (no : W.findIn K (.ref C) f = some none)
    (k : ∀ h' tk' dx, (∀ b o, b ≠ x → hp.get? b = some o → h'.get? b = some o) → hp.objs.size ≤ dx → dx ≠ x → h'.get? x = some (W.excObj C t0 (some dx) .none) → h'.Ns1 dx (fun y => if y = f then some v else none) →
      R (.ok (.ret .none)) ⟨h', g, d, tk', os⟩) :
    codeAny (model prog w) A (.call (.builtin "object.__setattr__") ⟨[.ref x, .str f tk, v], []⟩) R ⟨hp, g, d, t, os⟩ := by
  obtain ⟨cd, hc, hdict⟩ := W.any_some T.hd
  obtain ⟨B', SF⟩ := T.store
  have ne : x ≠ hp.objs.size := Nat.ne_of_lt (Heap.lt_size at_x)
  have I : W.InstAt hp x (W.excObj C t0 none .none) C none := ⟨at_x, rfl, rfl, trivial⟩
  refine W.osa_openX (s := ⟨hp, g, d, t, os⟩) SF X I T.over (NoAttr.taker no) fun b => ?_
  refine wpAny_bind (wpAny_pure (wpAny_bind (W.instanceDict_exc at_x (W.looks_clsIn X hc) hdict ?_)))
  show wpAny _ _ (Builtin.ObjectAttr.storeInDict hp.objs.size (.str f tk) f v) _ _ _
  refine HandSPX.store_in_new ?_ fun h' tk' ns same => ?_
  · refine ⟨_, #[], 0, (Heap.get?_update_ne _ _ _ _ (Ne.symm ne)).trans (Heap.get?_push_at rfl rfl), rfl, fun e he => ?_, fun _ => rfl⟩
    simp at he
  · have px : (hp.push (W.dictOf [] 0)).get? x = some (W.excObj C t0 none .none) := Heap.get?_push_of_some _ at_x
    refine k h' tk' hp.objs.size (fun b o hb ho => ?_) (Nat.le_refl _) (Ne.symm ne) ?_ ns
    · have hb2 : b ≠ hp.objs.size := Nat.ne_of_lt (Heap.lt_size ho)
      rw [same.2 b hb2, Heap.get?_update_ne _ _ _ _ hb]
      exact Heap.get?_push_of_some _ ho
    · rw [same.2 x ne]
      exact Heap.get?_update_self _ px rfl
end

section
variable {X : Cx} {pins : List (Addr × Obj)} {σ : L2.St} {H : Hp} {s : Shared} {A : Around} {E : Value → Shared → Prop}
variable {C : Addr} {B newId initId : String} {bmB : List Value}
/-- self.f = y in an own __init__ -/
theorem keep_one {a : Addr} {f : Str} {y : V} {u : Value} {Q : Unit → Shared → Prop} (T : Ecl X.K C B newId initId bmB) (I : Inv X pins σ H s) (e : H a = some (exo a C none)) (no : W.findIn X.K (.ref C) f = some none) (ry : RelV y u)
    (k : ∀ dx s', H dx = none → dx ≠ a → Inv X pins σ (upd (upd H dx (exd dx [(f, y)])) a (exo a C (some dx))) s' → Q () s') :
    wpAny (model X.prog X.w) A (setAttr (.ref a) f u) Q E s := by
  obtain ⟨t0, at_a⟩ := exo_at I.hok e
  obtain ⟨hp, g, d, t, os⟩ := s
  refine W.set_plain I.kIn (ox := W.excObj C t0 none .none) (od := none) ⟨at_a, rfl, rfl, trivial⟩ T.sa ?_
  refine store_first T I.kIn at_a no fun h' tk' dx keep big ne at_x ns => ?_
  have free : H dx = none := I.hok.fresh big
  have old : ∀ {b : Addr} {o : Obj}, hp.get? b = some o → b ≠ dx := fun {b o} z =>
    Nat.ne_of_lt (Nat.lt_of_lt_of_le (Heap.lt_size z) big)
  have off : ∀ {b : Addr}, H b = none → b ≠ a := fun {b} z y => by
    subst y
    rw [e] at z
    cases z
  have at_d : ∀ {b : Addr} {o : HO}, H b = some o → b ≠ dx := fun {b o} z y => by
    subst y
    rw [free] at z
    cases z
  have un : Un X.fs [] H (upd (upd H dx (exd dx [(f, y)])) a (exo a C (some dx))) hp h' := by
    constructor
    · exact fun b o z n _ _ => keep b o (off n) z
    · exact fun b o z n _ _ => ⟨o.slots, keep b o (off n) z⟩
    · intro b o z n _
      rw [upd_ne (off n), upd_ne (old z)]
      exact n
    · intro b o z _
      by_cases q : b = a
      · exact ⟨_, q ▸ at_x⟩
      · exact ⟨o, keep b o q z⟩
    · intro b xs z
      rw [upd_ne (at_ne e z exo_tup), upd_ne (at_d z)]
      exact z
    · intro b o v z
      rw [upd_ne (at_ne e z exo_frz), upd_ne (at_d z)]
      exact z
    · intro b ps z
      refine ⟨#[], ?_⟩
      rw [upd_ne (at_ne e z exo_tbl), upd_ne (at_d z), z]
      simp
  refine k dx _ free ne (I.un (t' := tk') un fun b o z => ?_)
  by_cases q : b = a
  · subst q
    rw [upd_same] at z
    obtain rfl := Option.some.inj z
    exact exo_ok at_x
  · rw [upd_ne q] at z
    by_cases q2 : b = dx
    · subst q2
      rw [upd_same] at z
      obtain rfl := Option.some.inj z
      exact exd_ok ns (relO_put (fs := []) ry fun _ => True.intro)
    · rw [upd_ne q2] at z
      refine (I.hok b o z).stay (fun c v hc y => keep c v ?_ y) (fun c hc => ?_) (fun c xs hc => ?_)
      · rcases hc with hc | hc
        · exact hc ▸ q
        · exact at_ne e hc exo_own
      · rw [upd_ne (at_ne e hc exo_own), upd_ne (at_d hc)]
        exact hc
      · rw [upd_ne (at_ne e hc exo_tup), upd_ne (at_d hc)]
        exact hc

theorem ps_keep {o e : Expr} {to te : TE} {f : Str} {p' pos : Pos} (T : Ecl X.K C B newId initId bmB) (no : W.findIn X.K (.ref C) f = some none) (ho : PE X o to) (he : PE X e te)
    (hs : swapsWith e (some (.Attribute o f p')) pos.line X.env = pure false := by rfl) :
    PS X (.Assign [.Attribute o f p'] e pos) (fun D σ H => te σ H fun y H1 => to σ H1 fun x H2 => ∃ a, x = .ref a ∧ H2 a = some (exo a C none) ∧
      ∀ dx, H2 dx = none → dx ≠ a → D.nx σ (upd (upd H2 dx (exd dx [(f, y)])) a (exo a C (some dx)))) := by
  refine ⟨fun pins s σ H D I h => plainObj_wpAny_Assign_Attribute ?_ hs⟩
  refine thn (he.run pins s σ H _ I h) fun v s1 ⟨y, H1, I1, r1, q1⟩ => ?_
  refine thn (ho.run pins s1 σ H1 _ I1 q1) fun u s2 ⟨x, H2, I2, r2, a, ex, ea, q⟩ => ?_
  subst ex
  obtain rfl : u = Value.ref a := r2
  exact keep_one T I2 ea no r1 fun dx s' n ne J => ⟨σ, _, J, q dx n ne⟩

/-- such an object stands at a -/
theorem inst_at {a : Addr} {dx : Addr} {fs : List (Str × V)} (I : Inv X pins σ H s) (e : H a = some (exo a C (some dx))) (ed : H dx = some (exd dx fs)) :
    ∃ ox od mA, W.InstAt s.heap a ox C (some od) ∧ s.heap.Ns1 dx mA ∧ s.heap.get? dx = some od ∧ ∀ f, RelO (fs.lookup f) (mA f) := by
  obtain ⟨t0, at_a⟩ := exo_at I.hok e
  obtain ⟨mA, ns, rel⟩ := exd_at I.hok ed
  obtain ⟨o, es, ep, ho, r⟩ := ns
  exact ⟨_, o, mA, ⟨at_a, rfl, rfl, ho⟩, ⟨o, es, ep, ho, r⟩, ho, rel⟩

/-- what an instance of an own exception class is, with a dict of its own or without -/
def Bare (C : Addr) (H : Hp) (a : Addr) : Prop := H a = some (exo a C none) ∨ ∃ dx fs, H a = some (exo a C (some dx)) ∧ H dx = some (exd dx fs)

structure ClsGet (K : W.Frag) : Prop where
  get : W.specialIn K (.builtin "object.__class__") "__get__" = some (some (.builtin "getset_descriptor.__get__"))
  takes : W.takesIn K (.builtin "object.__class__") = some true

theorem cls_some {K : W.Frag} {C : Addr} (h : W.hasDictIn K C = true) : (W.clsIn K C).isSome = true := by
  obtain ⟨cd, hc, _⟩ := W.any_some h
  rw [hc]
  rfl

/-- isinstance(e, c) of such an instance -/
theorem call_isE (T : Ecl X.K C B newId initId bmB) (G : ClsGet X.K) :
    CallR X (.builtin "isinstance") (fun xs H Q => ∃ (a : Addr) (c : V) (u : Value) (b : Bool), xs = [.ref a, c] ∧ ClsV c u ∧ Bare C H a ∧ W.kitOne X.K (.ref C) u = some b ∧ Q (.bl b) H) := by
  intro pins s σ H xs us Q I r h
  obtain ⟨a, c, u, b, rfl, k, bare, e, q⟩ := h
  obtain ⟨u1, u2, rfl, r1, r2⟩ := vals2 r
  have e2 := k.eq r2
  subst e2
  obtain rfl : u1 = Value.ref a := r1
  have fin : ∀ tk, EP X pins σ Q (.bool b) { s with toks := tk } := fun tk => ⟨.bl b, H, I.tok tk, rfl, q⟩
  rcases bare with ea | ⟨dx, fs, ea, ed⟩
  · obtain ⟨t0, at_a⟩ := exo_at I.hok ea
    exact W.kia_one (W.kitx_exc (ox := W.excObj C t0 none .none) (od := none) (cls_some T.hd) T.ga T.gt T.sub T.ca G.get G.takes T.mo) I.kIn ⟨at_a, rfl, rfl, trivial⟩ e (fun z => nomatch z) fin
  · obtain ⟨ox, od, mA, J, _⟩ := inst_at I ea ed
    exact W.kia_one (W.kitx_exc (ox := ox) (od := some od) (cls_some T.hd) T.ga T.gt T.sub T.ca G.get G.takes T.mo) I.kIn J e (fun z => nomatch z) fin

/-- e.f of such an instance -/
theorem pe_at {o : Expr} {to : TE} {f : Str} {pos : Pos} (T : Ecl X.K C B newId initId bmB) (no : W.findIn X.K (.ref C) f = some none) (ho : PE X o to) (hb : attributeBase o f X.env (eval o X.env) = eval o X.env := by rfl) :
    PE X (.Attribute o f pos) (fun σ H Q => to σ H fun x H1 => ∃ a dx fs v, x = .ref a ∧ H1 a = some (exo a C (some dx)) ∧ H1 dx = some (exd dx fs) ∧ fs.lookup f = some v ∧ Q v H1) := by
  refine ⟨fun pins s σ H Q I h => attr_of hb ?_⟩
  refine thn (ho.run pins s σ H _ I h) fun u s1 ⟨x, H1, I1, rx, a, dx, fs, v, ex, ea, ed, l, q⟩ => ?_
  subst ex
  obtain rfl : u = Value.ref a := rx
  obtain ⟨ox, od, mA, J, ns, hod, rel⟩ := inst_at I1 ea ed
  obtain ⟨od', ho', hl⟩ := lookIn_ns ns
  rw [hod] at ho'
  obtain rfl := Option.some.inj ho'
  have r2 := rel f
  rw [l] at r2
  obtain ⟨u', hu, ru⟩ := RelO.some_of (v := v) (o := mA f) r2
  refine HandSPX.exc_get I1.kIn J T.ga T.gt T.sub (W.findObj_own T.hd no rfl ?_) (handed_of ru) ⟨v, H1, I1.tok _, ru, q⟩
  rw [hl, hu]
end
end Exn

namespace Exn
open PySem PySem.Spec PyProof.Rows L2

/-- def __init__(self, f): self.f = f -/
def spKeep (C : Addr) (f : Str) : Sp := fun vs H Q _ => ∃ (a : Addr) (v : V), vs = [.ref a, v] ∧ H a = some (exo a C none) ∧
  ∀ dx, H dx = none → dx ≠ a → Q .non (upd (upd H dx (exd dx [(f, v)])) a (exo a C (some dx)))
/-- def __init__(self): pass -/
def spBare (C : Addr) : Sp := fun vs H Q _ => ∃ a : Addr, vs = [.ref a] ∧ H a = some (exo a C none) ∧ Q .non H

section
variable {P : Program} {w : World} {K : W.Frag} {mg : Str → Option Value} {base : Heap} {C : Addr} {B newId initId : String} {bmB : List Value}
theorem ok_keep {f : Str} {p1 p2 p3 p4 : Pos} {qual : Str} {st : Stmt} {fI : Addr} {fd : FuncData} (F : Fun K "__init__" qual st fI fd) (T : Ecl K C B newId initId bmB) (no : W.findIn K (.ref C) f = some none)
    (hB : defBody st = [.Assign [.Attribute (.Name "self" p1) f p2] (.Name f p3) p4]) (S : FnScope ["self", f] ["self", f] (defScope st)) (v0 : Vis (defScope st) "self") (v1 : Vis (defScope st) f)
    (n1 : (f == ("__debug__" : Str)) = false) (n2 : (f == ("__classdict__" : Str)) = false) : FnOk P w K mg base CX0 1 fI fd ["self", f] (spKeep C f) := by
  refine F.ok S (fun vs H Q E h => ?_) (fun cdv A outer s H vs Q E hr h => ?_)
  · obtain ⟨a, v, rfl, _⟩ := h
    rfl
  · obtain ⟨a, v, rfl, ea, k⟩ := h
    rw [hB]
    refine ⟨_, pss_one (ps_keep T no (pv 0 rfl v0) (pv 1 rfl v1 n1 n2)), ?_⟩
    exact ⟨v, rfl, .ref a, rfl, a, rfl, ea, fun dx n ne => k dx n ne⟩
theorem ok_bare {p4 : Pos} {qual : Str} {st : Stmt} {fI : Addr} {fd : FuncData} (F : Fun K "__init__" qual st fI fd)
    (hB : defBody st = [.Pass p4]) (S : FnScope ["self"] ["self"] (defScope st)) : FnOk P w K mg base CX0 1 fI fd ["self"] (spBare C) := by
  refine F.ok S (fun vs H Q E h => ?_) (fun cdv A outer s H vs Q E hr h => ?_)
  · obtain ⟨a, rfl, _⟩ := h
    rfl
  · obtain ⟨a, rfl, ea, k⟩ := h
    rw [hB]
    exact ⟨_, pss_one ps_pass, k⟩
end

section
variable {X : Cx} {pins : List (Addr × Obj)} {σ : L2.St} {H : Hp} {s : Shared}
variable {C fI : Addr} {B newId initId : String} {bmB : List Value} {k : Nat} {fd : FuncData} {ps : List Str} {sp : Sp}
/-- C(..) of an own exception class: the new exception is handed back -/
theorem run_exn {us ws : List Value} {vs : List V} {kw : List (Str × Value)} {Q : VK} (T : Ecl X.K C B newId initId bmB) (iC : W.findIn X.K (.ref C) "__init__" = some (some (.ref fI))) (tI : W.typeIn X.K (.ref fI) = some (.type "function"))
    (G : FnOk X.prog X.w X.K X.mg X.base CX0 k fI fd ps sp) (hr : Room (k + 1) X.A) (bd : ∀ (s : Shared) (a : Addr), BindsTo s fd ⟨.ref a :: us, kw⟩ (ps.zip (.ref a :: ws))) (r : Vals vs ws) (few : us.length ≤ sizeLine) (I : Inv X pins σ H s)
    (h : ∀ a, H a = none → sp (.ref a :: vs) (upd H a (exo a C none)) (fun v H2 => v = .non ∧ Q (.ref a) H2) E0) :
    wpAny (model X.prog X.w) X.A (call (.ref C) us kw) (EP X pins σ Q) X.xe s := by
  obtain ⟨nm, N, qn, bs, bm, hd, sn, sub, ab, col, dd, k0, k1, k2, k3, k5, at_C, tail⟩ := W.excInit_of I.kIn T.made
  obtain ⟨bm0, base⟩ := T.base
  obtain ⟨hp, g, dr, tk, os⟩ := s
  have big : hp.objs.size ≤ hp.objs.size + 1 := Nat.le_succ _
  have new := h (hp.objs.size + 1) (I.hok.fresh big)
  have kept : ∀ b o, hp.get? b = some o → ((hp.push (W.kdv_tup us)).push (HandSPX.excO C hp.objs.size)).get? b = some o :=
    fun b o e => Heap.get?_push_of_some _ (Heap.get?_push_of_some _ e)
  have made : ((hp.push (W.kdv_tup us)).push (HandSPX.excO C hp.objs.size)).get? (hp.objs.size + 1) = some (HandSPX.excO C hp.objs.size) := by
    heap_get
  have J : Inv X pins σ (upd H (hp.objs.size + 1) (exo (hp.objs.size + 1) C none)) ⟨(hp.push (W.kdv_tup us)).push (HandSPX.excO C hp.objs.size), g, dr, tk, os⟩ :=
    I.laid (t' := tk) kept big (exo_ok made)
  have r2 : Vals (V.ref (hp.objs.size + 1) :: vs) (Value.ref (hp.objs.size + 1) :: ws) := .cons rfl r
  refine wpAny_call (call_kw base (T.tail.of tail) at_C few (W.looks_findIn I.kIn iC) (fun self => W.bind_fn I.kIn self tI) ?_)
  refine codeAny_mono (G.run _ X.stack _ _ ⟨Value.ref (hp.objs.size + 1) :: us, kw⟩ _ _ _ E0 (hr.make C us kw) (J.env0.make C us kw) (bd _ _) r2 new) fun r s' z => ?_
  match r, z with
  | .error e, z => exact z.elim
  | .ok .next, z => exact z.elim
  | .ok .brk, z => exact z.elim
  | .ok .cont, z => exact z.elim
  | .ok (.ret u), z =>
    obtain ⟨v, H', J2, rv, ev, q⟩ := J.after z
    subst ev
    refine ⟨rv, ⟨V.ref (hp.objs.size + 1), H', ?_, rfl, q⟩⟩
    refine ⟨J2.ok, J2.os, J2.bare, J2.base, J2.loc, J2.cell, J2.free, J2.freeC, J2.pin, J2.hok, J2.len⟩
end
end Exn

namespace Exn
open PySem PySem.Spec PyProof.Rows L2

/-- an own exception class whose __init__ keeps one thing, by the name x of the module -/
structure Cl1 (P : Program) (w : World) (K : W.Frag) (mg : Str → Option Value) (base : Heap) (x : Str) (C : Addr) (f : Str) (B newId initId : String) (bmB : List Value) : Prop where
  T : Ecl K C B newId initId bmB
  no : W.findIn K (.ref C) f = some none
  m : mg x = some (.ref C)
  ty : W.typeIn K (.ref C) = some (.type "type")
  run : ∃ fI fd, W.findIn K (.ref C) "__init__" = some (some (.ref fI)) ∧ W.typeIn K (.ref fI) = some (.type "function") ∧ FnOk P w K mg base CX0 1 fI fd ["self", f] (spKeep C f) ∧
    (∀ (s : Shared) (a u : Value), BindsTo s fd ⟨[a, u], []⟩ [("self", a), (f, u)]) ∧ ∀ (s : Shared) (a u : Value), BindsTo s fd ⟨[a], [(f, u)]⟩ [("self", a), (f, u)]

/-- where a made exception stands -/
def made (H : Hp) (C : Addr) (f : Str) (v : V) (a dx : Addr) : Hp := upd (upd H dx (exd dx [(f, v)])) a (exo a C (some dx))
theorem made_eq {H : Hp} {C : Addr} {f : Str} {v : V} {a dx : Addr} (ne : dx ≠ a) : upd (upd (upd H a (exo a C none)) dx (exd dx [(f, v)])) a (exo a C (some dx)) = made H C f v a dx := by
  funext b
  unfold made
  by_cases h1 : b = a
  · rw [h1, upd_same, upd_same]
  · rw [upd_ne h1, upd_ne h1]
    by_cases h2 : b = dx
    · rw [h2, upd_same, upd_same]
    · rw [upd_ne h2, upd_ne h2, upd_ne h1]
/-- C(v): what is asked -/
def tExn (C : Addr) (f : Str) (te : TE) : TE := fun σ H Q => te σ H fun u H1 => ∃ v, [u] = [v] ∧ ∀ a dx, H1 a = none → H1 dx = none → dx ≠ a → Q (.ref a) (made H1 C f v a dx)

section
variable {X : Cx} {C : Addr} {x f : Str} {B newId initId : String} {bmB : List Value} {e : Expr} {te : TE} {p kp pos : Pos}
theorem sp_made {H : Hp} {v : V} {Q : VK} (q : ∀ a dx, H a = none → H dx = none → dx ≠ a → Q (.ref a) (made H C f v a dx)) (a : Addr) (na : H a = none) :
    spKeep C f [.ref a, v] (upd H a (exo a C none)) (fun u H2 => u = .non ∧ Q (.ref a) H2) E0 := by
  refine ⟨a, v, rfl, upd_same, fun dx nd ne => ⟨rfl, ?_⟩⟩
  rw [made_eq ne]
  rw [upd_ne ne] at nd
  exact q a dx na nd ne
theorem pe_exn (c : Cl1 X.prog X.w X.K X.mg X.base x C f B newId initId bmB) (hr : Room 2 X.A) (hg : Gl X x) (he : PE X e te)
    (hdb : (x == ("__debug__" : Str)) = false := by decide) (hs : starEach [e] X.env = (false, eval e X.env) :: starEach [] X.env := by rfl) :
    PE X (.Call (.Name x p) [e] [] pos) (tExn C f te) := by
  obtain ⟨fI, fd, iC, tI, G, b1, b2⟩ := c.run
  refine ⟨fun pins s σ H Q I h => ?_⟩
  refine wpAny_Call_Name_kw (ld_glob I hg c.m ?_ hdb)
  refine W.callWith_K (h₀ := X.base) I.ok.mod.kin c.T.kp (thn ((pa_cons he pa_nil hs).run pos pins s σ H (fun vs H1 => ∃ v, vs = [v] ∧ ∀ a dx, H1 a = none → H1 dx = none → dx ≠ a → Q (.ref a) (made H1 C f v a dx)) I h) fun us s1 ⟨vs, H1, I1, r, v, ev, q⟩ => ⟨I1.kIn, ?_⟩) hs (by rfl)
  subst ev
  obtain ⟨u, rfl, r1⟩ := vals1 r
  exact run_exn c.T iC tI G hr (fun s a => b1 s _ _) (.cons r1 .nil) (by show 1 ≤ sizeLine; decide) I1 fun a na => sp_made q a na
/-- C(f=e) -/
theorem pe_exnK (c : Cl1 X.prog X.w X.K X.mg X.base x C f B newId initId bmB) (hr : Room 2 X.A) (hg : Gl X x) (he : PE X e te)
    (hdb : (x == ("__debug__" : Str)) = false := by decide) (hall : (backToKw pos (keywordEach [⟨some f, e, kp⟩] X.env)).all (·.1.isSome) = true := by rfl)
    (hks : (backToKw pos (keywordEach [⟨some f, e, kp⟩] X.env)).filterMap (·.1) = [f] := by rfl)
    (hpl : ((backTo pos (starEach [] X.env)).any (·.1) || (backToKw pos (keywordEach [⟨some f, e, kp⟩] X.env)).any (·.1.isNone)) = false := by rfl) :
    PE X (.Call (.Name x p) [] [⟨some f, e, kp⟩] pos) (tExn C f te) := by
  obtain ⟨fI, fd, iC, tI, G, b1, b2⟩ := c.run
  refine ⟨fun pins s σ H Q I h => ?_⟩
  refine wpAny_Call_Name_kw (ld_glob I hg c.m ?_ hdb)
  refine W.callWith_KW0 (h₀ := X.base) I.ok.mod.kin c.T.kp hall ?_ hpl
  refine thn ((pk_cons he pk_nil).run pos pins s σ H (fun vs H1 => ∃ v, vs = [v] ∧ ∀ a dx, H1 a = none → H1 dx = none → dx ≠ a → Q (.ref a) (made H1 C f v a dx)) I h) fun us s1 ⟨vs, H1, I1, r, v, ev, q⟩ => ⟨I1.kIn, ?_⟩
  rw [hks]
  subst ev
  obtain ⟨u, rfl, r1⟩ := vals1 r
  exact run_exn (us := []) c.T iC tI G hr (fun s a => b2 s _ _) (.cons r1 .nil) (Nat.zero_le _) I1 fun a na => sp_made q a na
/-- raise C(f=e): what makes it -/
theorem pmk_exnK (c : Cl1 X.prog X.w X.K X.mg X.base x C f B newId initId bmB) (hr : Room 2 X.A) (hg : Gl X x) (he : PE X e te)
    (hdb : (x == ("__debug__" : Str)) = false := by decide) (hall : (backToKw pos (keywordEach [⟨some f, e, kp⟩] X.env)).all (·.1.isSome) = true := by rfl)
    (hks : (backToKw pos (keywordEach [⟨some f, e, kp⟩] X.env)).filterMap (·.1) = [f] := by rfl)
    (hpl : ((backTo pos (starEach [] X.env)).any (·.1) || (backToKw pos (keywordEach [⟨some f, e, kp⟩] X.env)).any (·.1.isNone)) = false := by rfl) :
    PMk X (.Call (.Name x p) [] [⟨some f, e, kp⟩] pos) (fun σ H Q => te σ H fun u H1 => ∃ v, [u] = [v] ∧ ∀ d, H1 d = none → Q (.ref C) (some d) (upd H1 d (.xd [(f, v)]))) := by
  obtain ⟨fI, fd, iC, tI, G, b1, b2⟩ := c.run
  intro pins s σ H Q I h
  refine wpAny_Call_Name_kw (ld_glob I hg c.m ?_ hdb)
  refine W.callWith_KW0 (h₀ := X.base) I.ok.mod.kin c.T.kp hall ?_ hpl
  refine thn ((pk_cons he pk_nil).run pos pins s σ H (fun vs H1 => ∃ v, vs = [v] ∧ ∀ d, H1 d = none → Q (.ref C) (some d) (upd H1 d (.xd [(f, v)]))) I h) fun us s1 ⟨vs, H1, I1, r, v, ev, q⟩ => ⟨I1.kIn, ?_⟩
  rw [hks]
  subst ev
  obtain ⟨u, rfl, r1⟩ := vals1 r
  obtain ⟨nm, N, qn, bs, bm, hd, sn, sub, ab, col, dd, k0, k1, k2, k3, k5, at_C, tail⟩ := W.excInit_of I1.kIn c.T.made
  obtain ⟨bm0, base⟩ := c.T.base
  obtain ⟨hp, g, dr, tk, os⟩ := s1
  have big : hp.objs.size ≤ hp.objs.size + 1 := Nat.le_succ _
  have na : H1 (hp.objs.size + 1) = none := I1.hok.fresh big
  have kept : ∀ b o, hp.get? b = some o → ((hp.push (W.kdv_tup [])).push (HandSPX.excO C hp.objs.size)).get? b = some o :=
    fun b o e => Heap.get?_push_of_some _ (Heap.get?_push_of_some _ e)
  have here : ((hp.push (W.kdv_tup [])).push (HandSPX.excO C hp.objs.size)).get? (hp.objs.size + 1) = some (HandSPX.excO C hp.objs.size) := by
    heap_get
  have J : Inv X pins σ (upd H1 (hp.objs.size + 1) (exo (hp.objs.size + 1) C none)) ⟨(hp.push (W.kdv_tup [])).push (HandSPX.excO C hp.objs.size), g, dr, tk, os⟩ :=
    I1.laid (t' := tk) kept big (exo_ok here)
  have new : spKeep C f [.ref (hp.objs.size + 1), v] (upd H1 (hp.objs.size + 1) (exo (hp.objs.size + 1) C none))
      (fun y H2 => y = .non ∧ ∃ d, H2 = made H1 C f v (hp.objs.size + 1) d ∧ H1 d = none ∧ d ≠ hp.objs.size + 1) E0 := by
    refine ⟨_, v, rfl, upd_same, fun dx nd ne => ⟨rfl, dx, made_eq ne, ?_, ne⟩⟩
    rw [upd_ne ne] at nd
    exact nd
  have r2 : Vals [V.ref (hp.objs.size + 1), v] [Value.ref (hp.objs.size + 1), u] := .cons rfl (.cons r1 .nil)
  refine wpAny_call (call_kw (us := []) base (c.T.tail.of tail) at_C (Nat.zero_le _) (W.looks_findIn I1.kIn iC) (fun self => W.bind_fn I1.kIn self tI) ?_)
  refine codeAny_mono (G.run _ X.stack _ _ ⟨[Value.ref (hp.objs.size + 1)], [(f, u)]⟩ _ _ _ E0 (hr.make C [] [(f, u)]) (J.env0.make C [] [(f, u)]) (b2 _ _ _) r2 new) fun r s' z => ?_
  match r, z with
  | .error e, z => exact z.elim
  | .ok .next, z => exact z.elim
  | .ok .brk, z => exact z.elim
  | .ok .cont, z => exact z.elim
  | .ok (.ret y), z =>
    obtain ⟨v2, H2, os2, bare2, un2, hok2, rv, ev, d, rfl, nd, ne⟩ := z
    subst ev
    obtain ⟨h2, g2, d2, t2, os'⟩ := s'
    have fin := mk_end (X := X) (Q := Q) (d2 := d2) (t2 := t2) (fs := [(f, v)]) (raises_own c.T.sub c.ty) I1 big kept un2 hok2 os2 bare2 upd_same (by unfold made; rw [upd_ne ne, upd_same]) nd (by
      have eq : upd (del (made H1 C f v (hp.objs.size + 1) d) (hp.objs.size + 1)) d (.xd [(f, v)]) = upd H1 d (.xd [(f, v)]) := by
        funext b
        by_cases hb : b = d
        · rw [hb, upd_same, upd_same]
        · rw [upd_ne hb, upd_ne hb]
          by_cases ha : b = hp.objs.size + 1
          · rw [ha, del_same, na]
          · rw [del_ne ha]
            unfold made
            rw [upd_ne ha, upd_ne hb]
      rw [eq]
      exact q d nd)
    exact ⟨rv, fin⟩
end
end Exn

namespace Exn
open PySem PySem.Spec PyProof.Rows L2

/-- an own exception class whose __init__ takes nothing and does nothing -/
structure Cl0 (P : Program) (w : World) (K : W.Frag) (mg : Str → Option Value) (base : Heap) (x : Str) (C : Addr) (B newId initId : String) (bmB : List Value) : Prop where
  T : Ecl K C B newId initId bmB
  m : mg x = some (.ref C)
  run : ∃ fI fd, W.findIn K (.ref C) "__init__" = some (some (.ref fI)) ∧ W.typeIn K (.ref fI) = some (.type "function") ∧ FnOk P w K mg base CX0 1 fI fd ["self"] (spBare C) ∧
    ∀ (s : Shared) (a : Value), BindsTo s fd ⟨[a], []⟩ [("self", a)]
section
variable {X : Cx} {C : Addr} {x f : Str} {B newId initId : String} {bmB : List Value} {p pos : Pos}
theorem pe_exn0 (c : Cl0 X.prog X.w X.K X.mg X.base x C B newId initId bmB) (hr : Room 2 X.A) (hg : Gl X x) (hdb : (x == ("__debug__" : Str)) = false := by decide) :
    PE X (.Call (.Name x p) [] [] pos) (fun σ H Q => ∀ a, H a = none → Q (.ref a) (upd H a (exo a C none))) := by
  obtain ⟨fI, fd, iC, tI, G, b1⟩ := c.run
  refine ⟨fun pins s σ H Q I h => ?_⟩
  refine wpAny_Call_Name_kw (ld_glob I hg c.m ?_ hdb)
  refine W.callWith_K0 I.kIn c.T.kp (run_exn (us := []) (vs := []) (ws := []) c.T iC tI G hr (fun s a => b1 s _) .nil (Nat.zero_le _) I fun a na => ?_)
  exact ⟨a, rfl, upd_same, rfl, h a na⟩

/-- isinstance(e, c), e the caught exception that a suite holds, with a dict of its own -/
theorem call_isS {a : Addr} {oe : Obj} {cls : Value} {d : Option Addr} {pn : List (Addr × Obj)} {D : Addr} (T : Ecl X.K D B newId initId bmB) (G : ClsGet X.K) (hz : Zc cls d oe) (hf : ∃ vs, oe.data = .fields vs) :
    CallR (X.suite a ((a, oe) :: pn)) (.builtin "isinstance") (fun xs H Q => ∃ (c : V) (u : Value) (b : Bool) (dd : Addr) (fs : List (Str × V)), xs = [.ref a, c] ∧ ClsV c u ∧ cls = .ref D ∧ d = some dd ∧ H dd = some (.xd fs) ∧
      W.kitOne X.K (.ref D) u = some b ∧ Q (.bl b) H) := by
  intro pins s σ H xs us Q I r h
  obtain ⟨c, u, b, dd, fs, rfl, k, rfl, rfl, ed, e, q⟩ := h
  obtain ⟨u1, u2, rfl, r1, r2⟩ := vals2 r
  obtain rfl := k.eq r2
  obtain rfl : u1 = Value.ref a := r1
  obtain ⟨at_a, _⟩ := I.pin (a, oe) (List.mem_append_left _ List.mem_cons_self)
  obtain ⟨vs, hd⟩ := hf
  have ox : ObjOk X.prog X.w H s.heap dd (.xd fs) := I.hok dd _ ed
  obtain ⟨mA, ⟨od, es, ep, ho, _⟩, _⟩ := ox
  have J : W.InstAt s.heap a oe D (some od) := ⟨at_a, hz.1, by unfold W.notCls; rw [hd], by rw [hz.2]; exact ho⟩
  exact W.kia_one (W.kitx_exc (ox := oe) (od := some od) (cls_some T.hd) T.ga T.gt T.sub T.ca G.get G.takes T.mo) I.kIn J e (fun z => nomatch z) fun tk => ⟨.bl b, H, I.kept (t' := tk) fun _ _ z => z, rfl, q⟩
end
end Exn
namespace Keys
open PySem PySem.Spec PyProof.Rows
/-! KeyError, as a base of own classes -/
abbrev keyTail : List Value := [.type "KeyError", .type "LookupError", .type "Exception", .type "BaseException", .type "object"]
theorem store_KeyError : StoreFacts "KeyError" keyTail "object.__setattr__" "object" where
  mro := by kernel_rfl
  slot := by
    refine .of (owner := "object") (n := "__setattr__") ?_ (by decide +kernel) (by decide +kernel) (by decide +kernel) ?_ ?_
    · rw [typeLookup_type, builtinLookup_eq_fast]; kernel_rfl
    · first
        | exact .inl (by decide +kernel)
        | exact .inr (by decide +kernel)
    · rw [isSubtype_type]; kernel_rfl
  entry := F.entry_object_sa
  kind := by decide +kernel
  split := by decide +kernel
  hasOwner := by decide +kernel
  args := fun a b c => by unfold argsOk; kernel_rfl
  passes := fun self => by kernel_rfl
theorem tail_KeyError : Exn.Tail keyTail "LookupError" := ⟨by decide +kernel, by decide +kernel, by decide +kernel⟩
abbrev exTail : List Value := [.type "Exception", .type "BaseException", .type "object"]
theorem tail_Exception : Exn.Tail exTail "Exception" := ⟨by decide +kernel, by decide +kernel, by decide +kernel⟩
end Keys

/-! raise C(v) for an own class whose __init__ keeps one thing, by position -/
namespace Exn
open PySem PySem.Spec PyProof.Rows L2
section
variable {X : Cx} {C : Addr} {x f : Str} {B newId initId : String} {bmB : List Value} {e : Expr} {te : TE} {p kp pos : Pos}
/-- raise C(e): what makes it -/
theorem pmk_exn (c : Cl1 X.prog X.w X.K X.mg X.base x C f B newId initId bmB) (hr : Room 2 X.A) (hg : Gl X x) (he : PE X e te)
    (hdb : (x == ("__debug__" : Str)) = false := by decide) (hs : starEach [e] X.env = (false, eval e X.env) :: starEach [] X.env := by rfl) :
    PMk X (.Call (.Name x p) [e] [] pos) (fun σ H Q => te σ H fun u H1 => ∃ v, [u] = [v] ∧ ∀ d, H1 d = none → Q (.ref C) (some d) (upd H1 d (.xd [(f, v)]))) := by
  obtain ⟨fI, fd, iC, tI, G, b1, b2⟩ := c.run
  intro pins s σ H Q I h
  refine wpAny_Call_Name_kw (ld_glob I hg c.m ?_ hdb)
  refine W.callWith_K (h₀ := X.base) I.ok.mod.kin c.T.kp (thn ((pa_cons he pa_nil hs).run pos pins s σ H (fun vs H1 => ∃ v, vs = [v] ∧ ∀ d, H1 d = none → Q (.ref C) (some d) (upd H1 d (.xd [(f, v)]))) I h) fun us s1 ⟨vs, H1, I1, r, v, ev, q⟩ => ⟨I1.kIn, ?_⟩) hs (by rfl)
  subst ev
  obtain ⟨u, rfl, r1⟩ := vals1 r
  obtain ⟨nm, N, qn, bs, bm, hd, sn, sub, ab, col, dd, k0, k1, k2, k3, k5, at_C, tail⟩ := W.excInit_of I1.kIn c.T.made
  obtain ⟨bm0, base⟩ := c.T.base
  obtain ⟨hp, g, dr, tk, os⟩ := s1
  have big : hp.objs.size ≤ hp.objs.size + 1 := Nat.le_succ _
  have na : H1 (hp.objs.size + 1) = none := I1.hok.fresh big
  have kept : ∀ b o, hp.get? b = some o → ((hp.push (W.kdv_tup [u])).push (HandSPX.excO C hp.objs.size)).get? b = some o :=
    fun b o e => Heap.get?_push_of_some _ (Heap.get?_push_of_some _ e)
  have here : ((hp.push (W.kdv_tup [u])).push (HandSPX.excO C hp.objs.size)).get? (hp.objs.size + 1) = some (HandSPX.excO C hp.objs.size) := by
    heap_get
  have J : Inv X pins σ (upd H1 (hp.objs.size + 1) (exo (hp.objs.size + 1) C none)) ⟨(hp.push (W.kdv_tup [u])).push (HandSPX.excO C hp.objs.size), g, dr, tk, os⟩ :=
    I1.laid (t' := tk) kept big (exo_ok here)
  have new : spKeep C f [.ref (hp.objs.size + 1), v] (upd H1 (hp.objs.size + 1) (exo (hp.objs.size + 1) C none))
      (fun y H2 => y = .non ∧ ∃ d, H2 = made H1 C f v (hp.objs.size + 1) d ∧ H1 d = none ∧ d ≠ hp.objs.size + 1) E0 := by
    refine ⟨_, v, rfl, upd_same, fun dx nd ne => ⟨rfl, dx, made_eq ne, ?_, ne⟩⟩
    rw [upd_ne ne] at nd
    exact nd
  have r2 : Vals [V.ref (hp.objs.size + 1), v] [Value.ref (hp.objs.size + 1), u] := .cons rfl (.cons r1 .nil)
  refine wpAny_call (call_kw (us := [u]) base (c.T.tail.of tail) at_C (by show 1 ≤ sizeLine; decide) (W.looks_findIn I1.kIn iC) (fun self => W.bind_fn I1.kIn self tI) ?_)
  refine codeAny_mono (G.run _ X.stack _ _ ⟨[Value.ref (hp.objs.size + 1), u], []⟩ _ _ _ E0 (hr.make C [u] []) (J.env0.make C [u] []) (b1 _ _ _) r2 new) fun r s' z => ?_
  match r, z with
  | .error e, z => exact z.elim
  | .ok .next, z => exact z.elim
  | .ok .brk, z => exact z.elim
  | .ok .cont, z => exact z.elim
  | .ok (.ret y), z =>
    obtain ⟨v2, H2, os2, bare2, un2, hok2, rv, ev, d, rfl, nd, ne⟩ := z
    subst ev
    obtain ⟨h2, g2, d2, t2, os'⟩ := s'
    have fin := mk_end (X := X) (Q := Q) (d2 := d2) (t2 := t2) (fs := [(f, v)]) (raises_own c.T.sub c.ty) I1 big kept un2 hok2 os2 bare2 upd_same (by unfold made; rw [upd_ne ne, upd_same]) nd (by
      have eq : upd (del (made H1 C f v (hp.objs.size + 1) d) (hp.objs.size + 1)) d (.xd [(f, v)]) = upd H1 d (.xd [(f, v)]) := by
        funext b
        by_cases hb : b = d
        · rw [hb, upd_same, upd_same]
        · rw [upd_ne hb, upd_ne hb]
          by_cases ha : b = hp.objs.size + 1
          · rw [ha, del_same, na]
          · rw [del_ne ha]
            unfold made
            rw [upd_ne ha, upd_ne hb]
      rw [eq]
      exact q d nd)
    exact ⟨rv, fin⟩
end
end Exn

/-! enumerate over a tuple -/
namespace EnuT
open PySem PySem.Spec PyProof.Rows L2

set_option maxHeartbeats 4000000 in
theorem meets_one {v : Value} {o : Obj} {G : Heap → Prop} (B : Begins v o G) :
    Meets (Builtin.«enumerate.__new__» ⟨[.type "enumerate", v], []⟩) (fun _ R s => G s.heap ∧
      R (.ok (.ret (.ref (s.heap.push o).objs.size)))
        { s with heap := (s.heap.push o).push { cls := .type "enumerate", data := .fields #[.none, .bool false, .ref s.heap.objs.size, rawInt 0, .none, .none] } }) :=
  .of_wp fun prog w A R s h => by
    obtain ⟨hp, g, d, tk, os⟩ := s
    obtain ⟨h1, h⟩ := h
    have sub := sub_enumerate
    have iter : ∀ {A' : Around} {E : Value → Shared → Prop} {Q : Value → Shared → Prop}, Q (.ref hp.objs.size) ⟨hp.push o, g, d, tk, os⟩ →
        wpAny (model prog w) A' (pyIter v) Q E ⟨hp, g, d, tk, os⟩ := fun q => B.iter prog w _ _ ⟨hp, g, d, tk, os⟩ _ h1 q
    wp_walk using iter
    refine wpAny_stack_any fun st => wpAny_pure ?_
    split
    · rename_i c _ _ _ _ _
      cases (c == Value.type "enumerate") <;> (wp_walk using iter; exact ⟨_, rfl, h⟩)
    · wp_walk using iter
      exact ⟨_, rfl, h⟩

theorem call_one {prog : Program} {w : World} {A : Around} {E : Value → Shared → Prop} {s : Shared} {v : Value} {o : Obj} {G : Heap → Prop} {Q : Value → Shared → Prop} (B : Begins v o G) (h1 : G s.heap)
    (k : ∀ h', IsEnum h' (s.heap.objs.size + 1) s.heap.objs.size 0 .none → h'.get? s.heap.objs.size = some o →
      (∀ b u, s.heap.get? b = some u → h'.get? b = some u) → Q (.ref (s.heap.objs.size + 1)) { s with heap := h' }) :
    wpAny (model prog w) A (call (.type "enumerate") [v]) Q E s := by
  refine callType_new F.called_enumerate (by decide) (F.typeCall_enumerate_1 _) (F.newCall_enumerate_1 _) (fun obj => F.args_object_init_2 obj _) F.entry_enumerate_new (meets_one B) ⟨h1, ?_⟩
  have sz : (s.heap.push o).objs.size = s.heap.objs.size + 1 := Heap.size_push ..
  show _ ∧ _
  rw [sz]
  have at_e : IsEnum ((s.heap.push o).push { cls := .type "enumerate", data := .fields #[.none, .bool false, .ref s.heap.objs.size, rawInt 0, .none, .none] }) (s.heap.objs.size + 1) s.heap.objs.size 0 .none := by
    have z := Heap.get?_push_size (s.heap.push o) (o := { cls := .type "enumerate", data := .fields #[.none, .bool false, .ref s.heap.objs.size, rawInt 0, .none, .none] }) rfl
    rw [sz] at z
    exact z
  refine ⟨⟨_, at_e, rfl⟩, k _ at_e (Heap.get?_push_of_some _ (Heap.get?_push_size _ B.free)) fun b u e => Heap.get?_push_of_some _ (Heap.get?_push_of_some _ e)⟩

/-- the tuple at a, each item in a new pair -/
def Iet (K : W.Frag) (a : Addr) : It :=
  ⟨fun i H => ∃ (xs : List V) (x : V), SqT K H a xs ∧ xs[i]? = some x,
    fun i H v H' => ∃ T x, v = .ref T ∧ H T = none ∧ H' = upd H T (.tup [.int (i : Nat), x]) ∧ ∀ xs, SqT K H a xs → xs[i]? = some x,
    fun i H => ∃ xs : List V, SqT K H a xs ∧ xs.length = i⟩

theorem turn_et {P : Program} {w : World} {K : W.Frag} {elts : List Expr} {kk : Nat} {tpos : Pos} (a e it : Addr) :
    Turn P w K (.Tuple elts kk tpos) (Iet K a) [e, it] e (fun i h => (∃ old, IsEnum h e it ((i : Nat) : Int) old) ∧ h.IsTupleIter it a i ∧ e ≠ it) where
  mem := List.mem_cons_self ..
  obj := fun i h st b hb => by
    obtain ⟨⟨old, he⟩, ⟨o, ho, hc, hd⟩, _⟩ := st
    have hb2 : b = e ∨ b = it := by simpa using hb
    rcases hb2 with rfl | rfl
    · exact ⟨_, he, fun v q => nomatch q⟩
    · exact ⟨o, ho, fun v q => by rw [hd] at q; cases q⟩
  keep := fun i h h' st k => by
    obtain ⟨⟨old, he⟩, hi, ne⟩ := st
    exact ⟨⟨old, k e (List.mem_cons_self ..) _ he⟩, hi.at fun o q => k it (by simp) o q, ne⟩
  item := by
    intro X hP hw hK hc i pins s σ H E I hf st hg
    subst hP hw hK
    obtain ⟨⟨old, he⟩, hit, ne⟩ := st
    obtain ⟨xs, x, hq, hx⟩ := hg
    obtain ⟨its, rv, p, hz⟩ := I.tuple hq
    obtain ⟨u, hu, ru⟩ := rv.get hx
    have tup : s.heap.IsTuple a its.toArray := p
    have ea : e ≠ a := fun z => by
      obtain ⟨o, ho, hc, _⟩ := p
      rw [← z] at ho
      have he' : s.heap.get? e = some _ := he
      rw [ho] at he'
      cases he'
      exact absurd (Value.type.inj hc) (by decide)
    have ia : a ≠ it := fun z => by
      obtain ⟨o, ho, hc, _⟩ := p
      obtain ⟨o', ho', hc', _⟩ := hit
      rw [z, ho'] at ho
      cases ho
      rw [hc'] at hc
      exact absurd (Value.type.inj hc) (by decide)
    have le : e < s.heap.objs.size := Heap.lt_size he
    have li : it < s.heap.objs.size := by
      obtain ⟨_, q, _⟩ := hit
      exact Heap.lt_size q
    have lt : i < its.toArray.size := by
      have := (List.getElem?_eq_some_iff.mp hu).1
      simpa using this
    refine wpAny_pyNext_enum_itemD (Draws.tuple (A := X.A.in1) (I.ok.hd hc) it a ia its.toArray) he ⟨hit, tup⟩ lt ne (by simp [ne, ea]) fun y h' tk hy ho st' hT hsz hk => ?_
    have eu : y = u := by
      have z : its.toArray[i]? = some y := hy
      rw [List.getElem?_toArray, hu] at z
      exact (Option.some.inj z).symm
    subst eu
    refine ⟨_, rfl, wpAny_letOwnedTupleGo_enum (s := { s with heap := h', toks := tk + 1 }) ho fun h'' he' sb => ?_⟩
    have at_T : h''.get? s.heap.objs.size = some { cls := .type "tuple", data := .seq #[.int i tk, y] } := (sb.2 _ (Nat.ne_of_gt le)).trans hT
    have new : ObjOk X.prog X.w (upd H s.heap.objs.size (.tup [.int (i : Nat), x])) h'' s.heap.objs.size (.tup [.int (i : Nat), x]) :=
      ⟨by show 2 ≤ sizeLine; decide, [.int i tk, y], .cons ⟨_, rfl⟩ (.cons ru .nil), ⟨_, at_T, rfl, _, rfl⟩⟩
    have J : Inv X pins σ (upd H s.heap.objs.size (.tup [.int (i : Nat), x])) { s with heap := h'', toks := tk + 1 } := by
      refine I.turnedNew (ch := [e, it]) (fun b ob hb q => ?_) hf (Nat.le_refl _) new
      have b1 : b ≠ e := fun z => hb (by simp [z])
      have b2 : b ≠ it := fun z => hb (by simp [z])
      exact (sb.2 b b1).trans (hk b ob b1 b2 q)
    refine ⟨.ref s.heap.objs.size, _, J, rfl, ⟨_, x, rfl, I.hok.fresh (Nat.le_refl _), rfl, fun ys hy => ?_⟩, ⟨⟨y, ?_⟩, st'.1.at fun o q => (sb.2 it (Ne.symm ne)).trans q, ne⟩, fun b hb => ?_⟩
    · rw [I.tuple_inj hy hq]
      exact hx
    · have e1 : ((i + 1 : Nat) : Int) = (i : Int) + 1 := by omega
      rw [e1]
      exact he'
    · have lb : b < s.heap.objs.size := by
        have hb2 : b = e ∨ b = it := by simpa using hb
        rcases hb2 with rfl | rfl
        · exact le
        · exact li
      rw [upd_ne (Nat.ne_of_lt lb)]
      exact (hf b hb).1
  done := by
    intro X hP hw hK hc i pins s σ H E I hf st hg
    subst hP hw hK
    obtain ⟨⟨old, he⟩, hit, ne⟩ := st
    obtain ⟨xs, hq, hx⟩ := hg
    obtain ⟨its, rv, p, hz⟩ := I.tuple hq
    have tup : s.heap.IsTuple a its.toArray := p
    have ia : a ≠ it := fun z => by
      obtain ⟨o, ho, hc, _⟩ := p
      obtain ⟨o', ho', hc', _⟩ := hit
      rw [z, ho'] at ho
      cases ho
      rw [hc'] at hc
      exact absurd (Value.type.inj hc) (by decide)
    obtain ⟨f0, f1, f2, f3, f4, f5⟩ := hf it (by simp)
    have sz : i = its.toArray.size := by
      have := rv.length
      simp
      omega
    subst sz
    refine wpAny_pyNext_enum_endD (Draws.tuple (A := X.A.in1) (I.ok.hd hc) it a ia its.toArray) he ⟨hit, tup⟩ fun h' eb => ⟨rfl, I.turned (t' := s.toks) (fun b o hb q => eb b o hb q) f0 f1 f3 f4 f5⟩
  self := fun A i s Q E st h => by
    obtain ⟨⟨_, he⟩, _⟩ := st
    exact wpAny_pyIter_enum he h

/-- enumerate over a list or over a tuple -/
def iEnS (K : W.Frag) (ta : TA) : TI := fun σ H R => ta σ H fun vs H1 => ∃ a, vs = [V.ref a] ∧ ((∃ xs, SqL K H1 a xs ∧ R (Ite K a) H1) ∨ (∃ xs, SqT K H1 a xs ∧ R (Iet K a) H1))
theorem pi_enumS {X : Cx} {e : Expr} {ta : TA} {p pos tpos : Pos} {elts : List Expr} {kk : Nat} (hg : Gl X "enumerate") (hm : X.mg "enumerate" = none) (ha : PA X [e] ta) (hs : starEach [e] X.env = [(false, eval e X.env)] := by rfl) :
    PI X (.Tuple elts kk tpos) (.Call (.Name "enumerate" p) [e] [] pos) (iEnS X.K ta) where
  run := fun pins s σ H R I h =>
    Call_ (ld_blt I hg hm boot_enumerate (PyProof.Rows.callWith_type1 (thn (ha.run pos pins s σ H _ I h) fun us s1 x => by
      obtain ⟨vs, H1, I1, r1, a, rfl, q⟩ := x
      obtain ⟨u, rfl, ra⟩ := vals1 r1
      cases ra
      rcases q with ⟨xs, hq, q⟩ | ⟨xs, hq, q⟩
      · obtain ⟨its, rv, p', hz⟩ := I1.list hq
        refine call_enumerate_list (PlainL.isList p') fun h' he hit hsz hk => ?_
        have I2 := I1.kept (t' := s1.toks) hk
        refine wpAny_pyIter_enum he ⟨_, [s1.heap.objs.size + 1, s1.heap.objs.size], _, Ite X.K a, H1, rfl, I2, turn_enum a _ _, ?_, ?_, q⟩
        · exact ⟨⟨_, he⟩, hit, Nat.succ_ne_self _⟩
        · intro b hb
          have le : s1.heap.objs.size ≤ b := by
           rcases (by simpa using hb : b = s1.heap.objs.size + 1 ∨ b = s1.heap.objs.size) with rfl | rfl <;> omega
          exact I1.fpOk le (I1.hok.fresh le)
      · obtain ⟨its, rv, p', hz⟩ := I1.tuple hq
        have tup : s1.heap.IsTuple a its.toArray := p'
        refine call_one (begins_tuple a its.toArray) tup fun h' he hit hk => ?_
        have I2 := I1.kept (t' := s1.toks) hk
        refine wpAny_pyIter_enum he ⟨_, [s1.heap.objs.size + 1, s1.heap.objs.size], _, Iet X.K a, H1, rfl, I2, turn_et a _ _, ?_, ?_, q⟩
        · exact ⟨⟨_, he⟩, ⟨_, hit, rfl, rfl⟩, Nat.succ_ne_self _⟩
        · intro b hb
          have le : s1.heap.objs.size ≤ b := by
           rcases (by simpa using hb : b = s1.heap.objs.size + 1 ∨ b = s1.heap.objs.size) with rfl | rfl <;> omega
          exact I1.fpOk le (I1.hok.fresh le)) hs rfl) (by decide) (by decide)) rfl
theorem walk_enumT {K : W.Frag} {a : Addr} {xs : List V} : Walk (Iet K a) xs.length (fun H => SqT K H a xs) (YPair (fun i => some (.int (i : Nat))) (fun i => xs[i]?)) where
  goes := fun i H hi hq => ⟨xs, xs[i], hq, by simp [hi]⟩
  stops := fun H hq => ⟨xs, hq, rfl⟩
  yields := fun i H v H' hi hq h => by
    obtain ⟨T, x, rfl, hT, rfl, hx⟩ := h
    exact ⟨T, _, x, rfl, hT, rfl, rfl, hx xs hq⟩

/-- a dict comprehension over what walks -/
theorem dc_it {J : It} {n : Nat} {G : Hp → Prop} {Y : Nat → Hp → V → Hp → Prop} (w : Walk J n G Y) {g : TG} {tt : TT} {tk tv : TE} {vs : List Nat} {σ : L2.St} {H1 : Hp} {D : Addr} {Qd : Hp → Prop} (Pv : Nat → Hp → Prop)
    (h0 : Pv 0 (upd H1 D (.dK []))) (hl : ∀ i H, i ≤ n → Pv i H → G H)
    (hs : ∀ (i : Nat) (x : V) (H H' : Hp), i < n → Pv i H → Y i H x H' → g x (wipe σ vs) H' fun σ2 H2 => wipe σ2 vs = wipe σ vs ∧ tt σ2 H2 fun b H3 => if b = true then tk σ2 H3 fun y H4 => tv σ2 H4 fun z H5 =>
      ∃ kvs k, y = kV k ∧ H5 D = some (.dK kvs) ∧ kvs.length < sizeLine ∧ Pv (i + 1) (upd H5 D (.dK (putK kvs k z))) else Pv (i + 1) H3)
    (hd : ∀ H, Pv n H → Qd H) :
    ∃ W : Nat → Nat → Hp → Prop, (∃ m, W 0 m (upd H1 D (.dK []))) ∧ ∀ i m H, W i m H → (J.stop i H ∧ Qd H) ∨ (J.go i H ∧ ∃ Nx : Hp → Prop, (∀ H', Nx H' → ∃ m', m' < m ∧ W (i + 1) m' H') ∧
      ∀ x H', J.yld i H x H' → g x (wipe σ vs) H' fun σ2 H2 => wipe σ2 vs = wipe σ vs ∧ tt σ2 H2 fun b H3 => if b = true then tk σ2 H3 fun y H4 => tv σ2 H4 fun z H5 =>
        ∃ kvs k, y = kV k ∧ H5 D = some (.dK kvs) ∧ kvs.length < sizeLine ∧ Nx (upd H5 D (.dK (putK kvs k z))) else Nx H3) := by
  refine ⟨fun i m H => i ≤ n ∧ m = n - i ∧ Pv i H, ⟨n, Nat.zero_le _, rfl, h0⟩, ?_⟩
  rintro i m H ⟨hi, rfl, hp⟩
  by_cases h : i < n
  · refine .inr ⟨w.goes i H h (hl i H hi hp), Pv (i + 1), fun H' q => ⟨n - (i + 1), by omega, by omega, rfl, q⟩, fun x H' hy => ?_⟩
    exact hs i x H H' h hp (w.yields i H x H' h (hl i H hi hp) hy)
  · obtain rfl : i = n := by omega
    exact .inl ⟨w.stops H (hl _ H hi hp), hd H hp⟩

/-! ### tuple * 0 and tuple * 1 -/
end EnuT

/-! a def called by keywords alone -/
namespace EnuT
open PySem PySem.Spec PyProof.Rows L2
theorem pe_callK0 {X : Cx} {CX : CXT} {k : Nat} {f : Addr} {fd : FuncData} {ps ks : List Str} {sp : Sp} {E : XK} {x : Str} {p pos : Pos} {kws : List Keyword} {tk : TA} {g : List Value → List Value → List Value} {gV : List V → List V → List V}
    (F : FnOk X.prog X.w X.K X.mg X.base CX k f fd ps sp) (hr : Room k X.A) (hg : Gl X x) (hm : X.mg x = some (.ref f)) (kp : W.keepIn X.K (.ref f) = true) (hb : KBinds X.K fd ps ks g gV) (hx : Passes CX X E) (hk : PK X kws tk)
    (hall : (backToKw pos (keywordEach kws X.env)).all (·.1.isSome) = true := by rfl) (hks : (backToKw pos (keywordEach kws X.env)).filterMap (·.1) = ks := by rfl) (hdb : (x == ("__debug__" : Str)) = false := by decide)
    (hpl : ((backTo pos (starEach [] X.env)).any (·.1) || (backToKw pos (keywordEach kws X.env)).any (·.1.isNone)) = false := by rfl) :
    PE X (.Call (.Name x p) [] kws pos) (tCallK sp gV E tNil tk) := by
  refine ⟨fun pins s σ H Q I h => ?_⟩
  refine wpAny_Call_Name_kw (ld_glob I hg hm ?_ hdb)
  refine W.callWith_KW0 (h₀ := X.base) I.ok.mod.kin kp hall ?_ hpl
  refine thn (hk.run pos pins s σ H (fun zs H2 => sp (gV [] zs) H2 Q E) I h) fun ws s1 ⟨zs, H1, I1, r, q⟩ => ⟨I1.kIn, ?_⟩
  rw [hks]
  exact run_fnk F hr hb hx I1 .nil r q
end EnuT

/-! a static method, called on its class -/
namespace Stc
open PySem PySem.Spec PyProof.Rows L2
/-- C.m is a staticmethod: its record at p, its def at g -/
structure SMet (K : PySem.W.Frag) (C : Addr) (mc : Value) (m : Str) (p g : Addr) : Prop where
  at_ : PySem.W.findCls K (.ref C) mc m = some (.get (.builtin "staticmethod.__get__") (.ref p) .none (.ref C))
  rc : ∃ rest, PySem.W.recIn K p "staticmethod" = some (.ref g :: rest)
  kp : PySem.W.keepIn K (.ref g) = true
section
variable {X : Cx} {pins : List (Addr × Obj)} {σ : L2.St} {H : Hp} {s : Shared} {C p g : Addr} {mc : Value} {m : Str} {A : Around} {E : Value → Shared → Prop}
theorem getmethsm_ok {pl : Sem Bool} {Q : Value × List Value → Shared → Prop} (I : Inv X pins σ H s) (r : ClX.CRead X.K C mc) (k : SMet X.K C mc m p g)
    (h : ∀ s', Inv X pins σ H s' → Q (.ref g, []) s') : wpAny (model X.prog X.w) A (getMethod (.ref C) m pl) Q E s := by
  obtain ⟨rest, hp⟩ := k.rc
  refine PySem.W.method_cls I.kIn r.ga (PySem.W.cls_bind I.kIn r.rd k.at_ ?_)
  refine wpAny_call (PySem.W.sm_get (s := { s with toks := s.toks + 1 }) I.kIn hp (PySem.W.handed_on rfl ?_))
  exact h _ (I.tok _)
end
/-- C.m(..), m a static method -/
def tSMeth (C : Addr) (sp : Sp) (E : XK) (ta : TE) (t : TA) : TE := fun σ H Q => ta σ H fun x H1 => x = .ref C ∧ t σ H1 fun vs H2 => sp vs H2 Q E
def tSMethK (C : Addr) (sp : Sp) (gV : List V → List V → List V) (E : XK) (ta : TE) (t : TA) : TE := fun σ H Q => ta σ H fun x H1 => x = .ref C ∧ t σ H1 fun zs H2 => sp (gV [] zs) H2 Q E
section
variable {X : Cx} {CX : CXT} {k : Nat} {C p g : Addr} {mc : Value} {sp : Sp} {E : XK} {o e : Expr} {es : List Expr} {m : Str} {pos apos : Pos} {ta : TE} {t : TA} {pl : Sem Bool} {fd : FuncData} {ps ks : List Str}
theorem pe_smeth (he : PE X o ta) (r : ClX.CRead X.K C mc) (c : SMet X.K C mc m p g) (F : FnOk X.prog X.w X.K X.mg X.base CX k g fd ps sp) (hr : Room k X.A) (hb : Binds X.K fd ps []) (hx : Passes CX X E) (ha : PA X (e :: es) t)
    (hst : starEach (e :: es) X.env = (false, eval e X.env) :: starEach es X.env := by rfl) (hpl : (backTo pos (starEach es X.env)).any (·.1) = false := by rfl)
    (ht : eval (.Call (.Attribute o m apos) (e :: es) [] pos) X.env = (do
      let ov ← eval o X.env
      standAt apos.atName
      let (f, first) ← holding [ov] (getMethod ov m pl)
      callWith pos f first (backTo pos (starEach (e :: es) X.env)) (backToKw pos (keywordEach [] X.env))) := by rfl) :
    PE X (.Call (.Attribute o m apos) (e :: es) [] pos) (tSMeth C sp E ta t) := by
  refine ⟨fun pins s σ H Q I h => ?_⟩
  refine PySem.W.methodCall_KW (pl := pl) (thn (he.run pins s σ H _ I h) fun u s1 ⟨x, H1, I1, rx, ex, q⟩ => ?_) ht
  subst ex
  obtain rfl : u = Value.ref C := rx
  refine getmethsm_ok I1 r c fun s2 I2 => ?_
  refine PySem.W.callWith_K (h₀ := X.base) I.ok.mod.kin c.kp (thn (ha.run pos pins s2 σ H1 _ I2 q) fun us s3 ⟨vs, H2, I3, rv, q2⟩ => ⟨I3.kIn, ?_⟩) hst hpl
  exact run_fn F hr hb .nil hx I3 rv (by rw [List.append_nil]; exact q2)
theorem pe_smethK {g' : List Value → List Value → List Value} {gV : List V → List V → List V} {kws : List Keyword} (he : PE X o ta) (r : ClX.CRead X.K C mc) (c : SMet X.K C mc m p g) (F : FnOk X.prog X.w X.K X.mg X.base CX k g fd ps sp) (hr : Room k X.A) (hb : KBinds X.K fd ps ks g' gV) (hx : Passes CX X E) (hk : PK X kws t)
    (hall : (backToKw pos (keywordEach kws X.env)).all (·.1.isSome) = true := by rfl) (hks : (backToKw pos (keywordEach kws X.env)).filterMap (·.1) = ks := by rfl)
    (hpl : ((backTo pos (starEach [] X.env)).any (·.1) || (backToKw pos (keywordEach kws X.env)).any (·.1.isNone)) = false := by rfl)
    (ht : eval (.Call (.Attribute o m apos) [] kws pos) X.env = (do
      let ov ← eval o X.env
      standAt apos.atName
      let (f, first) ← holding [ov] (getMethod ov m pl)
      callWith pos f first (backTo pos (starEach [] X.env)) (backToKw pos (keywordEach kws X.env))) := by rfl) :
    PE X (.Call (.Attribute o m apos) [] kws pos) (tSMethK C sp gV E ta t) := by
  refine ⟨fun pins s σ H Q I h => ?_⟩
  refine PySem.W.methodCall_KW (pl := pl) (thn (he.run pins s σ H _ I h) fun u s1 ⟨x, H1, I1, rx, ex, q⟩ => ?_) ht
  subst ex
  obtain rfl : u = Value.ref C := rx
  refine getmethsm_ok I1 r c fun s2 I2 => ?_
  refine PySem.W.callWith_KW0 (h₀ := X.base) I.ok.mod.kin c.kp hall ?_ hpl
  refine thn (hk.run pos pins s2 σ H1 (fun zs H2 => sp (gV [] zs) H2 Q E) I2 q) fun ws s3 ⟨zs, H2, I3, rz, q2⟩ => ⟨I3.kIn, ?_⟩
  rw [hks]
  exact run_fnk F hr hb hx I3 .nil rz q2
end
end Stc

/-! try .. except A as e: .. except (B, C) as e: ..; several clauses, each of a class or of two -/
namespace Trt
open PySem PySem.Spec PyProof.Rows L2
theorem flying_kept {base h h' : Heap} {l : List Env} {e : Addr} {Z : Obj → Prop} (x : HandSPX.FlyingZ base l e Z h) (k : ∀ b o, h.get? b = some o → h'.get? b = some o) : HandSPX.FlyingZ base l e Z h' := by
  obtain ⟨f1, f2, f3, oe, vs, T, oT, ts, he, hz, hd, h1, hnT, hTe, hT, hdT, h3⟩ := x
  exact ⟨fun b o e => k _ _ (f1 b o e), f2, f3.of_keeps fun b o e _ => ⟨o, k _ _ e, rfl⟩, oe, vs, T, oT, ts, k _ _ he, hz, hd, h1, hnT, hTe, k _ _ hT, hdT, h3⟩
/-- the slots are as many as the names -/
theorem takes_len {X : Cx} {W : WX} (t : Takes X W) : Takes X (fun cls d σ H => σ.length = X.N.length → W cls d σ H) :=
  fun u s' ⟨a, B, sI, pins, σ, H, cls, d, e, I, nb, up, sky, na, os, ag, w⟩ => t u s' ⟨a, B, sI, pins, σ, H, cls, d, e, I, nb, up, sky, na, os, ag, w I.len⟩
/-- a clause's test: what it says of an exception of a class -/
def Tst (X : Cx) (t : Expr) (cs : List Value) : Prop := ∀ (a : Addr) (oe : Obj) (pn pins : List (Addr × Obj)) (σ : L2.St) (H : Hp) (s : Shared) (cls : Value) (b : Bool) (Q : Bool → Shared → Prop) (E : Value → Shared → Prop),
  Inv (X.suite a ((a, oe) :: pn)) pins σ H s → PySem.W.Looks (model X.prog X.w) s.heap (typeOf (.ref a)) cls → PySem.W.exmAny X.K cls cs = some b →
  (∀ h', (∀ b o, s.heap.get? b = some o → h'.get? b = some o) → Q b { s with heap := h' }) →
  wpAny (model X.prog X.w) (X.A.mark (some (.ref a))) (eval t X.env) (fun c s1 => wpAny (model X.prog X.w) (X.A.mark (some (.ref a))) (excMatches (.ref a) c) Q E s1) E s
section
variable {X : Cx} {x x1 x2 : Str} {c c1 c2 : Value} {np p1 p2 tp : Pos} {kk : Nat}
theorem name_val {a : Addr} {oe : Obj} {pn pins : List (Addr × Obj)} {σ : L2.St} {H : Hp} {s : Shared} {Q : Value → Shared → Prop} {E : Value → Shared → Prop} (S : Inv (X.suite a ((a, oe) :: pn)) pins σ H s) (hc : Names X x c) (q : Q c s) :
    wpAny (model X.prog X.w) (X.A.mark (some (.ref a))) (eval (.Name x np) X.env) Q E s := by
  obtain ⟨hg, hdbg, hm | ⟨hm, hv, hnn⟩⟩ := hc
  · exact ld_glob (X := X.suite a ((a, oe) :: pn)) S hg hm q hdbg
  · exact ld_blt (X := X.suite a ((a, oe) :: pn)) S hg hm hv q hnn hdbg
theorem tst_one (hc : Names X x c) : Tst X (.Name x np) [c] := fun a oe pn pins σ H s cls b Q E S LT e q => by
  have e1 : PySem.W.exmOne X.K cls c = some b := by
    obtain ⟨b1, d1, h1, h2, h3⟩ := PySem.W.exmAny_cons e
    have h2 : some false = some d1 := h2
    cases h2
    rw [Bool.or_false] at h3
    rw [h3]
    exact h1
  refine name_val S hc ((PySem.W.exm_one S.kIn LT e1).here ?_)
  exact q s.heap fun _ _ z => z
theorem tst_two (h1 : Names X x1 c1) (h2 : Names X x2 c2) (hs : starEach [.Name x1 p1, .Name x2 p2] X.env = (false, eval (.Name x1 p1) X.env) :: starEach [.Name x2 p2] X.env := by rfl) (hs2 : starEach [.Name x2 p2] X.env = (false, eval (.Name x2 p2) X.env) :: starEach [] X.env := by rfl) :
    Tst X (.Tuple [.Name x1 p1, .Name x2 p2] kk tp) [c1, c2] := fun a oe pn pins σ H s cls b Q E S LT e q => by
  refine wpAny_Tuple ?_
  refine wpAny_items_cons (name_val S h1 ?_) hs
  refine wpAny_items_cons (name_val S h2 ?_) hs2
  refine wpAny_items_nil ⟨by show 2 ≤ sizeLine; decide, ?_⟩
  have kp : ∀ q o, s.heap.get? q = some o → (s.heap.push { cls := .type "tuple", data := .seq [c1, c2].toArray }).get? q = some o := fun _ _ z => Heap.get?_push_of_some _ z
  exact (PySem.W.exm_tup2 (S.kIn.keeps kp) (LT.keeps kp) (Heap.get?_push_size s.heap rfl) e).here (q _ kp)
end
/-- what the clauses wish of an exception of the body: each its classes, its name's slot, its suite -/
def wMA (K : PySem.W.Frag) (Wout : WX) (D : Ends) : List (List Value × Nat × (Addr → Value → Option Addr → TS)) → WX
  | [] => Wout
  | (cs, i, ts) :: r => fun cls d σ H => ∃ b, PySem.W.exmAny K cls cs = some b ∧
    (b = true → ∀ a, H a = none → ts a cls d { nx := fun σ' H' => D.nx (σ'.set i none) H', rt := D.rt, bk := fun σ' H' => D.bk (σ'.set i none) H', ct := fun σ' H' => D.ct (σ'.set i none) H' } (σ.set i (some (.ref a))) H) ∧
    (b = false → wMA K Wout D r cls d σ H)
inductive HdsA (X : Cx) : List ExceptHandler → List (List Value × Nat × (Addr → Value → Option Addr → TS)) → Prop
  | nil : HdsA X [] []
  | cons {t : Expr} {cs : List Value} {n : Str} {i : Nat} {ts : Addr → Value → Option Addr → TS} {b₀ : Stmt} {suite : List Stmt} {pos' : Pos} {hds : List ExceptHandler} {l : List (List Value × Nat × (Addr → Value → Option Addr → TS))} (hc : Tst X t cs) (hi : X.N[i]? = some n) (hln : X.env.kindOf n = some .local)
      (hsu : ∀ (a : Addr) (oe : Obj) (cls : Value) (d : Option Addr) (pn : List (Addr × Obj)), Zc cls d oe → (∃ vs, oe.data = .fields vs) → PSs (X.suite a ((a, oe) :: pn)) (b₀ :: suite) (ts a cls d)) (r : HdsA X hds l) :
      HdsA X (.ExceptHandler (some t) (some n) (b₀ :: suite) pos' :: hds) ((cs, i, ts) :: l)
section
variable {X : Cx} {body : List Stmt} {h₀ : ExceptHandler} {hds : List ExceptHandler} {l : List (List Value × Nat × (Addr → Value → Option Addr → TS))} {pos : Pos} {tb : WX → TS} {Wout : WX}
theorem ps_try_manyA (hs : X.stack = X.env :: X.outer) (hf : X.env.frame = some X.env.locals) (hN : X.N.Nodup) (tk : Takes X Wout)
    (hb : ∀ (W : WX) (pn : List (Addr × Obj)) (xe : Value → Shared → Prop), Takes (X.tr pn xe) W → PassesOwn (model X.prog X.w) X.A X.env xe → PSs (X.tr pn xe) body (tb W))
    (hh : HdsA X (h₀ :: hds) l) : PS X (.Try body (h₀ :: hds) [] [] pos) (fun D σ H => tb (wMA X.K Wout D l) D σ H) := by
  refine ⟨fun pins s σ H D I h => ?_⟩
  have ok := I.ok
  have hfr : X.A.frames = some (X.env :: X.outer) := by rw [ok.frames, hs]
  refine wpAny_Try_except ?_
  refine wpAny_mono ((hb (wMA X.K Wout D l) (X.pn ++ pins) (fun e s₁ => wpAny (model X.prog X.w) X.A (noteFrame e X.env) (fun _ s₂ => wpAny (model X.prog X.w) X.A (setFlight e none) (fun _ s₃ =>
    wpAny (model X.prog X.w) X.A (handleBy e X.env (h₀ :: hds)) (SP X pins D) X.xe s₃) X.xe s₂) X.xe s₁) (fun u s' xx => ?_) PassesOwn.looking).run [] s σ H D (I.toTry _) h) (fun f s1 hsp => ?_) (fun e s1 he => he)
  · -- the catch
    obtain ⟨a, B, sI, pins', σ', H', cls, d, rfl, J', nb, up, sky, na, os, ag, w⟩ := xx
    have J : Inv X pins σ' H' sI := J'.ofTry ok
    have sky' : Sky B (X.env :: X.outer) a (Zc cls d) X.env.locals s'.heap := by rw [← hs]; exact sky
    show wpAny (model X.prog X.w) X.A (noteFrame (.ref a) X.env) _ _ _
    refine Sky.land Zc.steady hfr hf sky' fun h3 fl3 up3 => ?_
    have notFr : ∀ {h : Heap} {o : Obj} {vs : Array Value}, h.FunFrames B (X.env :: X.outer) → h.get? a = some o → o.data = .fields vs → a ∉ frs (X.env :: X.outer) := fun {h o vs} ff e dd hm => by
      obtain ⟨_, o', e', hnf⟩ := ff.mem hm
      rw [e] at e'; cases e'
      exact hnf _ dd
    have go : ∀ {hds' : List ExceptHandler} {l' : List (List Value × Nat × (Addr → Value → Option Addr → TS))}, HdsA X hds' l' → ∀ h3, HandSPX.FlyingZ B (X.env :: X.outer) a (Zc cls d) h3 → s'.heap.UpToSlots h3 → wMA X.K Wout D l' cls d σ' H' →
        wpAny (model X.prog X.w) X.A (handleBy (.ref a) X.env hds') (SP X pins D) X.xe { s' with heap := h3 } := by
      intro hds' l' hk
      induction hk with
      | nil =>
        intro h3 fl3 up3 w
        refine wpAny_handleBy_nil ?_
        obtain ⟨k1, k2, k3, oe, vs, T, oT, ts', he, hz, hd, h1, hr⟩ := id fl3
        unfold PySem.passOn
        refine wpAny_bind (wpAny_field he hd h1 ?_)
        rw [if_neg (show ¬ ((Value.ref T == Value.none) = true) from by simp)]
        have fin : wpAny (model X.prog X.w) X.A (setFlight (.ref a) X.env.frame) (fun _ s4 => wpAny (model X.prog X.w) X.A (throw (.ref a) : Sem Flow) (SP X pins D) X.xe s4) X.xe { s' with heap := h3 } := by
          rw [hf]
          refine HandSPX.setFlight_upZ fl3 fun h4 hh4 up4 => wpAny_throw (tk _ _ ?_)
          exact ⟨a, B, sI, pins, σ', H', cls, d, rfl, J, nb, (up.trans up3).trans up4, .inr (.inr (by rw [hs]; exact hh4)), na, os, ag, w⟩
        first
          | exact wpAny_bind (wpAny_pure (wpAny_bind fin))
          | exact wpAny_bind fin
      | @cons t cs n i ts b₀ suite pos' hds2 l2 hc hi hln hsu r ih =>
        intro h3 fl3 up3 w
        have J3 : Inv X pins σ' H' { s' with heap := h3 } := J.landed nb fl3.1 (up.trans up3) os ag
        obtain ⟨oe3, vs3, he3, hz3, hd3⟩ := fl3.there
        have nfr := notFr fl3.2.2.1 he3 hd3
        have nL : a ≠ X.env.locals := fun z => nfr (List.mem_filterMap.mpr ⟨X.env, List.mem_cons_self, by rw [hf, z]⟩)
        have nF : a ∉ X.fs := fun hm => by
          obtain ⟨e, he, q⟩ := List.mem_filterMap.mp hm
          exact nfr (List.mem_filterMap.mpr ⟨e, List.mem_cons_of_mem _ he, q⟩)
        have S3 := J3.suite he3 hd3 na nL nF
        obtain ⟨b, hb1, hyes, hno⟩ := w
        have hloc : Loc X.env.scope n := .inl hln
        refine wpAny_handleBy_cons (codeAny_handlers_test ?_) (by intro q; cases q)
        have LT : PySem.W.Looks (model X.prog X.w) h3 (typeOf (.ref a)) cls := fun A Q E s k q => wpAny_typeOf_ref (k _ _ he3) (by rw [hz3.1]; exact q)
        refine hc a oe3 (X.pn ++ pins) [] σ' H' _ cls b _ _ S3 LT hb1 fun h3' k3 => ?_
        have fl3' := flying_kept fl3 k3
        have up3' : s'.heap.UpToSlots h3' := up3.trans fun b o e _ => ⟨o.slots, k3 b o e⟩
        cases b with
        | true =>
          refine codeAny_handlers_suite_as ?_
          refine HandSPX.lands_againZ fl3' fun h4 fl4 up4 => ?_
          have J4 : Inv X pins σ' H' { s' with heap := h4 } := J.landed nb fl4.1 ((up.trans up3').trans up4) os ag
          obtain ⟨oe4, vs4, he4, hz4, hd4⟩ := fl4.there
          have nfr4 := notFr fl4.2.2.1 he4 hd4
          have S4 := J4.suite he4 hd4 na nL nF
          refine store_ok (X := X.suite a ((a, oe4) :: (X.pn ++ pins))) (v := .ref a) S4 hN hi hloc rfl (fun s5 S5 => ?_) (.inr hln)
          refine wpAny_mono ((hsu a oe4 cls d (X.pn ++ pins) hz4 ⟨_, hd4⟩).run [] s5 _ H' _ S5 (hyes rfl a na)) (fun f s6 hsp => ?_) (fun _ _ z => False.elim z)
          have end_ : ∀ {σ6 : L2.St} {H6 : Hp} {Q : Shared → Prop}, Inv (X.suite a ((a, oe4) :: (X.pn ++ pins))) [] σ6 H6 s6 → (∀ s7, Inv X pins (σ6.set i none) H6 s7 → Q s7) →
              wpAny (model X.prog X.w) X.A (do bindName X.env n .none; unbindBehindTheSuite X.env n pos') (fun _ s7 => Q s7) X.xe s6 := fun {σ6 H6 Q} S6 hq => gone_ok (S6.unsuite ok) hN hi hln hq
          cases f with
          | next =>
            obtain ⟨σ6, H6, S6, q6⟩ := hsp
            exact end_ S6 fun s7 J7 => ⟨_, _, J7, q6⟩
          | brk =>
            obtain ⟨σ6, H6, S6, q6⟩ := hsp
            exact end_ S6 fun s7 J7 => ⟨_, _, J7, q6⟩
          | cont =>
            obtain ⟨σ6, H6, S6, q6⟩ := hsp
            exact end_ S6 fun s7 J7 => ⟨_, _, J7, q6⟩
          | ret u =>
            obtain ⟨v6, σ6, H6, S6, r6, q6⟩ := hsp
            exact end_ S6 fun s7 J7 => ⟨_, _, _, J7, r6, q6⟩
        | false =>
          show wpAny _ X.A (handleBy (.ref a) X.env hds2) _ _ _
          exact ih h3' fl3' up3' (hno rfl)
    exact go hh h3 fl3 up3 w
  · cases f with
    | next =>
      obtain ⟨σ', H', J', q⟩ := hsp
      exact wpAny_execs_nil ⟨σ', H', J'.ofTry ok, q⟩
    | brk =>
      obtain ⟨σ', H', J', q⟩ := hsp
      exact ⟨σ', H', J'.ofTry ok, q⟩
    | cont =>
      obtain ⟨σ', H', J', q⟩ := hsp
      exact ⟨σ', H', J'.ofTry ok, q⟩
    | ret u =>
      obtain ⟨v, σ', H', J', r, q⟩ := hsp
      exact ⟨v, σ', H', J'.ofTry ok, r, q⟩
end
end Trt

/-! The law's own def at its caller, where lambdas are made: tables of code objects that grow. -/
namespace Cal
open PySem PySem.Spec PyProof.Rows L2

/-- the tables, empty as the top left them -/
structure Tbl0 (K : W.Frag) (h : Heap) (p : Addr × Addr) : Prop where
  tab : h.get? p.2 = some (W.tabObj #[])
  out : K.lookup p.2 = none
  hd : W.CodeHd h p.1 p.2

theorem wonT {P : Program} {w : World} {K : W.Frag} {mg mb : Str → Option Value} {fa a : Addr} {s : Shared} {vs : List Value} {ns : List Int} {cs : List (Addr × Addr)}
    (kIn : K.In s.heap) (glo : s.heap.Ns mainGlobals mg) (bns : s.heap.Ns builtinsNs mb) (bbo : ∀ x : Str, x ≠ "__name__" → mb x = bootBuiltins x)
    (lim : s.heap.NoLimit) (gen : s.gens = #[]) (obj : s.heap.get? a = some { cls := .type "list", data := .seq vs.toArray })
    (its : IntsAre vs ns) (few : ns.length ≤ sizeLine) (tabs : ∀ p ∈ cs, Tbl0 K s.heap p)
    (bmain : ∃ (bm : Addr) (ob : Obj), mg "__builtins__" = some (.ref bm) ∧ bm ≠ builtinsNs ∧ s.heap.get? bm = some ob ∧ ob.cls = .type "module" ∧ ob.dict = some builtinsNs ∧ ob.data = .plain)
    (run : ∀ (base : Heap) (H : Hp), K.In base → base.Ns mainGlobals mg → (∀ p ∈ cs, LamX.TabB base mg p.1 p.2) → Env0 P w K mg base callerA [] s H → (∀ p ∈ cs, H p.2 = some (.tbl #[])) → SqL K H a (ns.map V.int) →
      codeAny (model P w) callerA (.call (.ref fa) ⟨[.ref a], []⟩) (CR CX0 [] P w H s (fun v _ => v = .bl true) E0) s) :
    Won P w s fa a := by
  have vals := vals_ints its
  have size := its.length
  have isT : ∀ b, b ∈ cs.map (·.2) → s.heap.get? b = some (W.tabObj #[]) ∧ K.lookup b = none := fun b hb => by
    obtain ⟨p, hp, rfl⟩ := List.mem_map.mp hb
    exact ⟨(tabs p hp).tab, (tabs p hp).out⟩
  have aT : a ∉ cs.map (·.2) := fun z => by
    have q := (isT a z).1
    rw [obj] at q
    exact nomatch (congrArg Obj.data (Option.some.inj q))
  -- H0: what is tracked but for the tables
  suffices main : ∀ H0 : Hp, Only H0 → (∀ b, H0 b ≠ none → b = a ∧ K.lookup a = none) → (K.lookup a = none → ∃ o, H0 a = some (.frz o (.lst (ns.map V.int)))) → (∀ b u, H0 b = some u → ObjOk P w (fun c => if c ∈ cs.map (·.2) then some (.tbl #[]) else H0 c) s.heap b u) → Won P w s fa a by
    cases look : K.lookup a with
    | some o => exact main (fun _ => none) (fun _ => .inl rfl) (fun b z => (z rfl).elim) (fun z => by rw [look] at z; cases z) (fun b u z => nomatch z)
    | none =>
      refine main (fun b => if b = a then some (.frz { cls := .type "list", data := .seq vs.toArray } (.lst (ns.map V.int))) else none) (fun b => ?_) (fun b z => ?_) (fun _ => ⟨_, if_pos rfl⟩) (fun b u z => ?_)
      · by_cases e : b = a
        · exact .inr ⟨_, _, if_pos e⟩
        · exact .inl (if_neg e)
      · by_cases e : b = a
        · exact ⟨e, look⟩
        · exact (z (if_neg e)).elim
      · by_cases e : b = a
        · rw [if_pos e] at z
          obtain rfl := Option.some.inj z
          rw [e]
          exact ⟨obj, by simpa using few, vs, _, vals, obj⟩
        · rw [if_neg e] at z
          cases z
  intro H0 only here there ok0
  generalize eH : (fun c => if c ∈ cs.map (·.2) then some (.tbl #[]) else H0 c) = H at ok0
  have inT : ∀ {b}, b ∈ cs.map (·.2) → H b = some (.tbl #[]) := fun {b} hb => by rw [← eH]; exact if_pos hb
  have offT : ∀ {b}, b ∉ cs.map (·.2) → H b = H0 b := fun {b} hb => by rw [← eH]; exact if_neg hb
  have tbl : ∀ p ∈ cs, H p.2 = some (.tbl #[]) := fun p hp => inT (List.mem_map.mpr ⟨p, hp, rfl⟩)
  have ok : HOk P w H s.heap := fun b u z => by
    by_cases hb : b ∈ cs.map (·.2)
    · rw [inT hb] at z
      obtain rfl := Option.some.inj z
      exact (isT b hb).1
    · exact ok0 b u ((offT hb).symm.trans z)
  have sq : SqL K H a (ns.map V.int) := by
    cases look : K.lookup a with
    | some o =>
      have o2 := kIn a o look
      rw [obj] at o2
      obtain rfl := Option.some.inj o2
      exact .inr ⟨_, vs.toArray, _, look, rfl, rfl, rfl, by simpa [size] using few, by simpa using vals⟩
    | none =>
      obtain ⟨o, e⟩ := there look
      exact .inl (.inr ⟨o, (offT aT).trans e⟩)
  have free : ∀ {b : Addr} {o : Obj}, s.heap.get? b = some o → o.data ≠ .seq vs.toArray → o.data ≠ .fields #[] → H b = none := fun {b o} e d d2 => by
    by_cases hb : b ∈ cs.map (·.2)
    · have := (isT b hb).1
      rw [e] at this
      obtain rfl := Option.some.inj this
      exact (d2 rfl).elim
    · rw [offT hb]
      rcases only b with z | ⟨_, _, z⟩
      · exact z
      · obtain ⟨rfl, _⟩ := here b (by rw [z]; simp)
        rw [obj] at e
        obtain rfl := Option.some.inj e
        exact (d rfl).elim
  have kfree : ∀ {b : Addr} {o : Obj}, K.lookup b = some o → H b = none := fun {b o} e => by
    by_cases hb : b ∈ cs.map (·.2)
    · rw [(isT b hb).2] at e
      cases e
    · rw [offT hb]
      rcases only b with z | ⟨_, _, z⟩
      · exact z
      · obtain ⟨rfl, n⟩ := here b (by rw [z]; simp)
        rw [n] at e
        cases e
  have space : ∀ {b : Addr} {m : Str → Option Value}, s.heap.Ns b m → (hidT s.heap H).Ns b m := fun {b m} ⟨o, es, ep, e, d, r⟩ =>
    ⟨o, es, ep, hidT_get e (free e (by rw [d]; intro z; cases z) (by rw [d]; intro z; cases z)), d, r⟩
  have kIn2 : K.In (hidT s.heap H) := fun b o e => hidT_get (kIn b o e) (kfree e)
  obtain ⟨mc, l1, l2⟩ := lim
  have env : Env0 P w K mg (hidT s.heap H) callerA [] s H := {
    frames := rfl
    mod := ⟨kIn2, space glo, ⟨mb, space bns, bbo⟩, ⟨mc, space l1, l2⟩⟩
    bs := fun b o e => of_hidT e
    bsz := Nat.le_of_eq (hidT_size _ _)
    funs := trivial
    frf := fun b hb => by simp [frs] at hb
    hok := ok
    bare := .of_eq gen }
  have TB : ∀ p ∈ cs, LamX.TabB (hidT s.heap H) mg p.1 p.2 := fun p hp => by
    have t := tabs p hp
    refine ⟨?_, ?_, fun z => ?_⟩
    · obtain ⟨o, us, file, tf, flags, tg, inF, text, tt, e1, r1, r2, r3, r⟩ := t.hd
      refine ⟨o, us, file, tf, flags, tg, inF, text, tt, hidT_get e1 (free e1 (fun z => ?_) fun z => ?_), r1, r2, r3, r⟩ <;> rw [r2] at z
      · cases z
      · cases z
        simp at r3
    · obtain ⟨bm, ob, b1, b2, b3, b4, b5, b6⟩ := bmain
      refine ⟨bm, ob, b1, b2, fun q => ?_, fun q => ?_, hidT_get b3 (free b3 (fun z => ?_) fun z => ?_), b4, b5, b6⟩
      · obtain ⟨o, es, ep, e, hd, _⟩ := glo
        rw [q, e] at b3
        cases b3
        rw [hd] at b6
        cases b6
      · rw [q, t.tab] at b3
        cases b3
        cases b6
      · rw [b6] at z
        cases z
      · rw [b6] at z
        cases z
    · obtain ⟨o, es, ep, e, hd, _⟩ := glo
      rw [z, t.tab] at e
      cases e
      cases hd
  refine codeAny_mono (run _ H kIn2 (space glo) TB env tbl sq) fun r s' z => ?_
  match r, z with
  | .error e, z => exact z.elim
  | .ok .next, z => exact z.elim
  | .ok .brk, z => exact z.elim
  | .ok .cont, z => exact z.elim
  | .ok (.ret u), ⟨v, H', os, bare, un, ok', rv, q⟩ =>
    subst q
    obtain rfl : u = Value.bool true := rv
    have stays : ∀ b o, b ∉ cs.map (·.2) → s.heap.get? b = some o → s'.heap.get? b = some o := fun b o nb e => by
      rcases only b with z | ⟨ob, xs, z⟩
      · exact un.keep b o e ((offT nb).trans z) (by simp [frs]) (by simp)
      · have z1 := (offT nb).trans z
        have y1 := (ok b _ z1).1
        have y2 := (ok' b _ (un.frzs b ob _ z1)).1
        rw [e] at y1
        obtain rfl := Option.some.inj y1
        exact y2
    have grown : ∀ p ∈ cs, ∃ more : Array Value, s'.heap.get? p.2 = some (W.tabObj more) := fun p hp => by
      obtain ⟨more, z⟩ := un.tbls p.2 #[] (tbl p hp)
      exact ⟨_, ok' p.2 _ z⟩
    refine ⟨rfl, ⟨fun b o e => ?_, fun b o e => ?_⟩, os, bare⟩ <;> by_cases hb : b ∈ cs.map (·.2)
    · obtain ⟨p, hp, rfl⟩ := List.mem_map.mp hb
      obtain ⟨more, hm⟩ := grown p hp
      rw [(tabs p hp).tab] at e
      cases e
      exact .inr (.inl ⟨((tabs p hp).hd.tab (tabs p hp).tab).isCodeTable, rfl, #[], more, rfl, by rw [Array.empty_append]; exact hm⟩)
    · exact .inl (stays b o hb e)
    · obtain ⟨p, hp, rfl⟩ := List.mem_map.mp hb
      obtain ⟨more, hm⟩ := grown p hp
      exact ⟨_, hm⟩
    · exact ⟨o, stays b o hb e⟩

/-- the goal that k_head leaves, where lambdas are made: the defs that make them by their names -/
theorem walkT {l : PySem.W.OpenLaw} {n : Nat} {q : Program} {loose : List Str} {XP : (Str → Option Value) → Heap → Prop} {YP : World → Heap → Prop} {d : DefRec} {K : Params → PySem.W.Frag} (xs : List Str)
    (most : l.most = some n) (few : n ≤ sizeLine) (dfl : d.params.defaults = []) (hY : ∀ (w : World) (h : Heap), YP w h → (K w.params).In h) (recs : ∀ x ∈ xs, ((recsOf q).find? (fun e => e.name == x)).isSome = true)
    (run : ∀ (w : World) (mg : Str → Option Value) (fa : Addr) (h : Heap), (K w.params).In h → h.Ns mainGlobals mg → mg d.name = some (.ref fa) →
      ∃ cs : List (Addr × Addr), (∀ p ∈ cs, (K w.params).lookup p.2 = none ∧ ∃ x ∈ xs, W.tabIn (K w.params) x = some p) ∧
      ∀ (s : Shared) (a : Addr) (ns : List Int) (base : Heap) (H : Hp), ns.length ≤ n → (K w.params).In base → base.Ns mainGlobals mg → (∀ p ∈ cs, LamX.TabB base mg p.1 p.2) → Env0 l.prog w (K w.params) mg base callerA [] s H → (∀ p ∈ cs, H p.2 = some (.tbl #[])) → SqL (K w.params) H a (ns.map V.int) →
        codeAny (model l.prog w) callerA (.call (.ref fa) ⟨[.ref a], []⟩) (CR CX0 [] l.prog w H s (fun v _ => v = .bl true) E0) s) :
    PySem.W.WalkO q loose XP YP l.row.toRowW d [] (fun f vs => PySem.call f vs) := by
  refine Att.attach_call most dfl fun w s₀ s₁ mg mb fa o pm cd doc a vs ns G Y ho hd hcd hmg hobj hints hlen hg => ?_
  have KX := hY w _ Y
  obtain ⟨cs, ht, go⟩ := run w mg fa _ KX G.T.g hmg
  refine wonT (cs := cs) KX G.T.g G.T.b G.T.builtins G.T.nolimit hg hobj hints (Nat.le_trans hlen few) (fun p hp => ?_) G.T.bmain fun base H b1 b2 tb e0 h0 sq => go s₁ a ns base H hlen b1 b2 tb e0 h0 sq
  obtain ⟨no, x, hx, e⟩ := ht p hp
  obtain ⟨dd, hdd⟩ := Option.isSome_iff_exists.mp (recs x hx)
  obtain ⟨c1, c2⟩ := W.tab_of (c := p.1) (P := p.2) G.T KX hdd e
  exact ⟨c2, no, c1⟩
end Cal

/-! x == y by x's own __eq__, whatever it answers -/
namespace Oeq
open PySem PySem.Spec PyProof.Rows L2
/-- what y's type is -/
inductive TyEq (H : Hp) : V → Value → Prop
  | str (s : Str) : TyEq H (.str s) (.type "str")
  | lst {a : Addr} {xs : List V} (h : H a = some (.lst xs)) : TyEq H (.ref a) (.type "list")
  | tup {a : Addr} {xs : List V} (h : H a = some (.tup xs)) : TyEq H (.ref a) (.type "tuple")
  | ins {a C dx : Addr} {fs : List (Str × V)} (h : H a = some (.ins C dx fs)) : TyEq H (.ref a) (.ref C)
theorem TyEq.looks {X : Cx} {pins : List (Addr × Obj)} {σ : L2.St} {H : Hp} {s : Shared} {y : V} {v tb : Value} (t : TyEq H y tb) (I : Inv X pins σ H s) (r : RelV y v) : PySem.W.Looks (model X.prog X.w) s.heap (typeOf v) tb := by
  cases t with
  | str z =>
    obtain ⟨t, rfl⟩ := r
    exact PySem.W.Looks.of_pure rfl
  | lst h =>
    cases r
    obtain ⟨z, its, k, r, e⟩ := I.hok _ _ h
    exact fun A Q E s k q => wpAny_typeOf_ref (k _ _ e) q
  | tup h =>
    cases r
    obtain ⟨its, r, e, z⟩ := I.tuple (X := X) (.inl (.inl h))
    obtain ⟨o, ho, hc, n, hd⟩ := e
    exact fun A Q E s k q => wpAny_typeOf_ref (k _ _ ho) (by rw [hc]; exact q)
  | ins h =>
    cases r
    obtain ⟨mB, J, _⟩ := ins_get I.hok h
    obtain ⟨od, J, _⟩ := J.look
    exact J.type
def rEqO (K : PySem.W.Frag) (C : Addr) (sp : Sp) : R2 := fun x y H Q => ∃ a dx fs tb, x = .ref a ∧ H a = some (.ins C dx fs) ∧ TyEq H y tb ∧ PySem.W.notFirst K C tb = true ∧ sp [x, y] H (fun v H' => ∃ b, v = .bl b ∧ Q (.bl b) H') E0
theorem op_eqO {X : Cx} {n : Nat} {C f : Addr} {fd : FuncData} {ps : List Str} {sp : Sp} (F : FnOk X.prog X.w X.K X.mg X.base CX0 n f fd ps sp) (hs : PySem.W.findIn X.K (.ref C) "__eq__" = some (some (.ref f))) (hf : PySem.W.isFn X.K (.ref f) = true) (hb : Binds X.K fd ps []) (hr : Room n X.A) :
    OpR X (compareOp .Eq) (rEqO X.K C sp) := by
  intro pins s σ H x y v u Q I rx ry h
  obtain ⟨a, dx, fs, tb, rfl, ha, ty, nf, q⟩ := h
  cases rx
  obtain ⟨mA, J, _⟩ := ins_get I.hok ha
  obtain ⟨od, J, _⟩ := J.look
  obtain ⟨m, hF⟩ := I.fr
  show wpAny (model X.prog X.w) X.A (richCompare .Eq (.ref a) u) _ _ _
  refine PySem.W.cmp_K (op := .Eq) (tb := tb) hr.units0 hF I.ok.mod.kin J (ty.looks I ry) nf hs hf ?_
  refine thn (run_fn (us := [.ref a, u]) (vs := [.ref a, y]) F hr hb .nil pass0 I (.cons rfl (.cons ry .nil)) q) fun w s1 z => ?_
  obtain ⟨v1, H1, I1, r1, b, rfl, q1⟩ := z
  cases r1
  exact ⟨.bl b, H1, I1, rfl, q1⟩
end Oeq

namespace Exn
open PySem PySem.Spec PyProof.Rows L2
theorem Ecl.xf {K : W.Frag} {C : Addr} {B newId initId : String} {bmB : List Value} (T : Ecl K C B newId initId bmB) : XfC K C := ⟨T.ga, T.gt, T.sub, T.hd⟩
section
variable {X : Cx} {a : Addr} {oe : Obj} {cls : Value} {d : Option Addr} {pn : List (Addr × Obj)}
/-- error.f in a suite, of whichever of the told classes the error is -/
theorem pe_errF {e : Expr} {te : TE} {pos : Pos} {n : Str} (hz : Zc cls d oe) (hf : ∃ vs, oe.data = .fields vs) (he : PE (X.suite a ((a, oe) :: pn)) e te) (hb : attributeBase e n X.env (eval e X.env) = eval e X.env := by rfl) :
    PE (X.suite a ((a, oe) :: pn)) (.Attribute e n pos) (fun σ H Q => (∃ C, cls = .ref C ∧ XfC X.K C ∧ W.findIn X.K (.ref C) n = some none) ∧
      te σ H fun x H1 => x = .ref a ∧ ∃ (dd : Addr) (fs : List (Str × V)) (v : V), d = some dd ∧ H1 dd = some (.xd fs) ∧ fs.lookup n = some v ∧ Q v H1) := by
  refine ⟨fun pins s σ H Q I h => ?_⟩
  obtain ⟨⟨C, ec, T, no⟩, h⟩ := h
  refine (pe_xf T no hz hf he hb).run pins s σ H Q I (Eq.mp (congrArg (te σ H) ?_) h)
  funext x H1
  exact propext ⟨fun ⟨e1, r⟩ => ⟨e1, ec, r⟩, fun ⟨e1, _, r⟩ => ⟨e1, r⟩⟩
/-- isinstance(error, c) in a suite -/
theorem call_isF (G : ClsGet X.K) (hz : Zc cls d oe) (hf : ∃ vs, oe.data = .fields vs) :
    CallR (X.suite a ((a, oe) :: pn)) (.builtin "isinstance") (fun xs H Q => ∃ (D : Addr) (B newId initId : String) (bmB : List Value), Ecl X.K D B newId initId bmB ∧ ∃ (c : V) (u : Value) (b : Bool) (dd : Addr) (fs : List (Str × V)), xs = [.ref a, c] ∧ ClsV c u ∧ cls = .ref D ∧ d = some dd ∧ H dd = some (.xd fs) ∧
      W.kitOne X.K (.ref D) u = some b ∧ Q (.bl b) H) := by
  intro pins s σ H xs us Q I r h
  obtain ⟨D, B, newId, initId, bmB, T, h⟩ := h
  exact call_isS T G hz hf pins s σ H xs us Q I r h
end
end Exn

/-! a def whose code object is told: it makes lambdas -/
namespace Cal
open PySem PySem.Spec PyProof.Rows L2
section
variable {P : Program} {w : World} {K : PySem.W.Frag} {mg : Str → Option Value} {base : Heap} {x qual : Str} {st : Stmt} {f c T : Addr} {fd : FuncData} {N ps : List Str}
theorem code_of {oc : Value} {od : Option Addr} {sl : Array (Option Value)} (a : W.nsIn K mainGlobals x = some (some (.ref f))) (l : K.lookup f = some ⟨oc, od, .func fd, sl⟩) (t : W.tabIn K x = some (c, T)) : fd.code = .ref c := by
  unfold W.tabIn at t
  rw [a] at t
  simp only [l] at t
  split at t
  · rename_i c2 e
    split at t
    · split at t
      · cases t
        exact e
      · cases t
    · cases t
  · cases t
theorem okC {k : Nat} {sp : Sp} (F : Fun K x qual st f fd) (hc : fd.code = .ref c) (S : FnScope N ps (defScope st)) (len : ∀ vs H Q E, sp vs H Q E → vs.length = ps.length)
    (hbody : ∀ (A : Around) (outer : List Env) (s : Shared) (H : Hp) (vs : List V) (Q : VK) (E : XK), Room k (A.deeper (envOfC qual (defScope st) s.heap.objs.size f (.ref c))) → sp vs H Q E →
      ∃ t, PSs (cxOf CX0 P w K mg base N qual (defScope st) f (.ref c) A outer s H E).nox (defBody st) t ∧ t { nx := fun _ H' => Q .non H', rt := Q } (start N vs) H) : FnOk P w K mg base CX0 (k + 1) f fd ps sp := by
  obtain ⟨oc, od, kV, doc, pm, an, cdv, ct, osl, rfl, lk, hcd⟩ := F.ex
  obtain rfl : cdv = .ref c := hc
  refine fn_of lk hcd S len fun A outer s H vs Q E hr hsp => ?_
  obtain ⟨t, h, q⟩ := hbody A outer s H vs Q E hr hsp
  exact ⟨t, h.nox, q⟩
theorem law_runC {s : Shared} {H : Hp} {us : List Value} {vs : List V} {Q : VK}
    (F : Fun K x qual st f fd) (hc : fd.code = .ref c) (S : FnScope N ps (defScope st)) (e0 : Env0 P w K mg base callerA [] s H) (bind : Binds K fd ps []) (r : Vals vs us) (hl : vs.length = ps.length)
    (body : ∃ t, PSs (cxOf CX0 P w K mg base N qual (defScope st) f (.ref c) callerA [] s H E0).nox (defBody st) t ∧ t { nx := fun _ H' => Q .non H', rt := Q } (start N vs) H) :
    codeAny (model P w) callerA (.call (.ref f) ⟨us, []⟩) (CR CX0 [] P w H s Q E0) s := by
  obtain ⟨oc, od, kV, doc, pm, an, cdv, ct, osl, rfl, lk, hcd⟩ := F.ex
  obtain rfl : cdv = .ref c := hc
  obtain ⟨t, ht, hq⟩ := body
  have keep : ∀ b o, base.get? b = some o → s.heap.get? b = some o := fun b o e => (e0.bs b o e).1
  have kIn := e0.mod.kin.keeps keep
  have ul : us.length = ps.length := by rw [← r.length]; exact hl
  have hb := bind s us kIn (by simpa using ul)
  rw [List.append_nil] at hb
  refine codeAny_call_function (by decide) (kIn _ _ lk) rfl S.co S.gen rfl (PySem.W.codeRec_of kIn hcd) (hb _ _ _ _ ?_)
  refine wpAny_newFunctionEnv_cells S.kind (fun ⟨y, v⟩ hy => ?_) fun env he s1 z => ?_
  · rcases S.par y (List.of_mem_zip hy).1 with q | q
    · exact Or.inl q
    · exact Or.inr ⟨q, PySem.W.cellsFrom_some _ _ _ (Or.inl q)⟩
  · subst he
    refine ⟨(e0.mod.nolimit.keeps keep).keeps z.toInCall.keep, codeAny_func ?_⟩
    have I : Inv (cxOf CX0 P w K mg base N qual (defScope st) f (.ref c) callerA [] s H E0) [] (start N vs) H s1 := inv_start S rfl e0 hl r z
    refine wpAny_mono (ht.nox.run [] s1 _ H _ I hq) (fun fl s' y => ?_) fun _ _ y => y
    match fl, y with
    | .ret u, ⟨v, σ', H', J, rv, q⟩ => exact ⟨v, H', J.os, J.bare, J.base, J.hok, rv, q⟩
    | .next, ⟨σ', H', J, q⟩ => exact ⟨.non, H', J.os, J.bare, J.base, J.hok, rfl, q⟩
    | .brk, ⟨_, _, _, q⟩ => exact q.elim
    | .cont, ⟨_, _, _, q⟩ => exact q.elim
end
end Cal

/-! split undoes join -/
namespace Tx
open PySem
abbrev L (s : Str) : List Nat := s.cps.toList
theorem ext {a b : Str} (h : L a = L b) : a = b := Str.ext' (Array.toList_inj.mp h)
theorem L_append (a b : Str) : L (a ++ b) = L a ++ L b := by simp [L, Str.cps_append]
theorem len_L (s : Str) : s.length = (L s).length := by simp [L, Str.length]
theorem cut_eq {c : Nat} : ∀ {a b r q : List Nat}, c ∉ a → c ∉ b → a ++ c :: r = b ++ c :: q → a = b ∧ r = q
  | [], [], _, _, _, _, h => ⟨rfl, by simpa using h⟩
  | [], y :: b, _, _, _, hb, h => by
    simp at h
    exact absurd (List.mem_cons.mpr (.inl h.1)) hb
  | x :: a, [], _, _, ha, _, h => by
    simp at h
    exact absurd (List.mem_cons.mpr (.inl h.1.symm)) ha
  | x :: a, y :: b, r, q, ha, hb, h => by
    simp at h
    obtain ⟨rfl, h⟩ := h
    obtain ⟨e1, e2⟩ := cut_eq (a := a) (b := b) (fun z => ha (List.mem_cons_of_mem _ z)) (fun z => hb (List.mem_cons_of_mem _ z)) h
    exact ⟨by rw [e1], e2⟩
theorem L_join (sep x y : Str) (r : List Str) : L (Str.join sep (x :: y :: r)) = L x ++ (L sep ++ L (Str.join sep (y :: r))) := by
  show L (x ++ sep ++ Str.join sep (y :: r)) = _
  rw [L_append, L_append, List.append_assoc]
theorem join_inj {c : Nat} : ∀ {xs ys : List Str}, xs ≠ [] → ys ≠ [] → (∀ p, p ∈ xs → c ∉ L p) → (∀ p, p ∈ ys → c ∉ L p) → Str.join ⟨#[c]⟩ xs = Str.join ⟨#[c]⟩ ys → xs = ys
  | [], _, h, _, _, _, _ => absurd rfl h
  | _ :: _, [], _, h, _, _, _ => absurd rfl h
  | [x], [y], _, _, _, _, h => by
    have h : x = y := h
    rw [h]
  | [x], y :: z :: r, _, _, hx, _, h => by
    have e : L x = L y ++ (c :: L (Str.join ⟨#[c]⟩ (z :: r))) := by
      have := congrArg L h
      rw [L_join] at this
      exact this
    exact absurd (by rw [e]; simp) (hx x (List.mem_cons_self ..))
  | x :: z :: r, [y], _, _, _, hy, h => by
    have e : L y = L x ++ (c :: L (Str.join ⟨#[c]⟩ (z :: r))) := by
      have := congrArg L h
      rw [L_join] at this
      exact this.symm
    exact absurd (by rw [e]; simp) (hy y (List.mem_cons_self ..))
  | x :: z :: r, y :: w :: q, _, _, hx, hy, h => by
    have e : L x ++ c :: L (Str.join ⟨#[c]⟩ (z :: r)) = L y ++ c :: L (Str.join ⟨#[c]⟩ (w :: q)) := by
      have := congrArg L h
      rw [L_join, L_join] at this
      exact this
    obtain ⟨e1, e2⟩ := cut_eq (hx x (List.mem_cons_self ..)) (hy y (List.mem_cons_self ..)) e
    rw [ext e1, join_inj (List.cons_ne_nil _ _) (List.cons_ne_nil _ _) (fun p hp => hx p (List.mem_cons_of_mem _ hp)) (fun p hp => hy p (List.mem_cons_of_mem _ hp)) (ext e2)]
theorem split_ne (x y : Str) : Txt.split x y ≠ [] := by
  unfold Txt.split
  split
  · exact List.cons_ne_nil _ _
  · split
    · exact List.cons_ne_nil _ _
    · rw [StrLaws.partsBetween_eq]
      obtain ⟨p, r, e⟩ := StrLaws.partsFrom_ne x y.length 0 (Builtin.Str.occurrences x y 0 x.length (x.length + 1))
      rw [e]
      exact List.cons_ne_nil _ _
/-- split undoes join, where no part has the sign -/
theorem split_join {c : Nat} {xs : List Str} (ne : xs ≠ []) (h : ∀ p, p ∈ xs → c ∉ L p) : Txt.split (Txt.join ⟨#[c]⟩ xs) ⟨#[c]⟩ = xs := by
  refine join_inj (split_ne _ _) ne (fun p hp => StrLaws.split_free _ c p hp) h ?_
  rw [StrLaws.join_split]
  exact StrLaws.glued_eq_join _ _
theorem split_len {c : Nat} {s : Str} : ∀ p, p ∈ Txt.split s ⟨#[c]⟩ → p.length ≤ s.length := by
  intro p hp
  have e := StrLaws.join_split s ⟨#[c]⟩
  have key : ∀ (xs : List Str), p ∈ xs → p.length ≤ (Str.join ⟨#[c]⟩ xs).length := by
    intro xs
    induction xs with
    | nil => intro h; cases h
    | cons x xs ih =>
      intro h
      cases xs with
      | nil =>
        obtain rfl := List.mem_singleton.mp h
        exact Nat.le_refl _
      | cons y r =>
        rw [len_L (Str.join _ _), L_join]
        simp only [List.length_append]
        rcases List.mem_cons.mp h with rfl | z
        · rw [len_L]; omega
        · have := ih z
          rw [len_L (Str.join _ _)] at this
          omega
  rw [← e]
  exact key _ hp
end Tx

/-! what the written part says of own exception classes, of own classes, of constant tuples of words -/
namespace Fx
open PySem PySem.Spec PyProof.Rows L2
open Exn Keys
def clsB (K : W.Frag) (C : Addr) (bm : List Value) (newId : String) (f : Str) : Bool :=
  W.excInitIn K C bm newId && W.excOver K C bm && decide (W.findIn K (.ref C) "__setattr__" = some (some (.builtin "object.__setattr__"))) &&
  decide (W.findIn K (.ref C) "__getattribute__" = some (some (.builtin "BaseException.__getattribute__"))) && decide (W.findIn K (.ref C) "__getattr__" = some none) && W.hasDictIn K C &&
  decide (W.subIn K (.ref C) (.type "BaseException") = some true) && decide (W.findIn K (.ref C) "__class__" = some (some (.builtin "object.__class__"))) && decide (W.mroIn K C (.type "object") = some true) &&
  W.keepIn K (.ref C) && decide (W.findIn K (.ref C) f = some none) && decide (W.typeIn K (.ref C) = some (.type "type"))
theorem ecl_of {K : W.Frag} {C : Addr} {bm : List Value} {B newId initId : String} {f : Str} (h : clsB K C bm newId f = true) (hb : ∃ bm', ExcBaseFacts B newId initId bm') (ht : Tail bm B) (hs : ∃ B', StoreFacts B' bm "object.__setattr__" "object") :
    Ecl K C B newId initId bm ∧ W.findIn K (.ref C) f = some none ∧ W.typeIn K (.ref C) = some (.type "type") := by
  unfold clsB at h
  simp only [Bool.and_eq_true, decide_eq_true_eq] at h
  obtain ⟨⟨⟨⟨⟨⟨⟨⟨⟨⟨⟨h1, h2⟩, h3⟩, h4⟩, h5⟩, h6⟩, h7⟩, h8⟩, h9⟩, h10⟩, h11⟩, h12⟩ := h
  exact ⟨⟨hb, ht, hs, h1, h2, h3, h4, h5, h6, h7, h8, h9, h10⟩, h11, h12⟩
/-- the text of an __init__ that keeps one thing -/
structure InitTxt (st : Stmt) (f : Str) : Prop where
  body : ∃ p1 p2 p3 p4, defBody st = [.Assign [.Attribute (.Name "self" p1) f p2] (.Name f p3) p4]
  sc : FnScope ["self", f] ["self", f] (defScope st)
  v0 : Vis (defScope st) "self"
  v1 : Vis (defScope st) f
  n1 : (f == ("__debug__" : Str)) = false
  n2 : (f == ("__classdict__" : Str)) = false
  bp : ∀ (qual : Str) (kV doc pm : Value) (an : Option Addr) (cdv ct a u : Value), bindArgs (W.fnOf "__init__" qual (defArgs st) (defBody st) (defScope st) .none kV doc pm an cdv ct) ⟨[a, u], []⟩ = pure [(("self" : Str), a), (f, u)]
  bk : ∀ (qual : Str) (kV doc pm : Value) (an : Option Addr) (cdv ct a u : Value), bindArgs (W.fnOf "__init__" qual (defArgs st) (defBody st) (defScope st) .none kV doc pm an cdv ct) ⟨[a], [(f, u)]⟩ = pure [(("self" : Str), a), (f, u)]
theorem exE : ∃ bm', ExcBaseFacts "Exception" "Exception.__new__" "Exception.__init__" bm' := ⟨_, PySem.F.excBase_Exception⟩
theorem exS : ∃ B', StoreFacts B' exTail "object.__setattr__" "object" := ⟨_, PySem.F.store_Exception⟩
theorem keE : ∃ bm', ExcBaseFacts "LookupError" "LookupError.__new__" "LookupError.__init__" bm' := ⟨_, PySem.F.excBase_LookupError⟩
theorem keS : ∃ B', StoreFacts B' keyTail "object.__setattr__" "object" := ⟨_, store_KeyError⟩
section
variable {P : Program} {w : World} {K : W.Frag} {h : Heap} {mg : Str → Option Value} {base : Heap}
theorem cl1_mk {x : Str} {C fI : Addr} {f qual : Str} {st : Stmt} {bm : List Value} {B newId initId : String} {oc kV doc pm cdv ct : Value} {od an : Option Addr} {sl : Array (Option Value)} (X : K.In h) (G : h.Ns mainGlobals mg)
    (aC : W.nsIn K mainGlobals x = some (some (.ref C))) (cb : clsB K C bm newId f = true) (iC : W.findIn K (.ref C) "__init__" = some (some (.ref fI))) (tI : W.typeIn K (.ref fI) = some (.type "function"))
    (l : K.lookup fI = some ⟨oc, od, .func (W.fnOf "__init__" qual (defArgs st) (defBody st) (defScope st) .none kV doc pm an cdv ct), sl⟩) (c : W.codeIn K cdv qual = true) (kI : W.keepIn K (.ref fI) = true)
    (ke : InitTxt st f) (hb : ∃ bm', ExcBaseFacts B newId initId bm') (ht : Tail bm B) (hs : ∃ B', StoreFacts B' bm "object.__setattr__" "object") : Cl1 P w K mg base x C f B newId initId bm := by
  obtain ⟨E, no, ty⟩ := ecl_of (initId := initId) cb hb ht hs
  obtain ⟨p1, p2, p3, p4, hB⟩ := ke.body
  have F := fun_mk (st := st) l c kI
  exact ⟨E, no, W.mg_of X G aC, ty, fI, _, iC, tI, ok_keep F E no hB ke.sc ke.v0 ke.v1 ke.n1 ke.n2, fun s a u => .of_eq (ke.bp ..), fun s a u => .of_eq (ke.bk ..)⟩
end
/-- what the written part says of an own class whose objects keep what they are given: its attributes fs -/
def ownB (K : W.Frag) (C : Addr) (fs : List Str) : Bool :=
  W.plainGet K C Str.empty && W.hasDictIn K C && W.plainOver K C && decide (W.findIn K (.ref C) "__setattr__" = some (some (.builtin "object.__setattr__"))) && W.makesIn K C && W.keepIn K (.ref C) &&
  decide (W.findIn K (.ref C) "__class__" = some (some (.builtin "object.__class__"))) && decide (W.specialIn K (.builtin "object.__class__") "__get__" = some (some (.builtin "getset_descriptor.__get__"))) &&
  decide (W.takesIn K (.builtin "object.__class__") = some true) && decide (W.mroIn K C (.type "object") = some true) && decide (W.kitOne K (.ref C) (.ref C) = some true) &&
  decide (W.specialIn K (.ref C) "__getattribute__" = some (some (.builtin "type.__getattribute__"))) && W.readsIn K C (.type "type") && fs.all fun f => decide (W.findIn K (.ref C) f = some none)
structure Own (K : W.Frag) (C : Addr) (fs : List Str) : Prop where
  cl : Cls K C
  makes : W.makesIn K C = true
  kp : W.keepIn K (.ref C) = true
  ty : ∀ (H : Hp) (a dx : Addr) (gs : List (Str × V)), H a = some (.ins C dx gs) → TyX K H (.ref a) (.ref C)
  self : W.kitOne K (.ref C) (.ref C) = some true
  cg : ClsGet K
  rd : ClX.CRead K C (.type "type")
  no : ∀ f, f ∈ fs → NoAttr K C f
theorem own_of {K : W.Frag} {C : Addr} {fs : List Str} (h : ownB K C fs = true) : Own K C fs := by
  unfold ownB at h
  simp only [Bool.and_eq_true, decide_eq_true_eq] at h
  obtain ⟨⟨⟨⟨⟨⟨⟨⟨⟨⟨⟨⟨⟨h1, h2⟩, h3⟩, h4⟩, h5⟩, h6⟩, h7⟩, h8⟩, h9⟩, h10⟩, h11⟩, h12⟩, h13⟩, h14⟩ := h
  have cl : Cls K C := ⟨h1, h2, h3, h4⟩
  exact ⟨cl, h5, h6, fun H a dx gs e => .base (.ins e cl h7 h8 h9 h10), h11, ⟨h8, h9⟩, ⟨h13, h12⟩, fun f hf => show W.findIn K (.ref C) f = some none from of_decide_eq_true (List.all_eq_true.mp h14 f hf)⟩
def strOf : Value → Option Str
  | .str s _ => some s
  | _ => none
theorem vals_strs : ∀ {us : List Value} {xs : List Str}, us.map strOf = xs.map some → Vals (xs.map V.str) us
  | [], [], _ => .nil
  | [], _ :: _, h => by cases h
  | _ :: _, [], h => by cases h
  | u :: us, x :: xs, h => by
    simp only [List.map_cons, List.cons.injEq] at h
    obtain ⟨h1, h2⟩ := h
    refine .cons ?_ (vals_strs h2)
    cases u <;> first | (cases h1; exact ⟨_, rfl⟩) | cases h1
/-- the module's name x holds a tuple of these words -/
def wordsB (K : W.Frag) (x : Str) (xs : List Str) : Bool := match W.nsIn K mainGlobals x with
  | some (some (.ref a)) => (match K.lookup a with
    | some ⟨.type t, _, .seq its _, _⟩ => decide (t = "tuple") && decide (its.toList.map strOf = xs.map some) && decide (its.size ≤ 1000)
    | _ => false)
  | _ => false
theorem words_of {K : W.Frag} {h : Heap} {mg : Str → Option Value} {x : Str} {xs : List Str} (X : K.In h) (G : h.Ns mainGlobals mg) (b : wordsB K x xs = true) : ∃ a, mg x = some (.ref a) ∧ ∀ H, SqT K H a (xs.map V.str) := by
  unfold wordsB at b
  split at b
  · rename_i a ha
    split at b
    · rename_i t d its n sl hl
      simp only [Bool.and_eq_true, decide_eq_true_eq] at b
      obtain ⟨⟨rfl, e⟩, sz⟩ := b
      refine ⟨a, W.mg_of X G ha, fun H => .inr ⟨_, its, n, hl, rfl, rfl, ?_, vals_strs e⟩⟩
      have : (1000 : Nat) ≤ sizeLine := by decide
      omega
    · cases b
  · cases b
end Fx

/-! what is a list or a tuple: walked, told off, made a tuple -/
namespace Sqx
open PySem PySem.Spec PyProof.Rows L2
open EnuT
def SeqAt (H : Hp) (a : Addr) (xs : List V) : Prop := H a = some (.lst xs) ∨ H a = some (.tup xs)
theorem SeqAt.same {H H' : Hp} (s : Same H H') {a : Addr} {xs : List V} (x : SeqAt H a xs) : SeqAt H' a xs := x.imp (s _ _) (s _ _)
theorem SeqAt.sq {K : W.Frag} {H : Hp} {a : Addr} {xs : List V} (x : SeqAt H a xs) : SqL K H a xs ∨ SqT K H a xs := x.imp SqL.of SqT.of
/-- the walk of enumerate over a list or a tuple -/
theorem en_for {K : W.Frag} {a : Addr} {xs : List V} {g : TG} {tb : TS} {D : Ends} {σ : L2.St} {H : Hp} (Pv : Nat → L2.St → Hp → Prop) (sq : SeqAt H a xs) (h0 : Pv 0 σ H)
    (hG : ∀ i σ' H', i ≤ xs.length → Pv i σ' H' → ∀ o, H a = some o → H' a = some o)
    (hs : ∀ i x σ' H' T, xs[i]? = some x → Pv i σ' H' → H' T = none → g (.ref T) σ' (upd H' T (.tup [.int (i : Nat), x])) fun σ2 H2 => tb { D with nx := Pv (i + 1), ct := Pv (i + 1), bk := D.nx } σ2 H2) (hd : ∀ σ' H', Pv xs.length σ' H' → D.nx σ' H') :
    (∃ ys : List V, SqL K H a ys ∧ ∃ W : Nat → Nat → L2.St → Hp → Prop, (∃ m, W 0 m σ H) ∧ ∀ i m σ H, W i m σ H →
      ((Ite K a).stop i H ∧ D.nx σ H) ∨ ((Ite K a).go i H ∧ ∃ N : L2.St → Hp → Prop, (∀ σ' H', N σ' H' → ∃ m', m' < m ∧ W (i + 1) m' σ' H') ∧ ∀ x H', (Ite K a).yld i H x H' → g x σ H' fun σ2 H2 => tb { D with nx := N, ct := N, bk := D.nx } σ2 H2)) ∨
    (∃ ys : List V, SqT K H a ys ∧ ∃ W : Nat → Nat → L2.St → Hp → Prop, (∃ m, W 0 m σ H) ∧ ∀ i m σ H, W i m σ H →
      ((Iet K a).stop i H ∧ D.nx σ H) ∨ ((Iet K a).go i H ∧ ∃ N : L2.St → Hp → Prop, (∀ σ' H', N σ' H' → ∃ m', m' < m ∧ W (i + 1) m' σ' H') ∧ ∀ x H', (Iet K a).yld i H x H' → g x σ H' fun σ2 H2 => tb { D with nx := N, ct := N, bk := D.nx } σ2 H2)) := by
  have step : ∀ (i : Nat) (x : V) (σ' : L2.St) (H' H'' : Hp), i < xs.length → Pv i σ' H' → YPair (fun i => some (.int (i : Nat))) (fun i => xs[i]?) i H' x H'' → g x σ' H'' fun σ2 H2 => tb { D with nx := Pv (i + 1), ct := Pv (i + 1), bk := D.nx } σ2 H2 := by
    rintro i x σ' H' H'' hi p ⟨t, y, z, rfl, nt, rfl, hy, hz⟩
    cases hy
    exact hs i z σ' H' t hz p nt
  rcases sq with e | e
  · exact .inl ⟨xs, SqL.of e, for_it (walk_enum (xs := xs)) Pv h0 (fun i σ' H' hi p => SqL.of (hG i σ' H' hi p _ e)) step hd⟩
  · exact .inr ⟨xs, SqT.of e, for_it (walk_enumT (xs := xs)) Pv h0 (fun i σ' H' hi p => SqT.of (hG i σ' H' hi p _ e)) step hd⟩
/-- what is walked in one of two ways -/
def iOr (a b : TI) : TI := fun σ H R => a σ H R ∨ b σ H R
theorem PI_or {X : Cx} {tg e : Expr} {a b : TI} (ha : PI X tg e a) (hb : PI X tg e b) : PI X tg e (iOr a b) where
  run := fun pins s σ H R I h => h.elim (ha.run pins s σ H R I) (hb.run pins s σ H R I)
/-- a comprehension over a local that is a list or a tuple -/
theorem lc_seq {K : W.Frag} {j : Nat} {a : Addr} {xs : List V} {g : TG} {tt : TT} {te : TE} {vs : List Nat} {σ : L2.St} {H : Hp} {Q : VK} (Pv : Addr → Nat → Hp → Prop) (hv : σ[j]? = some (some (.ref a))) (sq : SeqAt H a xs)
    (h0 : ∀ D, H D = none → Pv D 0 (upd H D (.lst []))) (hG : ∀ D i H', H D = none → i ≤ xs.length → Pv D i H' → ∀ o, H a = some o → H' a = some o)
    (hs : ∀ D i x H', H D = none → xs[i]? = some x → Pv D i H' → g x (wipe σ vs) H' fun σ2 H2 => wipe σ2 vs = wipe σ vs ∧ tt σ2 H2 fun b H3 =>
      if b = true then te σ2 H3 fun y H4 => ∃ acc, H4 D = some (.lst acc) ∧ acc.length < sizeLine ∧ Pv D (i + 1) (upd H4 D (.lst (acc ++ [y]))) else Pv D (i + 1) H3)
    (hd : ∀ D H', H D = none → Pv D xs.length H' → Q (.ref D) H') : tLc (iOr (iList K (tVar j)) (iTup K (tVar j))) g tt te vs σ H Q := by
  rcases sq with e | e
  · exact .inl ⟨_, hv, a, rfl, ⟨xs, SqL.of e⟩, fun D nD => lc_list (xs := xs) (Pv D) (h0 D nD) (fun i H' hi z => SqL.of (hG D i H' nD hi z _ e)) (fun i x H' hx p => hs D i x H' nD hx p) (fun H' p => hd D H' nD p)⟩
  · exact .inr ⟨_, hv, a, rfl, ⟨xs, SqT.of e⟩, fun D nD => lc_tup (xs := xs) (Pv D) (h0 D nD) (fun i H' hi z => SqT.of (hG D i H' nD hi z _ e)) (fun i x H' hx p => hs D i x H' nD hx p) (fun H' p => hd D H' nD p)⟩
/-- a target in one of two ways -/
def gOr (a b : TG) : TG := fun v σ H Q => a v σ H Q ∨ b v σ H Q
theorem PG_or {X : Cx} {tg : Expr} {a b : TG} (ha : PG X tg a) (hb : PG X tg b) : PG X tg (gOr a b) where
  run := fun pins s σ H v u Q I r h => h.elim (ha.run pins s σ H v u Q I r) (hb.run pins s σ H v u Q I r)
theorem ix_sq {K : W.Frag} {H : Hp} {a : Addr} {xs : List V} {i : Int} {x : V} {Q : VK} (sq : SeqAt H a xs) (e : atI xs i = some x) (q : Q x H) : rIx K (.ref a) (.int i) H Q := by
  rcases sq with h | h
  · exact .inl ⟨a, xs, i, x, rfl, rfl, SqL.of h, e, q⟩
  · exact .inr (.inl ⟨a, xs, i, x, rfl, rfl, SqT.of h, e, q⟩)
theorem un_sq {K : W.Frag} {H : Hp} {a : Addr} {xs : List V} {n : Nat} {t : TGs} {σ : L2.St} {Q : L2.St → Hp → Prop} (sq : SeqAt H a xs) (e : xs.length = n) (q : t xs σ H Q) : gOr (gTup K n t) (gUnl K n t) (.ref a) σ H Q := by
  rcases sq with h | h
  · exact .inr ⟨a, xs, rfl, SqL.of h, e, q⟩
  · exact .inl ⟨a, xs, rfl, SqT.of h, e, q⟩
end Sqx

/-! what is written down: each thing in a list of them has a property that stays -/
namespace Gvx
open PySem PySem.Spec PyProof.Rows L2
def Stay (I : Hp → Prop) : Prop := ∀ H H', Same H H' → I H → I H'
def StayV (W : Hp → V → Prop) : Prop := ∀ H H' x, Same H H' → W H x → W H' x
def Gv (I : Hp → Prop) (W : Hp → V → Prop) (t : TE) (σ : L2.St) : Prop := ∀ (H : Hp) (Q : VK), I H → (∀ x H', Same H H' → W H' x → Q x H') → t σ H Q
def Gvs (I : Hp → Prop) (W : Hp → V → Prop) (ta : TA) (σ : L2.St) (n : Nat) : Prop := ∀ (H : Hp) (Q : List V → Hp → Prop), I H → (∀ xs H', Same H H' → xs.length = n → (∀ x, x ∈ xs → W H' x) → Q xs H') → ta σ H Q
def Gx (ta : TA) (σ : L2.St) (vals : List V) : Prop := ∀ (H : Hp) (Q : List V → Hp → Prop), Q vals H → ta σ H Q
section
variable {I : Hp → Prop} {W : Hp → V → Prop} {t : TE} {ta : TA} {σ : L2.St} {n : Nat} {vals xs : List V} {H : Hp} {Q : VK}
theorem gx_nil : Gx tNil σ [] := fun _ _ q => q
theorem gx_c {v : V} (g : Gx ta σ vals) : Gx (tCons (tC v) ta) σ (v :: vals) := fun H Q q => g H (fun xs H2 => Q (v :: xs) H2) q
theorem gx_v {i : Nat} {v : V} (g : Gx ta σ vals) (e : σ[i]? = some (some v)) : Gx (tCons (tVar i) ta) σ (v :: vals) := fun H Q q => ⟨v, e, g H (fun xs H2 => Q (v :: xs) H2) q⟩
theorem gv_c {v : V} (h : ∀ H, I H → W H v) : Gv I W (tC v) σ := fun H Q i k => k v H (Same.refl _) (h H i)
theorem gv_tup (g : Gx ta σ vals) (few : vals.length ≤ sizeLine) (h : ∀ H a, I H → H a = none → W (upd H a (.tup vals)) (.ref a)) : Gv I W (tTup ta) σ := fun H Q i k =>
  g H _ ⟨few, fun p np => k _ _ (fun b u e => by rw [upd_ne (ne_of_none e np)]; exact e) (h H p i np)⟩
theorem gv_lst (g : Gx ta σ vals) (few : vals.length ≤ sizeLine) (h : ∀ H a, I H → H a = none → W (upd H a (.lst vals)) (.ref a)) : Gv I W (tLst ta) σ := fun H Q i k =>
  g H _ ⟨few, fun p np => k _ _ (fun b u e => by rw [upd_ne (ne_of_none e np)]; exact e) (h H p i np)⟩
theorem gvs_nil : Gvs I W tNil σ 0 := fun H Q _ k => k [] H (Same.refl _) rfl (fun _ h => nomatch h)
theorem gvs_cons (sI : Stay I) (sW : StayV W) (g : Gv I W t σ) (gs : Gvs I W ta σ n) : Gvs I W (tCons t ta) σ (n + 1) := fun H Q i k =>
  g H _ i fun x H1 s1 w1 => gs H1 _ (sI _ _ s1 i) fun xs H2 s2 l2 all => k (x :: xs) H2 (s1.trans s2) (by rw [List.length_cons, l2]) fun y hy => by
    rcases List.mem_cons.mp hy with z | z
    · rw [z]
      exact sW _ _ _ s2 w1
    · exact all y z
/-- a list of them -/
theorem lst_gv (sW : StayV W) (g : Gvs I W ta σ n) (i : I H) (few : n ≤ sizeLine) (k : ∀ xs H' l, Same H H' → H l = none → H' l = some (.lst xs) → xs.length = n → (∀ x, x ∈ xs → W H' x) → Q (.ref l) H') : tLst ta σ H Q :=
  g H _ i fun xs H1 s1 l1 all => ⟨by omega, fun p np => by
    have s2 : Same H1 (upd H1 p (.lst xs)) := fun b u e => by rw [upd_ne (ne_of_none e np)]; exact e
    exact k xs _ p (s1.trans s2) (s1.free np) upd_same l1 fun x hx => sW _ _ _ s2 (all x hx)⟩
/-- a list and one of them -/
theorem cat_gv {j : Nat} {l : Addr} (sW : StayV W) (hv : σ[j]? = some (some (.ref l))) (hl : H l = some (.lst xs)) (aw : ∀ x, x ∈ xs → W H x) (g : Gvs I W ta σ n) (i : I H) (few : xs.length + n ≤ sizeLine)
    (k : ∀ ys H' p, Same H H' → H p = none → H' p = some (.lst ys) → ys.length = xs.length + n → (∀ x, x ∈ ys → W H' x) → Q (.ref p) H') : tOp rCat (tVar j) (tLst ta) σ H Q :=
  ⟨_, hv, lst_gv sW g i (by omega) fun zs H1 m s1 nm hm lm all => ⟨l, m, xs, zs, rfl, rfl, s1 _ _ hl, hm, by omega, fun p np => by
    have s2 : Same H1 (upd H1 p (.lst (xs ++ zs))) := fun b u e => by rw [upd_ne (ne_of_none e np)]; exact e
    refine k _ _ p (s1.trans s2) (s1.free np) upd_same (by rw [List.length_append, lm]) fun x hx => ?_
    rcases List.mem_append.mp hx with z | z
    · exact sW _ _ _ (s1.trans s2) (aw x z)
    · exact sW _ _ _ s2 (all x z)⟩⟩
theorem seq_set {te : TE} {i : Nat} {T : TS} {D : Ends} (h : te σ H fun x H1 => T D (σ.set i (some x)) H1) : tSeq (tAsg te (gName i)) T D σ H := h
theorem ret_of {te : TE} {D : Ends} (h : te σ H D.rt) : tRet te D σ H := h
end
end Gvx

namespace K02
open PySem PySem.Spec PyProof.Rows L2
def top (i : Nat) : Stmt := PySem.Challenge.pw_lightsout_k02_houses_refused.main.body.getD i (.Pass ⟨0, 0, 0, 0⟩)
abbrev sIsSeq : Stmt := top 2
abbrev sIsName : Stmt := top 3
abbrev sChParts : Stmt := top 13
abbrev sIsDoor : Stmt := top 14
abbrev sIsCell : Stmt := top 15
abbrev sChThings : Stmt := top 16
abbrev sNumbers : Stmt := top 17
abbrev sNumOf : Stmt := top 18
abbrev sThing : Stmt := top 19
abbrev sHouse : Stmt := top 20
abbrev sBox : Stmt := top 22
abbrev sTake : Stmt := top 23
abbrev sPick : Stmt := top 24
abbrev sMixed : Stmt := top 25
abbrev sThings : Stmt := top 26
abbrev sHeard : Stmt := top 27
abbrev sWrongDoor : Stmt := top 28
abbrev sWrongCell : Stmt := top 29
abbrev sBent : Stmt := top 30
abbrev sTexts : Stmt := top 31
abbrev sLaw : Stmt := top 32
abbrev sInit : Stmt := inClass sHouse 0
abbrev sRead : Stmt := inClass sHouse 2
abbrev sText : Stmt := inClass sHouse 3
abbrev sNumPart : Stmt := inClass sHouse 4
/-- the box at p -/
def Box (H : Hp) (p : Addr) : Prop := ∃ b0 b1 b2 : Int, H p = some (.lst [.int b0, .int b1, .int b2]) ∧ 0 ≤ b0 ∧ 0 ≤ b1 ∧ 0 ≤ b2
/-- all but the box is as it was -/
def But (p : Addr) (H H' : Hp) : Prop := ∀ b o, b ≠ p → H b = some o → H' b = some o

def spBox (K : W.Frag) : Sp := fun vs H Q _ => ∃ (a : Addr) (ns : List Int) (k : Nat), vs = [.ref a, .int k] ∧ SqL K H a (ns.map V.int) ∧ ns.length ≤ 63 ∧ k ≤ 2 ∧ (k < ns.length ∨ ns = []) ∧
  ∀ H' p, Same H H' → H p = none → Box H' p → Q (.ref p) H'
def spTake : Sp := fun vs H Q _ => ∃ (p : Addr) (m : Int), vs = [.ref p, .int m] ∧ Box H p ∧ 1 ≤ m ∧ m ≤ 1000 ∧
  ∀ (r : Int) H', 0 ≤ r → r < m → But p H H' → Box H' p → Q (.int r) H'
def spPick : Sp := fun vs H Q _ => ∃ (p q : Addr) (xs : List V), vs = [.ref p, .ref q] ∧ p ≠ q ∧ Box H p ∧ H q = some (.lst xs) ∧ 1 ≤ xs.length ∧ xs.length ≤ 1000 ∧
  ∀ x H', x ∈ xs → But p H H' → Box H' p → Q x H'

structure Nums (mg : Str → Option Value) : Prop where
  len : mg "len" = none
  abs : mg "abs" = none
  int : mg "int" = none

section
variable {P : Program} {w : World} {K : W.Frag} {mg : Str → Option Value} {base : Heap}
theorem scB : FnScope ["script", "k", "cell"] ["script", "k"] (defScope sBox) := ⟨rfl, rfl, rfl, by decide +kernel, rfl, by decide +kernel, by decide +kernel⟩
theorem ok_box {f : Addr} {fd : FuncData} (F : Fun K "_law_box" "_law_box" sBox f fd) (N : Nums mg) : FnOk P w K mg base CX0 1 f fd ["script", "k"] (spBox K) := by
  refine F.ok scB (fun vs H Q E h => ?_) (fun cdv A outer s H vs Q E hr h => ?_)
  · obtain ⟨a, ns, k, rfl, _⟩ := h
    rfl
  · obtain ⟨a, ns, k, rfl, hS, hl, hk, hcase, q⟩ := h
    obtain ⟨t, ht, hq⟩ : ∃ t, PSs (cxOf CX0 P w K mg base ["script", "k", "cell"] "_law_box" (defScope sBox) f cdv A outer s H E).nox ((defBody sBox).drop 2) t ∧
        ∀ c : Int, 0 ≤ c → t { nx := fun _ H' => Q .non H', rt := Q } [some (.ref a), some (.int (k : Nat)), some (.int c)] H := by
      refine ⟨_, pss_one (ps_ret (pe_lst (pa_cons (pe_ix ix_list (pe_lst (pa_cons pe_int (pa_cons (pv 2) pa_nil))) (pe_callTy call_int1 (by rfl) N.int (by decide +kernel) (pa_cons (pe_cmpR op_ge (pv 2) (pe_op op_pow pe_int pe_int) (nomark _)) pa_nil)) (fun _ _ => rfl))
        (pa_cons (pe_op op_add (pe_op op_mod (pe_callTy call_int1 (by rfl) N.int (by decide +kernel) (pa_cons (pe_op op_add (pe_op op_add (pe_op op_mul (pe_op op_mod (pe_callTy call_int1 (by rfl) N.int (by decide +kernel) (pa_cons (pv 2) pa_nil)) pe_int) pe_int) (pe_op op_mul pe_int (pv 1))) pe_int) pa_nil)) pe_int) pe_int)
        (pa_cons pe_int pa_nil))))), fun c hc => ?_⟩
      refine ⟨_, rfl, by show 2 ≤ sizeLine; decide, fun l hl => ?_⟩
      refine ⟨_, rfl, _, _, rfl, rfl, ⟨by decide, by decide, by decide⟩, _, _, rfl, rfl, ?_⟩
      refine .inr ⟨_, rfl, l, _, _, if decide ((10 : Int) ^ (18 : Int).toNat ≤ c) = true then .int c else .int 0, rfl, rfl, SqL.of upd_same, ?_, ?_⟩
      · by_cases hb : (10 : Int) ^ (18 : Int).toNat ≤ c
        · rw [decide_eq_true hb]
          rfl
        · rw [decide_eq_false hb]
          rfl
      · refine ⟨_, rfl, .inl ⟨_, rfl, ?_⟩⟩
        refine ⟨_, _, rfl, rfl, by show (0 : Int) < 2147483629; decide, _, _, rfl, rfl, .inr ⟨by decide, by decide⟩, _, rfl, _, _, rfl, rfl, .inl ⟨by decide, by decide⟩, _, _, rfl, rfl, _, _, rfl, rfl, .inl ⟨_, rfl, ?_⟩⟩
        refine ⟨_, _, rfl, rfl, by show (0 : Int) < 2147483629; decide, _, _, rfl, rfl, by show 3 ≤ sizeLine; decide, fun p hp => ?_⟩
        have npl : p ≠ l := fun z => by
          rw [z, upd_same] at hp
          cases hp
        have hp0 : H p = Option.none := by
          rw [upd_ne npl] at hp
          exact hp
        refine q _ p (fun b o e => ?_) hp0 ?_
        · rw [upd_ne (ne_of_none e hp0), upd_ne (ne_of_none e hl)]
          exact e
        · have hm : ∀ z : Int, 0 ≤ z % 2147483629 + 1 := fun z => by omega
          by_cases hb : (10 : Int) ^ (18 : Int).toNat ≤ c
          · rw [decide_eq_true hb]
            exact ⟨c, _, 0, upd_same, hc, hm _, by decide⟩
          · rw [decide_eq_false hb]
            exact ⟨0, _, 0, upd_same, by decide, hm _, by decide⟩
    refine ⟨_, pss_cons (ps_set (i := 2) scB.nd rfl (Or.inl rfl) (pe_op op_add (pe_op op_mul pe_int (pv 1)) pe_int))
      (pss_cons (ps_if (pt_cmpR op_lt (pv 1) (pe_callB call_len_seq (by rfl) N.len PySem.boot_len (pa_cons (pv 0) pa_nil)) (nomark _))
          (pss_one (ps_set (i := 2) scB.nd rfl (Or.inl rfl) (pe_callB call_abs (by rfl) N.abs (by decide +kernel) (pa_cons (pe_ix ix_list (pv 0) (pv 1) (fun _ _ => rfl)) pa_nil))))
          (pss_one (ps_if (pt_cmpR op_gt (pe_callB call_len_seq (by rfl) N.len PySem.boot_len (pa_cons (pv 0) pa_nil)) pe_int (nomark _)) (pss_one ps_never) pss_nil)))
      ht), ?_⟩
    refine ⟨_, rfl, _, _, rfl, rfl, .inl ⟨by decide, by decide⟩, _, _, rfl, rfl, ?_⟩
    refine ⟨_, rfl, _, rfl, a, _, rfl, .inl hS, _, _, rfl, rfl, _, rfl, ?_⟩
    refine ite2 (fun hb => ?_) (fun hb => ?_)
    · have hb2 := of_decide_eq_true hb
      rw [List.length_map] at hb2
      have hb3 : k < ns.length := by omega
      refine ⟨_, rfl, _, rfl, a, _, _, V.int ns[k], rfl, rfl, hS, atI_nat (by simp [hb3]), _, rfl, hq _ ?_⟩
      by_cases hn : ns[k] < 0
      · rw [if_pos hn]
        omega
      · rw [if_neg hn]
        omega
    · have hb2 : ¬ ((k : Int) < ((ns.map V.int).length : Nat)) := fun z => hb (decide_eq_true z)
      rw [List.length_map] at hb2
      have hn : ns = [] := by
        rcases hcase with z | z
        · omega
        · exact z
      subst hn
      refine ⟨_, rfl, a, _, rfl, .inl hS, _, _, rfl, rfl, _, rfl, ?_⟩
      refine iteF (hq _ ?_)
      show 0 ≤ 8287 * (k : Int) + 30491
      omega
theorem scT : FnScope ["box", "many", "digit", "raw"] ["box", "many"] (defScope sTake) := ⟨rfl, rfl, rfl, by decide +kernel, rfl, by decide +kernel, by decide +kernel⟩
theorem ok_take {f : Addr} {fd : FuncData} (F : Fun K "_law_take" "_law_take" sTake f fd) (N : Nums mg) : FnOk P w K mg base CX0 1 f fd ["box", "many"] spTake := by
  refine F.ok scT (fun vs H Q E h => ?_) (fun cdv A outer s H vs Q E hr h => ?_)
  · obtain ⟨p, m, rfl, _⟩ := h
    rfl
  · obtain ⟨p, m, rfl, ⟨b0, b1, b2, hB, n0, n1, n2⟩, m1, m2, q⟩ := h
    refine ⟨_, pss_cons (ps_if (pt_cmpR op_gt (pe_ix ix_list (pv 0) pe_int (fun _ _ => rfl)) pe_int (nomark _))
        (pss_cons (ps_set (i := 2) scT.nd rfl (Or.inl rfl) (pe_op op_mod (pe_callTy call_int1 (by rfl) N.int (by decide +kernel) (pa_cons (pe_ix ix_list (pv 0) pe_int (fun _ _ => rfl)) pa_nil)) (pv 1)))
        (pss_cons (ps_asg (pe_op op_fdiv (pe_ix ix_list (pv 0) pe_int (fun _ _ => rfl)) (pv 1)) (pg_sub (pv 0) pe_int set_list))
        (pss_one (ps_ret (pv 2))))) pss_nil)
      (pss_cons (ps_asg (pe_op op_add (pe_ix ix_list (pv 0) pe_int (fun _ _ => rfl)) pe_int) (pg_sub (pv 0) pe_int set_list))
      (pss_cons (ps_set (i := 3) scT.nd rfl (Or.inl rfl) (pe_op op_mod (pe_callTy call_int1 (by rfl) N.int (by decide +kernel) (pa_cons (pe_op op_add (pe_op op_mul (pe_op op_add (pe_ix ix_list (pv 0) pe_int (fun _ _ => rfl)) (pe_op op_mul pe_int (pe_ix ix_list (pv 0) pe_int (fun _ _ => rfl)))) pe_int) pe_int) pa_nil)) pe_int))
      (pss_cons (ps_asg (pe_op op_add (pe_op op_mod (pe_callTy call_int1 (by rfl) N.int (by decide +kernel) (pa_cons (pe_op op_add (pe_op op_mul (pv 3) pe_int) pe_int) pa_nil)) pe_int) pe_int) (pg_sub (pv 0) pe_int set_list))
      (pss_one (ps_ret (pe_op op_mod (pe_callTy call_int1 (by rfl) N.int (by decide +kernel) (pa_cons (pe_op op_fdiv (pe_op op_add (pe_op op_mul (pv 3) pe_int) (pe_ix ix_list (pv 0) pe_int (fun _ _ => rfl))) pe_int) pa_nil)) (pv 1)))))))
      , ?_⟩
    refine ⟨_, rfl, p, _, _, V.int b0, rfl, rfl, SqL.of hB, atI_nat (j := 0) rfl, _, _, rfl, rfl, _, rfl, ?_⟩
    refine ite2 (fun hb => ?_) (fun hb => ?_)
    · refine ⟨_, rfl, p, _, _, V.int b0, rfl, rfl, SqL.of hB, atI_nat (j := 0) rfl, .inl ⟨_, rfl, _, rfl, _, _, rfl, rfl, by show 0 < m; omega, ?_⟩⟩
      refine ⟨_, rfl, p, _, _, V.int b0, rfl, rfl, SqL.of hB, atI_nat (j := 0) rfl, _, rfl, _, _, rfl, rfl, ⟨by show 0 < m; omega, by show m < 1073741824; omega⟩, ?_⟩
      refine ⟨_, rfl, p, _, _, 0, rfl, rfl, hB, rfl, ?_⟩
      refine ⟨_, rfl, q (b0 % m) _ (Int.emod_nonneg _ (by omega)) (Int.emod_lt_of_pos _ (by omega)) (fun b o ne e => ?_) ⟨b0 / m, b1, b2, upd_same, Int.ediv_nonneg n0 (by omega), n1, n2⟩⟩
      rw [upd_ne ne]
      exact e
    · refine ⟨_, rfl, p, _, _, V.int b2, rfl, rfl, SqL.of hB, atI_nat (j := 2) rfl, _, _, rfl, rfl, _, rfl, p, _, _, 2, rfl, rfl, hB, rfl, ?_⟩
      refine ⟨_, rfl, p, _, _, V.int b1, rfl, rfl, SqL.of upd_same, atI_nat (j := 1) rfl, _, rfl, p, _, _, V.int (b2 + 1), rfl, rfl, SqL.of upd_same, atI_nat (j := 2) rfl, _, _, rfl, rfl, .inl ⟨by decide, by decide⟩, _, _, rfl, rfl,
        _, _, rfl, rfl, .inr ⟨by decide, by decide⟩, _, _, rfl, rfl, .inl ⟨_, rfl, _, _, rfl, rfl, by show (0 : Int) < 2147483563; decide, ?_⟩⟩
      refine ⟨_, rfl, _, _, rfl, rfl, .inr ⟨by decide, by decide⟩, _, _, rfl, rfl, .inl ⟨_, rfl, _, _, rfl, rfl, by show (0 : Int) < 2147483629; decide, _, _, rfl, rfl, _, rfl, p, _, _, 1, rfl, rfl, upd_same, rfl, ?_⟩⟩
      refine ⟨_, rfl, _, _, rfl, rfl, .inr ⟨by decide, by decide⟩, _, rfl, p, _, _, V.int _, rfl, rfl, SqL.of upd_same, atI_nat (j := 1) rfl, _, _, rfl, rfl, _, _, rfl, rfl, ⟨by decide, by decide⟩, .inl ⟨_, rfl, _, rfl, _, _, rfl, rfl, by show 0 < m; omega, ?_⟩⟩
      refine q _ _ (Int.emod_nonneg _ (by omega)) (Int.emod_lt_of_pos _ (by omega)) (fun b o ne e => ?_) ⟨b0, _, b2 + 1, upd_same, n0, ?_, by omega⟩
      · rw [upd_ne ne, upd_ne ne]
        exact e
      · have hm : ∀ z : Int, 0 ≤ z % 2147483629 + 1 := fun z => by omega
        exact hm _
theorem scP : FnScope ["box", "some"] ["box", "some"] (defScope sPick) := ⟨rfl, rfl, rfl, by decide +kernel, rfl, by decide +kernel, by decide +kernel⟩
theorem ok_pick {f fT : Addr} {fd fdT : FuncData} (F : Fun K "_law_pick" "_law_pick" sPick f fd) (N : Nums mg) (FT : Fun K "_law_take" "_law_take" sTake fT fdT) (bT : Binds K fdT ["box", "many"] []) (mT : mg "_law_take" = some (.ref fT)) :
    FnOk P w K mg base CX0 2 f fd ["box", "some"] spPick := by
  have GT : FnOk P w K mg base CX0 1 fT fdT ["box", "many"] spTake := ok_take FT N
  refine F.ok scP (fun vs H Q E h => ?_) (fun cdv A outer s H vs Q E hr h => ?_)
  · obtain ⟨p, q, xs, rfl, _⟩ := h
    rfl
  · obtain ⟨p, l, xs, rfl, ne, hB, hL, l1, l2, q⟩ := h
    refine ⟨_, pss_one (ps_ret (pe_ix ix_list (pv 1) (pe_call GT hr rfl mT FT.kp bT .nil pass0 (pa_cons (pv 0) (pa_cons (pe_callB call_len_seq (by rfl) N.len PySem.boot_len (pa_cons (pv 1) pa_nil)) pa_nil))) (fun _ _ => rfl))), ?_⟩
    refine ⟨_, rfl, _, rfl, _, rfl, l, _, rfl, .inl (SqL.of hL), p, _, rfl, hB, by omega, by omega, fun r H' r0 r1 but hB' => ?_⟩
    obtain ⟨j, rfl⟩ : ∃ j : Nat, r = (j : Int) := ⟨r.toNat, by omega⟩
    have hj : j < xs.length := by omega
    refine ⟨l, xs, _, xs[j], rfl, rfl, SqL.of (but _ _ (Ne.symm ne) hL), atI_nat (by simp [hj]), ?_⟩
    exact q _ _ (List.getElem_mem hj) but hB'
end
end K02

namespace K02
open PySem PySem.Spec PyProof.Rows L2
open Cal EnuT

/-- a def by its name in the module -/
def Callee (P : Program) (w : World) (K : W.Frag) (mg : Str → Option Value) (base : Heap) (x : Str) (k : Nat) (ps : List Str) (sp : Sp) : Prop :=
  ∃ f fd, mg x = some (.ref f) ∧ W.keepIn K (.ref f) = true ∧ Binds K fd ps [] ∧ FnOk P w K mg base CX0 k f fd ps sp
theorem pe_callee {X : Cx} {x : Str} {k : Nat} {ps : List Str} {sp : Sp} {p pos : Pos} {e : Expr} {es : List Expr} {t : TA} (c : Callee X.prog X.w X.K X.mg X.base x k ps sp) (hr : Room k X.A) (hg : Gl X x) (ha : PA X (e :: es) t)
    (hdb : (x == ("__debug__" : Str)) = false := by decide) (he : starEach (e :: es) X.env = (false, eval e X.env) :: starEach es X.env := by rfl) (hpl : (backTo pos (starEach es X.env)).any (·.1) = false := by rfl) :
    PE X (.Call (.Name x p) (e :: es) [] pos) (tCall sp [] E0 t) := by
  obtain ⟨f, fd, m, kp, b, F⟩ := c
  exact pe_call F hr hg m kp b .nil pass0 ha hdb he hpl
theorem But.of_same {p : Addr} {H H' : Hp} (s : Same H H') : But p H H' := fun b o _ e => s b o e
theorem But.same {p : Addr} {H0 H H' : Hp} (b : But p H H') (s : Same H0 H) (n : H0 p = none) : Same H0 H' := fun c o e => b c o (fun z => by
  rw [z, n] at e
  cases e) (s c o e)
theorem But.trans {p : Addr} {H H1 H2 : Hp} (a : But p H H1) (b : But p H1 H2) : But p H H2 := fun c o ne e => b c o ne (a c o ne e)
theorem Box.same {p : Addr} {H H' : Hp} (b : Box H p) (s : Same H H') : Box H' p := by
  obtain ⟨b0, b1, b2, e, h⟩ := b
  exact ⟨b0, b1, b2, s _ _ e, h⟩
theorem Box.ne {p b : Addr} {H : Hp} {o : HO} (x : Box H p) (e : H b = some o) (h : ∀ b0 b1 b2 : Int, o ≠ .lst [.int b0, .int b1, .int b2]) : b ≠ p := by
  obtain ⟨b0, b1, b2, at_p, _⟩ := x
  exact ne_of e at_p (h b0 b1 b2)
theorem Box.same' {p a b : Addr} {H : Hp} {o u : HO} (x : Box H p) (hb : b ≠ p) (ha : a ≠ p) : Box (upd (upd H a o) b u) p := by
  obtain ⟨b0, b1, b2, e, h⟩ := x
  exact ⟨b0, b1, b2, by rw [upd_ne (Ne.symm hb), upd_ne (Ne.symm ha)]; exact e, h⟩
theorem map_eraseIdx {α β : Type} (f : α → β) : ∀ (xs : List α) (j : Nat), (xs.map f).eraseIdx j = (xs.eraseIdx j).map f
  | [], _ => rfl
  | _ :: _, 0 => rfl
  | x :: xs, j + 1 => by simp [map_eraseIdx f xs j]
theorem erase_perm {α : Type} : ∀ (l : List α) (j : Nat) (h : j < l.length), (l[j] :: l.eraseIdx j).Perm l
  | x :: xs, 0, _ => .refl _
  | x :: xs, j + 1, h => by
    have h1 : j < xs.length := by simpa using h
    show (xs[j] :: x :: xs.eraseIdx j).Perm (x :: xs)
    exact (List.Perm.swap x xs[j] _).trans ((erase_perm xs j h1).cons x)
theorem same_upd {H : Hp} {l : Addr} {o : HO} (n : H l = none) : Same H (upd H l o) := fun b u e => by
  rw [upd_ne (ne_of_none e n)]
  exact e
theorem none_of_upd {H : Hp} {a b : Addr} {o : HO} (h : upd H a o b = none) : H b = none ∧ a ≠ b := by
  by_cases z : b = a
  · rw [z, upd_same] at h
    cases h
  · rw [upd_ne z] at h
    exact ⟨h, Ne.symm z⟩

/-! ### what the module has of none -/
structure Bl (mg : Str → Option Value) : Prop where
  nums : Nums mg
  range : mg "range" = none
  list : mg "list" = none
  tuple : mg "tuple" = none
  isi : mg "isinstance" = none
  enu : mg "enumerate" = none
  str : mg "str" = none
  bool : mg "bool" = none
  all : mg "all" = none
  repr : mg "repr" = none
  max : mg "max" = none
  min : mg "min" = none

/-! ### mixed -/
def spMixed : Sp := fun vs H Q _ => ∃ (p q : Addr) (xs : List Str), vs = [.ref p, .ref q] ∧ Box H p ∧ H q = some (.lst (xs.map V.str)) ∧ xs.length ≤ 100 ∧ (∀ x, x ∈ xs → PyData.strOk x = true) ∧
  ∀ (ys : List Str) H' l, ys.Perm xs → But p H H' → Box H' p → H l = none → H' l = some (.lst (ys.map V.str)) → Q (.ref l) H'
theorem dps_str {K : W.Frag} {H : Hp} : ∀ xs : List Str, DpAll K H (xs.map V.str) (xs.map PyData.str)
  | [] => .nil
  | _ :: xs => .cons (.str _) (dps_str xs)
theorem canLay_strs : ∀ xs : List Str, (∀ x, x ∈ xs → PyData.strOk x = true) → PyData.canLayAll0 (xs.map PyData.str) = true
  | [], _ => by simp [PyData.canLayAll0]
  | x :: xs, h => by
    have h1 := canLay_strs xs fun y hy => h y (List.mem_cons_of_mem _ hy)
    have h2 := h x (List.mem_cons_self ..)
    simp [PyData.canLayAll0, PyData.canLay0, h1, h2]
theorem depth_strs : ∀ xs : List Str, PyData.depthAll (xs.map PyData.str) ≤ 1
  | [] => by simp [PyData.depthAll]
  | x :: xs => by
    have := depth_strs xs
    simp [PyData.depthAll, PyData.depth]
    omega
theorem shaped_strs (xs : List Str) (h : ∀ x, x ∈ xs → PyData.strOk x = true) : SeqAt.shaped (.list (xs.map PyData.str)) = true := by
  have := depth_strs xs
  simp [SeqAt.shaped, PyData.canLay0, canLay_strs xs h, PyData.depth]
  omega
def lenAt (a : Addr) (H : Hp) : Nat := match H a with
  | some (.lst xs) => xs.length
  | _ => 0
section
variable {P : Program} {w : World} {K : W.Frag} {mg : Str → Option Value} {base : Heap}
theorem scM : FnScope ["box", "some", "left", "found"] ["box", "some"] (defScope sMixed) := ⟨rfl, rfl, rfl, by decide +kernel, rfl, by decide +kernel, by decide +kernel⟩
theorem ok_mixed {f : Addr} {fd : FuncData} (F : Fun K "_law_mixed" "_law_mixed" sMixed f fd) (B : Bl mg) (T : Callee P w K mg base "_law_take" 1 ["box", "many"] spTake) :
    FnOk P w K mg base CX0 2 f fd ["box", "some"] spMixed := by
  refine F.ok scM (fun vs H Q E h => ?_) (fun cdv A outer s H vs Q E hr h => ?_)
  · obtain ⟨p, q, xs, rfl, _⟩ := h
    rfl
  · obtain ⟨p, q, xs, rfl, hB, hq, few, ok, k⟩ := h
    have un := hr.units
    refine ⟨_, pss_cons (ps_par (i := 2) (j := 3) (by rfl) scM.nd rfl rfl (by decide) rfl rfl (pa_cons (pe_callTy call_list_of (by rfl) B.list (by decide +kernel) (pa_cons (pv 1) pa_nil)) (pa_cons (pe_lst pa_nil) pa_nil)) (by rfl))
      (pss_cons (ps_while PassesOwn.never (pt_cmpR (op_neD un) (pv 2) (pe_lst pa_nil) (nomark _))
        (pss_one (ps_expr (pe_bm PySem.F.plainAttrs_list PySem.F.slot_list_append PySem.F.type_list_append mt_append (pv 3)
          (pa_cons (pe_bm PySem.F.plainAttrs_list PySem.F.slot_list_pop PySem.F.type_list_pop mt_popAt (pv 2) (pa_cons (pe_callee T (hr.mono (by decide)) rfl (pa_cons (pv 0) (pa_cons (pe_callB call_len_seq (by rfl) B.nums.len PySem.boot_len (pa_cons (pv 2) pa_nil)) pa_nil))) pa_nil)) pa_nil)))))
      (pss_one (ps_ret (pv 3)))), ?_⟩
    refine ⟨_, rfl, q, _, rfl, .inl (SqL.of hq), fun a na => ⟨Nat.zero_le _, fun b nb => ⟨_, _, rfl, ?_⟩⟩⟩
    obtain ⟨nb0, ab⟩ := none_of_upd nb
    have ap : a ≠ p := fun z => by
      obtain ⟨b0, b1, b2, e, _⟩ := hB
      rw [z, e] at na
      cases na
    have bp : b ≠ p := fun z => by
      obtain ⟨b0, b1, b2, e, _⟩ := hB
      rw [z, e] at nb0
      cases nb0
    have s0 : Same H (upd (upd H a (.lst (xs.map V.str))) b (.lst [])) := (same_upd na).trans (same_upd nb)
    refine while_by (fun σ H' => ∃ ls fs : List Str, σ = [some (.ref p), some (.ref q), some (.ref a), some (.ref b)] ∧ (∀ c o, c ≠ p → H c = some o → H' c = some o) ∧ Box H' p ∧ H' a = some (.lst (ls.map V.str)) ∧
      H' b = some (.lst (fs.map V.str)) ∧ (ls ++ fs).Perm xs) (fun _ H' => lenAt a H') ⟨xs, [], rfl, fun c o _ e => s0 _ _ e, hB.same s0, by rw [upd_ne ab]; exact upd_same, upd_same, by rw [List.append_nil]⟩ ?_ ?_
    · rintro σ H1 ⟨ls, fs, rfl, keep, x1, at_a, at_b, perm⟩
      refine ⟨_, rfl, Nat.zero_le _, fun l nl => ?_⟩
      have s1 : Same H1 (upd H1 l (.lst [])) := same_upd nl
      refine ⟨.list (ls.map PyData.str), .list [], .lst (SqL.of (s1 _ _ at_a)) (dps_str ls), .lst (SqL.of upd_same) .nil, shaped_strs ls (fun x hx => ok x (perm.subset (List.mem_append_left _ hx))), rfl, _, rfl, ?_⟩
      cases ls with
      | nil =>
        refine iteF ?_
        refine ⟨_, rfl, k fs _ b (by simpa using perm) (fun c o ne e => s1 _ _ (keep c o ne e)) (x1.same s1) nb0 (s1 _ _ at_b)⟩
      | cons y ls =>
        refine iteT ?_
        have len : (y :: ls).length + fs.length = xs.length := by rw [← List.length_append]; exact perm.length_eq
        refine ⟨_, rfl, .inl ⟨rfl, _, SqL.of (s1 _ _ at_b)⟩, ?_⟩
        refine ⟨_, rfl, .inl ⟨rfl, _, SqL.of (s1 _ _ at_a)⟩, ?_⟩
        refine ⟨_, rfl, _, rfl, a, _, rfl, .inl (SqL.of (s1 _ _ at_a)), ?_⟩
        refine ⟨p, _, rfl, x1.same s1, by simp; omega, by simp at len ⊢; omega, fun r H3 r0 r1 but3 x3 => ?_⟩
        obtain ⟨j, rfl⟩ : ∃ j : Nat, r = (j : Int) := ⟨r.toNat, by omega⟩
        have hj : j < (y :: ls).length := by simp at r1 ⊢; omega
        have at_a3 : H3 a = some (.lst ((y :: ls).map V.str)) := but3 _ _ ap (s1 _ _ at_a)
        have at_b3 : H3 b = some (.lst (fs.map V.str)) := but3 _ _ bp (s1 _ _ at_b)
        refine ⟨a, _, _, j, V.str (y :: ls)[j], rfl, rfl, at_a3, by omega, by simp at hj len; omega, ?_, ?_, ?_⟩
        · have z := seqIndex_of (k := (j : Int)) (n := ((y :: ls).map V.str).length) (by omega) (by simp at hj ⊢; omega)
          simpa using z
        · rw [List.getElem?_map, List.getElem?_eq_getElem hj]
          rfl
        · refine ⟨b, _, _, rfl, rfl, (upd_ne (Ne.symm ab)).trans at_b3, ?_, ?_⟩
          · have : (100 : Nat) ≤ sizeLine := by decide
            rw [List.length_map]
            simp at len
            omega
          · refine ⟨⟨(y :: ls).eraseIdx j, fs ++ [(y :: ls)[j]], rfl, fun c o ne e => ?_, x3.same' ?_ ?_, ?_, ?_, ?_⟩, ?_⟩
            · have e3 := but3 c o ne (s1 _ _ (keep c o ne e))
              rw [upd_ne (fun z => by rw [z] at e; rw [nb0] at e; cases e), upd_ne (fun z => by rw [z] at e; rw [na] at e; cases e)]
              exact e3
            · exact bp
            · exact ap
            · rw [upd_ne ab, upd_same, map_eraseIdx]
            · rw [upd_same]
              simp
            · have e1 : ((y :: ls).eraseIdx j ++ (fs ++ [(y :: ls)[j]])).Perm ((y :: ls)[j] :: ((y :: ls).eraseIdx j ++ fs)) := by
                rw [← List.append_assoc]
                exact List.perm_append_singleton _ _
              have e2 : ((y :: ls)[j] :: ((y :: ls).eraseIdx j ++ fs)).Perm ((y :: ls) ++ fs) := (erase_perm (y :: ls) j hj).append_right fs
              exact (e1.trans e2).trans perm
            · have e1 : lenAt a (upd (upd H3 a (.lst ((List.map V.str (y :: ls)).eraseIdx j))) b (.lst (List.map V.str fs ++ [V.str (y :: ls)[j]]))) = ((List.map V.str (y :: ls)).eraseIdx j).length := by
                unfold lenAt
                rw [upd_ne ab, upd_same]
              have e2 : lenAt a H1 = (y :: ls).length := by
                unfold lenAt
                rw [at_a]
                simp
              show lenAt a _ < lenAt a H1
              rw [e1, e2, List.length_eraseIdx, List.length_map, if_pos hj]
              simp
    · rintro σ H1 Q1 Q2 m ⟨v, hv, h1, h2⟩
      refine ⟨v, hv, h1, fun l hl => ?_⟩
      obtain ⟨d, e, a1, a2, a3, a4, c, hc, q⟩ := h2 l hl
      exact ⟨d, e, a1, a2, a3, a4, c, hc, m _ _ q⟩
end
end K02

namespace K02
open PySem PySem.Spec PyProof.Rows L2
open Cal EnuT

def N16 : List Str := ["a", "hall", "loft", "b", "cellar", "yard", "c", "d", "gate", "e", "stair", "pad", "f", "g", "slot", "hh"]
structure Door where
  n : Str
  one : Str
  two : Str
  op : Bool
structure Cell where
  n : Str
  p : Str
  k : Bool
structure Hs where
  parts : List Str
  doors : List Door
  cells : List Cell
def Hs.names (h : Hs) : List Str := h.parts ++ (h.doors.map (·.n) ++ h.cells.map (·.n))
def EndIn (ps : List Str) (x : Str) : Prop := x = "out" ∨ x ∈ ps
structure Good (h : Hs) : Prop where
  p1 : 1 ≤ h.parts.length
  p4 : h.parts.length ≤ 4
  d5 : h.doors.length ≤ 5
  c3 : h.cells.length ≤ 3
  nodup : h.names.Nodup
  sub : ∀ x, x ∈ h.names → x ∈ N16
  ends : ∀ d, d ∈ h.doors → EndIn h.parts d.one ∧ EndIn h.parts d.two ∧ d.one ≠ d.two
  cin : ∀ c, c ∈ h.cells → c.p ∈ h.parts
def dvs (d : Door) : List V := [.str d.n, .str d.one, .str d.two, .bl d.op]
def cvs (c : Cell) : List V := [.str c.n, .str c.p, .bl c.k]
def DoorAt (H : Hp) (v : V) (d : Door) : Prop := ∃ t, v = .ref t ∧ H t = some (.tup (dvs d))
def CellAt (H : Hp) (v : V) (c : Cell) : Prop := ∃ t, v = .ref t ∧ H t = some (.tup (cvs c))
structure HsAt (H : Hp) (h : Hs) (a b c : Addr) : Prop where
  pa : H a = some (.lst (h.parts.map V.str))
  da : ∃ vs, H b = some (.lst vs) ∧ Paired (DoorAt H) vs h.doors
  ca : ∃ vs, H c = some (.lst vs) ∧ Paired (CellAt H) vs h.cells
theorem DoorAt.mono {H H' : Hp} {v : V} {d : Door} (x : DoorAt H v d) (f : ∀ t, H t = some (.tup (dvs d)) → H' t = some (.tup (dvs d))) : DoorAt H' v d := by
  obtain ⟨t, rfl, e⟩ := x
  exact ⟨t, rfl, f t e⟩
theorem CellAt.mono {H H' : Hp} {v : V} {d : Cell} (x : CellAt H v d) (f : ∀ t, H t = some (.tup (cvs d)) → H' t = some (.tup (cvs d))) : CellAt H' v d := by
  obtain ⟨t, rfl, e⟩ := x
  exact ⟨t, rfl, f t e⟩
theorem paired_mono {α β : Type} {R S : α → β → Prop} (f : ∀ a b, R a b → S a b) : ∀ {xs : List α} {ys : List β}, Paired R xs ys → Paired S xs ys
  | _, _, .nil => .nil
  | _, _, .cons r t => .cons (f _ _ r) (paired_mono f t)
theorem paired_snoc {α β : Type} {R : α → β → Prop} : ∀ {xs : List α} {ys : List β} {a : α} {b : β}, Paired R xs ys → R a b → Paired R (xs ++ [a]) (ys ++ [b])
  | _, _, _, _, .nil, h => .cons h .nil
  | _, _, _, _, .cons r t, h => .cons r (paired_snoc t h)
theorem paired_len {α β : Type} {R : α → β → Prop} : ∀ {xs : List α} {ys : List β}, Paired R xs ys → xs.length = ys.length
  | _, _, .nil => rfl
  | _, _, .cons _ t => by simp [paired_len t]

theorem But.free {p a : Addr} {H H' : Hp} (b : But p H H') (x : Box H' p) (n : H' a = none) : H a = none := by
  cases e : H a with
  | none => rfl
  | some o =>
    have ne : a ≠ p := fun z => by
      obtain ⟨b0, b1, b2, eb, _⟩ := x
      rw [← z, n] at eb
      cases eb
    have := b _ _ ne e
    rw [n] at this
    cases this
theorem cut_take (xs : List Str) (k : Nat) (h : k ≤ xs.length) : cutV (xs.map V.str) none (some ((k : Nat) : Int)) = (xs.take k).map V.str := by
  unfold cutV HT.sIx
  simp only [List.length_map]
  rw [if_neg (by omega)]
  simp [Nat.min_eq_left h, List.map_take]
theorem cut_drop (xs : List Str) (k : Nat) (h : k ≤ xs.length) : cutV (xs.map V.str) (some ((k : Nat) : Int)) none = (xs.drop k).map V.str := by
  unfold cutV HT.sIx
  simp only [List.length_map]
  rw [if_neg (by omega)]
  rw [Int.toNat_natCast, Nat.min_eq_left h, List.map_drop, List.take_of_length_le]
  simp
theorem strs_box (xs : List Str) (b0 b1 b2 : Int) : HO.lst (xs.map V.str) ≠ .lst [.int b0, .int b1, .int b2] := by
  intro z
  injection z with z
  match xs, z with
  | [], z => cases z
  | _ :: _, z =>
    simp only [List.map_cons, List.cons.injEq] at z
    exact nomatch z.1
theorem doors_box {H : Hp} {vs : List V} {ds : List Door} (h : Paired (DoorAt H) vs ds) (b0 b1 b2 : Int) : HO.lst vs ≠ .lst [.int b0, .int b1, .int b2] := by
  intro z
  injection z with z
  match vs, ds, h, z with
  | [], _, _, z => cases z
  | v :: _, _, .cons r _, z =>
    obtain ⟨t, rfl, _⟩ := r
    simp only [List.cons.injEq] at z
    exact nomatch z.1
theorem cells_box {H : Hp} {vs : List V} {ds : List Cell} (h : Paired (CellAt H) vs ds) (b0 b1 b2 : Int) : HO.lst vs ≠ .lst [.int b0, .int b1, .int b2] := by
  intro z
  injection z with z
  match vs, ds, h, z with
  | [], _, _, z => cases z
  | v :: _, _, .cons r _, z =>
    obtain ⟨t, rfl, _⟩ := r
    simp only [List.cons.injEq] at z
    exact nomatch z.1
/-- what _law_things has made so far -/
structure Th (H0 H : Hp) (p m q e dd : Addr) (ps R : List Str) (i : Nat) (ds : List Door) : Prop where
  but : But p H0 H
  box : Box H p
  at_m : H m = some (.lst ((R.drop i).reverse.map V.str))
  at_q : H q = some (.lst (ps.map V.str))
  at_e : H e = some (.lst (.str "out" :: .str "out" :: ps.map V.str))
  at_d : ∃ vs, H dd = some (.lst vs) ∧ Paired (DoorAt H) vs ds
  mq : m ≠ q
  me : m ≠ e
  md : m ≠ dd
  qd : q ≠ dd
  ed : e ≠ dd
section
variable {H0 H H' : Hp} {p m q e dd : Addr} {ps R : List Str} {i : Nat} {ds : List Door}
theorem Th.go (t : Th H0 H p m q e dd ps R i ds) (b : But p H H') (x : Box H' p) : Th H0 H' p m q e dd ps R i ds := by
  obtain ⟨vs, hv, pv⟩ := t.at_d
  exact { t with
    but := t.but.trans b
    box := x
    at_m := b _ _ (t.box.ne t.at_m (strs_box _)) t.at_m
    at_q := b _ _ (t.box.ne t.at_q (strs_box _)) t.at_q
    at_e := b _ _ (t.box.ne t.at_e (fun _ _ _ z => by cases z)) t.at_e
    at_d := ⟨vs, b _ _ (t.box.ne hv (doors_box pv)) hv, paired_mono (fun _ _ r => r.mono fun c ec => b _ _ (t.box.ne ec (fun _ _ _ z => by cases z)) ec) pv⟩ }
theorem Th.same (t : Th H0 H p m q e dd ps R i ds) (b : Same H H') : Th H0 H' p m q e dd ps R i ds := t.go (But.of_same b) (t.box.same b)
end
def Chosen (ps : List Str) (d : Door) : Prop := EndIn ps d.one ∧ EndIn ps d.two ∧ d.one ≠ d.two
theorem out_not : ("out" : Str) ∉ N16 := by decide +kernel
theorem of_ends {ps : List Str} {v : V} (h : v ∈ V.str "out" :: V.str "out" :: ps.map V.str) : ∃ x, v = .str x ∧ EndIn ps x := by
  rcases List.mem_cons.mp h with z | z
  · exact ⟨_, z, .inl rfl⟩
  · rcases List.mem_cons.mp z with z | z
    · exact ⟨_, z, .inl rfl⟩
    · obtain ⟨x, hx, rfl⟩ := List.mem_map.mp z
      exact ⟨x, rfl, .inr hx⟩
theorem pop_last {R : List Str} {i : Nat} (h : i < R.length) : ((R.drop i).reverse.map V.str)[((R.drop i).reverse.map V.str).length - 1]? = some (.str R[i]) ∧ ((R.drop i).reverse.map V.str).dropLast = (R.drop (i + 1)).reverse.map V.str := by
  have e : (R.drop i).reverse.map V.str = ((R.drop (i + 1)).reverse.map V.str) ++ [.str R[i]] := by
    rw [List.drop_eq_getElem_cons h, List.reverse_cons, List.map_append]
    rfl
  rw [e]
  generalize (R.drop (i + 1)).reverse.map V.str = L
  refine ⟨?_, List.dropLast_concat⟩
  rw [List.length_append]
  simp

section
variable {H0 H H' : Hp} {p m q e dd : Addr} {ps R : List Str} {i : Nat} {ds : List Door}
theorem Th.mp (t : Th H0 H p m q e dd ps R i ds) : m ≠ p := t.box.ne t.at_m (strs_box _)
theorem Th.dp (t : Th H0 H p m q e dd ps R i ds) : dd ≠ p := by
  obtain ⟨vs, hv, pv⟩ := t.at_d
  exact t.box.ne hv (doors_box pv)
theorem Th.pop (t : Th H0 H p m q e dd ps R i ds) (n0 : H0 m = none) : Th H0 (upd H m (.lst ((R.drop (i + 1)).reverse.map V.str))) p m q e dd ps R (i + 1) ds := by
  obtain ⟨vs, hv, pv⟩ := t.at_d
  obtain ⟨b0, b1, b2, eb, hb⟩ := t.box
  exact { t with
    but := fun c o ne e => by
      rw [upd_ne (fun z => by rw [z, n0] at e; cases e)]
      exact t.but c o ne e
    box := ⟨b0, b1, b2, by rw [upd_ne (Ne.symm t.mp)]; exact eb, hb⟩
    at_m := upd_same
    at_q := by rw [upd_ne (Ne.symm t.mq)]; exact t.at_q
    at_e := by rw [upd_ne (Ne.symm t.me)]; exact t.at_e
    at_d := ⟨vs, by rw [upd_ne (Ne.symm t.md)]; exact hv, paired_mono (fun _ _ r => r.mono fun c ec => by rw [upd_ne (ne_of ec t.at_m (fun z => by cases z))]; exact ec) pv⟩ }
theorem Th.add (t : Th H0 H p m q e dd ps R i ds) (n0 : H0 dd = none) {vs : List V} {v : V} {d : Door} (hv : H dd = some (.lst vs)) (pv : Paired (DoorAt H) vs ds) (hd : DoorAt H v d) : Th H0 (upd H dd (.lst (vs ++ [v]))) p m q e dd ps R i (ds ++ [d]) := by
  obtain ⟨b0, b1, b2, eb, hb⟩ := t.box
  exact { t with
    but := fun c o ne e => by
      rw [upd_ne (fun z => by rw [z, n0] at e; cases e)]
      exact t.but c o ne e
    box := ⟨b0, b1, b2, by rw [upd_ne (Ne.symm t.dp)]; exact eb, hb⟩
    at_m := by rw [upd_ne t.md]; exact t.at_m
    at_q := by rw [upd_ne t.qd]; exact t.at_q
    at_e := by rw [upd_ne t.ed]; exact t.at_e
    at_d := ⟨vs ++ [v], upd_same, paired_snoc (paired_mono (fun _ _ r => r.mono fun c ec => by rw [upd_ne (ne_of ec hv (fun z => by cases z))]; exact ec) pv) (hd.mono fun c ec => by rw [upd_ne (ne_of ec hv (fun z => by cases z))]; exact ec)⟩ }
theorem door_tail {K : W.Frag} {D : Ends} {x6 : Option V} {s1 s2 : Str} (t : Th H0 H p m q e dd ps R i ds) (n0 : H0 m = none) (d0 : H0 dd = none) (iR : i < R.length) (i5 : ds.length ≤ 5) (nm : ds.map (·.n) = R.take i) (ch : ∀ d, d ∈ ds → Chosen ps d)
    (in1 : EndIn ps s1) (in2 : EndIn ps s2) (ne12 : s1 ≠ s2)
    (h : ∀ H' ds', Th H0 H' p m q e dd ps R (i + 1) ds' → ds'.map (·.n) = R.take (i + 1) → (∀ d, d ∈ ds' → Chosen ps d) → D.nx [some (.ref p), some (.int 4), some (.ref m), some (.ref q), some (.ref e), some (.ref dd), x6, some (.str s1), some (.str s2)] H') :
    tDrop (tBM K "list" rAppend (tVar 5) (tCons (tTup (tCons (tBM0 K "list" rPop (tVar 2)) (tCons (tVar 7) (tCons (tVar 8) (tCons (tOp (rI0 fun i j => V.bl (decide (j < i))) (tCall spTake [] E0 (tCons (tVar 0) (tCons (tC (V.int 3)) tNil))) (tC (V.int 0))) tNil))))) tNil))
      D [some (.ref p), some (.int 4), some (.ref m), some (.ref q), some (.ref e), some (.ref dd), x6, some (.str s1), some (.str s2)] H := by
  obtain ⟨vs, hv, pv⟩ := t.at_d
  refine ⟨_, rfl, .inl ⟨rfl, _, SqL.of hv⟩, ?_⟩
  refine ⟨_, rfl, .inl ⟨rfl, _, SqL.of t.at_m⟩, m, _, _, rfl, rfl, t.at_m, (pop_last iR).1, ?_⟩
  rw [(pop_last iR).2]
  have t1 := t.pop n0
  refine ⟨_, rfl, _, rfl, _, rfl, p, _, rfl, t1.box, by decide, by decide, fun r H2 r0 r3 but2 x2 => ⟨_, _, rfl, rfl, by show 4 ≤ sizeLine; decide, fun a na => ?_⟩⟩
  have t2 := t1.go but2 x2
  have t3 := t2.same (same_upd (o := .tup [.str R[i], .str s1, .str s2, .bl (decide (0 < r))]) na)
  obtain ⟨ws, hw, pw⟩ := t3.at_d
  have lw := paired_len pw
  have at_a : DoorAt (upd H2 a (.tup [.str R[i], .str s1, .str s2, .bl (decide (0 < r))])) (.ref a) ⟨R[i], s1, s2, decide (0 < r)⟩ := ⟨a, rfl, upd_same⟩
  refine ⟨dd, _, _, rfl, rfl, hw, ?_, h _ _ (t3.add d0 hw pw at_a) ?_ ?_⟩
  · have : (100 : Nat) ≤ sizeLine := by decide
    omega
  · rw [List.map_append, nm, List.take_succ_eq_append_getElem iR]
    rfl
  · intro d hd
    rcases List.mem_append.mp hd with z | z
    · exact ch d z
    · obtain rfl := List.mem_singleton.mp z
      exact ⟨in1, in2, ne12⟩
end

def spThings : Sp := fun vs H Q _ => ∃ p : Addr, vs = [.ref p, .int 4] ∧ Box H p ∧
  ∀ (h : Hs) H' t a b c, Good h → But p H H' → Box H' p → H t = none → H' t = some (.tup [.ref a, .ref b, .ref c]) → HsAt H' h a b c → Q (.ref t) H'

section
variable {P : Program} {w : World} {K : W.Frag} {mg : Str → Option Value} {base : Heap}
theorem scTh : FnScope ["box", "most", "names", "parts", "ends", "doors", "turn", "one", "other"] ["box", "most"] (defScope sThings) := ⟨rfl, rfl, rfl, by decide +kernel, rfl, by decide +kernel, by decide +kernel⟩
theorem ok_things {f : Addr} {fd : FuncData} (F : Fun K "_law_things" "_law_things" sThings f fd) (B : Bl mg) (T : Callee P w K mg base "_law_take" 1 ["box", "many"] spTake)
    (M : Callee P w K mg base "_law_mixed" 2 ["box", "some"] spMixed) (Pk : Callee P w K mg base "_law_pick" 2 ["box", "some"] spPick) :
    FnOk P w K mg base CX0 3 f fd ["box", "most"] spThings := by
  refine F.ok scTh (fun vs H Q E h => ?_) (fun cdv A outer s H vs Q E hr h => ?_)
  · obtain ⟨p, rfl, _⟩ := h
    rfl
  · obtain ⟨p, rfl, hB, k⟩ := h
    have hr1 := hr.mono (show 1 ≤ 2 by decide)
    refine ⟨_, pss_cons (ps_set (i := 2) scTh.nd rfl (Or.inr rfl) (pe_callee M hr rfl (pa_cons (pv 0) (pa_cons (pe_lst (pa_cons pe_str (pa_cons pe_str (pa_cons pe_str (pa_cons pe_str (pa_cons pe_str (pa_cons pe_str (pa_cons pe_str (pa_cons pe_str
        (pa_cons pe_str (pa_cons pe_str (pa_cons pe_str (pa_cons pe_str (pa_cons pe_str (pa_cons pe_str (pa_cons pe_str (pa_cons pe_str pa_nil))))))))))))))))) pa_nil))))
      (pss_cons (ps_set (i := 3) scTh.nd rfl (Or.inr rfl) (pe_slice sl_list (pv 2) po_none (po_some (pe_op op_add pe_int (pe_callee T hr1 rfl (pa_cons (pv 0) (pa_cons (pv 1) pa_nil)))))))
      (pss_cons (ps_asg (pe_tup (pa_cons (pe_slice sl_list (pv 2) (po_some (pe_callB call_len_seq (by rfl) B.nums.len PySem.boot_len (pa_cons (pv 3) pa_nil))) po_none) (pa_cons (pe_op op_cat (pe_lst (pa_cons pe_str (pa_cons pe_str pa_nil))) (pv 3)) pa_nil)))
        (pg_tup rfl (pgs_cons (pg_name (i := 2) scTh.nd rfl (Or.inr rfl)) (pgs_cons (pg_name (i := 4) scTh.nd rfl (Or.inl rfl)) pgs_nil))))
      (pss_cons (ps_set (i := 5) scTh.nd rfl (Or.inl rfl) (pe_lst pa_nil))
      (pss_cons (ps_for PassesOwn.never rfl (pi_range1 rfl B.range (pa_cons (pe_callee T hr1 rfl (pa_cons (pv 0) (pa_cons (pe_op op_add pe_int (pv 1)) pa_nil))) pa_nil)) (pg_name (i := 6) scTh.nd rfl (Or.inl rfl))
        (pss_cons (ps_par (i := 7) (j := 8) (by rfl) scTh.nd rfl rfl (by decide) rfl rfl (pa_cons (pe_callee Pk hr rfl (pa_cons (pv 0) (pa_cons (pv 4) pa_nil))) (pa_cons (pe_callee Pk hr rfl (pa_cons (pv 0) (pa_cons (pv 4) pa_nil))) pa_nil)) (by rfl))
        (pss_cons (ps_if (pt_cmpR op_eq (pv 7) (pv 8) (nomark _)) (pss_one (ps_set (i := 8) scTh.nd rfl (Or.inl rfl) (pe_ifExp (pt_cmpR op_eq (pv 7) pe_str (nomark _)) (pe_callee Pk hr rfl (pa_cons (pv 0) (pa_cons (pv 3) pa_nil))) pe_str))) pss_nil)
        (pss_one (ps_expr (pe_bm PySem.F.plainAttrs_list PySem.F.slot_list_append PySem.F.type_list_append mt_append (pv 5)
          (pa_cons (pe_tup (pa_cons (pe_bm0 PySem.F.plainAttrs_list PySem.F.slot_list_pop PySem.F.type_list_pop mt_pop (pv 2)) (pa_cons (pv 7) (pa_cons (pv 8) (pa_cons (pe_cmpR op_gt (pe_callee T hr1 rfl (pa_cons (pv 0) (pa_cons pe_int pa_nil))) pe_int (nomark _)) pa_nil))))) pa_nil)))))))
      (pss_one (ps_ret (pe_tup (pa_cons (pv 3) (pa_cons (pv 5) (pa_cons (pe_lc (own := [("turn", 6)]) (g := gName 6) (tt := tYes) (by rfl) scTh.nd (pi_range1 rfl B.range (pa_cons (pe_callee T hr1 rfl (pa_cons (pv 0) (pa_cons pe_int pa_nil))) pa_nil))
        (blkOk_by (own := [("turn", 6)]) (N := ["box", "most", "names", "parts", "ends", "doors", "turn", "one", "other"]) (sc := defScope sThings) (by decide +kernel))
        (fun _ _ _ _ _ => pg_name (i := 6) scTh.nd rfl (Or.inl rfl)) (fun _ _ _ _ _ => pts_nil)
        (fun _ _ _ _ _ => pe_tup (pa_cons (show PE _ _ (tBM0 K "list" rPop (tVar 2)) from pe_bm0 PySem.F.plainAttrs_list PySem.F.slot_list_pop PySem.F.type_list_pop mt_pop (pv 2))
          (pa_cons (pe_callee Pk hr rfl (pa_cons (pv 0) (pa_cons (pv 3) pa_nil))) (pa_cons (pe_cmpR op_eq (pe_callee T hr1 rfl (pa_cons (pv 0) (pa_cons pe_int pa_nil))) pe_int (nomark _)) pa_nil))))) pa_nil)))))))))), ?_⟩
    refine ⟨_, rfl, by show 16 ≤ sizeLine; decide, fun l nl => ⟨p, l, N16, rfl, hB.same (same_upd nl), upd_same, by decide, by decide +kernel, fun ys H1 m perm but1 x1 nm at_m => ?_⟩⟩
    have nm0 := (none_of_upd nm).1
    have b1 : But p H H1 := (But.of_same (same_upd nl)).trans but1
    have l16 : ys.length = 16 := perm.length_eq
    refine ⟨_, rfl, _, rfl, _, rfl, p, _, rfl, x1, by decide, by decide, fun r H2 r0 r4 but2 x2 => ?_⟩
    have mp : m ≠ p := fun z => by
      obtain ⟨b0, b1, b2, e, _⟩ := hB
      rw [z, e] at nm0
      cases nm0
    have at_m2 := but2 _ _ mp at_m
    refine ⟨_, _, rfl, rfl, _, rfl, m, _, rfl, SqL.of at_m2, fun q nq => ?_⟩
    obtain ⟨j, rfl⟩ : ∃ j : Nat, r = (j : Int) := ⟨r.toNat, by omega⟩
    have hj : 1 + j ≤ ys.length := by omega
    have c1 : cutV (List.map V.str ys) none (some (1 + (j : Int))) = (ys.take (1 + j)).map V.str := by
      have := cut_take ys (1 + j) hj
      rw [← this]
      congr 2
    have lp : (ys.take (1 + j)).length = 1 + j := by rw [List.length_take]; omega
    rw [c1]
    have at_q3 : upd H2 q (.lst ((ys.take (1 + j)).map V.str)) q = some (.lst ((ys.take (1 + j)).map V.str)) := upd_same
    have s3 : Same H2 (upd H2 q (.lst ((ys.take (1 + j)).map V.str))) := same_upd nq
    revert at_q3 s3
    generalize upd H2 q (.lst ((ys.take (1 + j)).map V.str)) = H3
    intro at_q3 s3
    refine ⟨_, rfl, _, rfl, q, _, rfl, .inl (SqL.of at_q3), _, rfl, m, _, rfl, SqL.of (s3 _ _ at_m2), fun n nn => ?_⟩
    have c2 : cutV (List.map V.str ys) (some ((((ys.take (1 + j)).map V.str).length : Nat) : Int)) none = (ys.drop (1 + j)).map V.str := by
      rw [List.length_map, lp]
      exact cut_drop ys (1 + j) hj
    rw [c2]
    have at_n4 : upd H3 n (.lst ((ys.drop (1 + j)).map V.str)) n = some (.lst ((ys.drop (1 + j)).map V.str)) := upd_same
    have s4 : Same H3 (upd H3 n (.lst ((ys.drop (1 + j)).map V.str))) := same_upd nn
    revert at_n4 s4
    generalize upd H3 n (.lst ((ys.drop (1 + j)).map V.str)) = H4
    intro at_n4 s4
    refine ⟨by show 2 ≤ sizeLine; decide, fun u nu => ⟨_, rfl, u, q, _, _, rfl, rfl, upd_same, same_upd nu _ _ (s4 _ _ at_q3), ?_, fun e ne => ⟨by show 2 ≤ sizeLine; decide, fun t nt => ?_⟩⟩⟩
    · have : (20 : Nat) ≤ sizeLine := by decide
      rw [List.length_map, lp]
      show 2 + _ ≤ sizeLine
      omega
    obtain ⟨nu3, ue⟩ := none_of_upd ne
    have ne0 : H4 e = none := nu3
    obtain ⟨nt1, et⟩ := none_of_upd nt
    have s5 : Same H4 (upd (upd (upd H4 u (.lst [.str "out", .str "out"])) e (.lst ([V.str "out", V.str "out"] ++ (ys.take (1 + j)).map V.str))) t (.tup [.ref n, .ref e])) :=
      ((same_upd nu).trans (same_upd ne)).trans (same_upd nt)
    refine ⟨t, _, rfl, SqT.of upd_same, rfl, _, _, rfl, _, _, rfl, ⟨rfl, Nat.zero_le _, fun dd nd => ?_⟩⟩
    obtain ⟨nd1, td⟩ := none_of_upd nd
    obtain ⟨nd2, ed⟩ := none_of_upd nd1
    obtain ⟨nd3, ud⟩ := none_of_upd nd2
    have s6 : Same H4 (upd (upd (upd (upd H4 u (.lst [.str "out", .str "out"])) e (.lst ([V.str "out", V.str "out"] ++ (ys.take (1 + j)).map V.str))) t (.tup [.ref n, .ref e])) dd (.lst [])) := s5.trans (same_upd nd)
    have at_e7 : upd (upd (upd (upd H4 u (.lst [.str "out", .str "out"])) e (.lst ([V.str "out", V.str "out"] ++ (ys.take (1 + j)).map V.str))) t (.tup [.ref n, .ref e])) dd (.lst []) e = some (.lst (.str "out" :: .str "out" :: (ys.take (1 + j)).map V.str)) := by
      rw [upd_ne ed, upd_ne et, upd_same]
      rfl
    have at_d7 : upd (upd (upd (upd H4 u (.lst [.str "out", .str "out"])) e (.lst ([V.str "out", V.str "out"] ++ (ys.take (1 + j)).map V.str))) t (.tup [.ref n, .ref e])) dd (.lst []) dd = some (.lst []) := upd_same
    revert s6 at_e7 at_d7
    generalize upd (upd (upd (upd H4 u (.lst [.str "out", .str "out"])) e (.lst ([V.str "out", V.str "out"] ++ (ys.take (1 + j)).map V.str))) t (.tup [.ref n, .ref e])) dd (.lst []) = H7
    intro s6 at_e7 at_d7
    have th : Th H H7 p n q e dd (ys.take (1 + j)) (ys.drop (1 + j)).reverse 0 [] := {
      but := (((b1.trans but2).trans (But.of_same s3)).trans (But.of_same s4)).trans (But.of_same s6)
      box := ((x2.same s3).same s4).same s6
      at_m := by
        rw [List.drop_zero, List.reverse_reverse]
        exact s6 _ _ at_n4
      at_q := s6 _ _ (s4 _ _ at_q3)
      at_e := at_e7
      at_d := ⟨[], at_d7, .nil⟩
      mq := Ne.symm (ne_of_none at_q3 nn)
      me := ne_of_none at_n4 ne0
      md := ne_of_none at_n4 nd3
      qd := ne_of_none (s4 _ _ at_q3) nd3
      ed := ed }
    have b2 : But p H H2 := b1.trans but2
    have n00 : H n = none := b2.free x2 (s3.free nn)
    have d00 : H dd = none := b2.free x2 (s3.free (s4.free nd3))
    have lR : (ys.drop (1 + j)).reverse.length = 15 - j := by
      rw [List.length_reverse, List.length_drop]
      omega
    have fin : ∀ (h : Hs), h.parts = ys.take (1 + j) → (h.doors.map (·.n) ++ h.cells.map (·.n)) <+: (ys.drop (1 + j)).reverse → h.doors.length ≤ 5 → h.cells.length ≤ 3 → (∀ d, d ∈ h.doors → Chosen (ys.take (1 + j)) d) → (∀ c, c ∈ h.cells → c.p ∈ ys.take (1 + j)) → Good h := by
      intro h hp pre d5 c3 ends cin
      have pm : (ys.take (1 + j) ++ (ys.drop (1 + j)).reverse).Perm ys := by
        have := (List.reverse_perm (ys.drop (1 + j))).append_left (ys.take (1 + j))
        rwa [List.take_append_drop] at this
      have sub : h.names.Sublist (ys.take (1 + j) ++ (ys.drop (1 + j)).reverse) := by
        unfold Hs.names
        rw [hp]
        exact (List.Sublist.refl _).append pre.sublist
      have nd : (ys.take (1 + j) ++ (ys.drop (1 + j)).reverse).Nodup := (pm.trans perm).nodup_iff.mpr (by decide +kernel)
      exact {
        p1 := by rw [hp, lp]; omega
        p4 := by rw [hp, lp]; omega
        d5 := d5
        c3 := c3
        nodup := sub.nodup nd
        sub := fun x hx => (pm.trans perm).subset (sub.subset hx)
        ends := fun d hd => by rw [hp]; exact ends d hd
        cin := fun c hc => by rw [hp]; exact cin c hc }
    have no_out : ∀ x, x ∈ ys.take (1 + j) → x ≠ "out" := fun x hx z => out_not (z ▸ perm.subset (List.mem_of_mem_take hx))
    generalize (ys.drop (1 + j)).reverse = R at th lR fin
    generalize ys.take (1 + j) = ps at th lp fin no_out
    refine ⟨_, rfl, _, rfl, _, _, rfl, rfl, p, _, rfl, th.box, by decide, by decide, fun r8 H8 r80 r86 but8 x8 => ?_⟩
    have th8 := th.go but8 x8
    obtain ⟨nd8, rfl⟩ : ∃ j : Nat, r8 = (j : Int) := ⟨r8.toNat, by omega⟩
    have lt6 : nd8 < 6 := by
      have : (nd8 : Int) < 6 := r86
      omega
    refine ⟨_, rfl, by omega, by omega, for_range (n := nd8) (fun i σ H' => ∃ (ds : List Door) (v6 v7 v8 : Option V), σ = [some (.ref p), some (.int 4), some (.ref n), some (.ref q), some (.ref e), some (.ref dd), v6, v7, v8] ∧ Th H H' p n q e dd ps R i ds ∧
      ds.map (·.n) = R.take i ∧ ∀ d, d ∈ ds → Chosen ps d) ⟨[], _, _, _, rfl, th8, by simp, fun d hd => nomatch hd⟩ ?_ ?_⟩
    · rintro i σ H9 hi ⟨ds, v6, v7, v8, rfl, t9, nm, ch⟩
      have iR : i < R.length := by omega
      have ep : ∀ {H' : Hp}, Th H H' p n q e dd ps R i ds → p ≠ e := fun {H'} t => (t.box.ne t.at_e (fun _ _ _ z => by cases z)).symm
      have ds5 : ds.length = i := by
        have := congrArg List.length nm
        rw [List.length_map, List.length_take] at this
        omega
      refine ⟨_, rfl, _, rfl, p, e, _, rfl, ep t9, t9.box, t9.at_e, by simp, by simp; omega, fun v1 Ha hv1 buta xa => ?_⟩
      have ta := t9.go buta xa
      refine ⟨_, rfl, _, rfl, p, e, _, rfl, ep ta, ta.box, ta.at_e, by simp, by simp; omega, fun v2 Hb hv2 butb xb => ?_⟩
      have tb := ta.go butb xb
      obtain ⟨s1, rfl, in1⟩ := of_ends hv1
      obtain ⟨s2, rfl, in2⟩ := of_ends hv2
      refine ⟨_, _, rfl, ?_⟩
      refine ⟨_, rfl, _, rfl, rfl, _, rfl, ?_⟩
      have d0 : H dd = none := d00
      have n0 : H n = none := n00
      refine ite2 (fun hb => ?_) (fun hb => ?_)
      · have e12 : s1 = s2 := by simpa using hb
        subst e12
        refine ⟨_, rfl, rfl, _, rfl, ?_⟩
        refine ite2 (fun hc => ?_) (fun hc => ?_)
        · obtain rfl : s1 = "out" := by simpa using hc
          refine ⟨_, rfl, _, rfl, p, q, _, rfl, ?_, tb.box, tb.at_q, ?_, ?_, fun v3 Hc hv3 butc xc => ?_⟩
          · exact (tb.box.ne tb.at_q (strs_box _)).symm
          · rw [List.length_map, lp]; omega
          · rw [List.length_map, lp]; omega
          · have tc := tb.go butc xc
            obtain ⟨y, hy, rfl⟩ := List.mem_map.mp hv3
            exact door_tail tc n0 d0 iR (by omega) nm ch (.inl rfl) (.inr hy) (fun z => no_out y hy z.symm) fun H' ds' t' nm' ch' => ⟨ds', _, _, _, rfl, t', nm', ch'⟩
        · exact door_tail tb n0 d0 iR (by omega) nm ch in1 (.inl rfl) (fun z => hc (by simp [z])) fun H' ds' t' nm' ch' => ⟨ds', _, _, _, rfl, t', nm', ch'⟩
      · exact door_tail tb n0 d0 iR (by omega) nm ch in1 in2 (fun z => hb (by simp [z])) fun H' ds' t' nm' ch' => ⟨ds', _, _, _, rfl, t', nm', ch'⟩
    · rintro σ H9 ⟨ds, v6, v7, v8, rfl, t9, nm, ch⟩
      have ds5 : ds.length = nd8 := by
        have := congrArg List.length nm
        rw [List.length_map, List.length_take] at this
        omega
      refine ⟨_, rfl, _, rfl, _, rfl, p, _, rfl, t9.box, by decide, by decide, fun r9 H10 r90 r94 but10 x10 => ?_⟩
      have t10 := t9.go but10 x10
      obtain ⟨nc, rfl⟩ : ∃ j : Nat, r9 = (j : Int) := ⟨r9.toNat, by omega⟩
      have lt4 : nc < 4 := by
        have : (nc : Int) < 4 := r94
        omega
      refine ⟨_, rfl, by omega, by omega, fun D nD => ?_⟩
      have Dn : n ≠ D := ne_of_none t10.at_m nD
      have Dp : D ≠ p := fun z => by
        obtain ⟨b0, b1, b2, eb, _⟩ := t10.box
        rw [← z, nD] at eb
        cases eb
      have hD : H D = none := t10.but.free t10.box nD
      refine lc_range (lo := 0) (n := nc) (fun i H' => ∃ (cs : List Cell) (ws : List V), Th H H' p n q e dd ps R (nd8 + i) ds ∧ H' D = some (.lst ws) ∧ Paired (CellAt H') ws cs ∧ cs.map (·.n) = (R.drop nd8).take i ∧ ∀ c, c ∈ cs → c.p ∈ ps)
        ⟨[], [], t10.same (same_upd nD), upd_same, .nil, by simp, fun c hc => nomatch hc⟩ ?_ ?_
      · rintro i H11 hi ⟨cs, ws, t11, at_D, pw, cn, ci⟩
        have iR : nd8 + i < R.length := by omega
        have lw := paired_len pw
        have lc : cs.length = i := by
          have := congrArg List.length cn
          rw [List.length_map, List.length_take, List.length_drop] at this
          omega
        refine ⟨rfl, ?_⟩
        refine ⟨_, rfl, .inl ⟨rfl, _, SqL.of t11.at_m⟩, n, _, _, rfl, rfl, t11.at_m, (pop_last iR).1, ?_⟩
        rw [(pop_last iR).2]
        have t12 := t11.pop n00
        have at_D12 : upd H11 n (.lst ((R.drop (nd8 + i + 1)).reverse.map V.str)) D = some (.lst ws) := by
          rw [upd_ne (Ne.symm Dn)]
          exact at_D
        have pw12 : Paired (CellAt (upd H11 n (.lst ((R.drop (nd8 + i + 1)).reverse.map V.str)))) ws cs := paired_mono (fun _ _ r => r.mono fun c ec => by rw [upd_ne (ne_of ec t11.at_m (fun z => by cases z))]; exact ec) pw
        revert t12 at_D12 pw12
        generalize upd H11 n (.lst ((R.drop (nd8 + i + 1)).reverse.map V.str)) = H12
        intro t12 at_D12 pw12
        refine ⟨_, rfl, _, rfl, p, q, _, rfl, (t12.box.ne t12.at_q (strs_box _)).symm, t12.box, t12.at_q, by rw [List.length_map, lp]; omega, by rw [List.length_map, lp]; omega, fun v3 H13 hv3 but13 x13 => ?_⟩
        obtain ⟨y, hy, rfl⟩ := List.mem_map.mp hv3
        have t13 := t12.go but13 x13
        have stay : ∀ {H1 H2 : Hp}, Box H1 p → But p H1 H2 → Paired (CellAt H1) ws cs → Paired (CellAt H2) ws cs := fun {H1 H2} x b pw => paired_mono (fun _ _ r => r.mono fun c ec => b _ _ (x.ne ec (fun _ _ _ z => by cases z)) ec) pw
        have pw13 := stay t12.box but13 pw12
        have at_D13 := but13 _ _ Dp at_D12
        refine ⟨_, rfl, p, _, rfl, t13.box, by decide, by decide, fun r14 H14 r140 r142 but14 x14 => ⟨rfl, by show 3 ≤ sizeLine; decide, fun a na => ?_⟩⟩
        have t14 := t13.go but14 x14
        have pw14 := stay t13.box but14 pw13
        have at_D14 := but14 _ _ Dp at_D13
        have s15 : Same H14 (upd H14 a (.tup [.str R[nd8 + i], .str y, .bl (decide (V.int r14 = V.int 0))])) := same_upd na
        have t15 := t14.same s15
        have at_D15 := s15 _ _ at_D14
        have pw15 := stay t14.box (But.of_same s15) pw14
        have new : CellAt (upd H14 a (.tup [.str R[nd8 + i], .str y, .bl (decide (V.int r14 = V.int 0))])) (.ref a) ⟨R[nd8 + i], y, decide (V.int r14 = V.int 0)⟩ := ⟨a, rfl, upd_same⟩
        obtain ⟨vs, hv, pv⟩ := t15.at_d
        have Dd : dd ≠ D := fun z => by
          obtain ⟨vs', hv', _⟩ := t10.at_d
          rw [z, nD] at hv'
          cases hv'
        obtain ⟨c0, c1, c2, ec, hc⟩ := t15.box
        refine ⟨_, at_D15, ?_, cs ++ [⟨R[nd8 + i], y, decide (V.int r14 = V.int 0)⟩], ws ++ [.ref a], ?_, upd_same, ?_, ?_, ?_⟩
        · have : (100 : Nat) ≤ sizeLine := by decide
          omega
        · exact { t15 with
            but := fun c o ne e => by
              rw [upd_ne (fun z => by rw [z, hD] at e; cases e)]
              exact t15.but c o ne e
            box := ⟨c0, c1, c2, by rw [upd_ne (Ne.symm Dp)]; exact ec, hc⟩
            at_m := by rw [upd_ne Dn]; exact t15.at_m
            at_q := by
              rw [upd_ne (fun z => by rw [← z] at nD; rw [t10.at_q] at nD; cases nD)]
              exact t15.at_q
            at_e := by
              rw [upd_ne (fun z => by rw [← z] at nD; rw [t10.at_e] at nD; cases nD)]
              exact t15.at_e
            at_d := ⟨vs, by rw [upd_ne Dd]; exact hv, paired_mono (fun _ _ r => r.mono fun c ec => by rw [upd_ne (ne_of ec at_D15 (fun z => by cases z))]; exact ec) pv⟩ }
        · exact paired_snoc (paired_mono (fun _ _ r => r.mono fun c ec => by rw [upd_ne (ne_of ec at_D15 (fun z => by cases z))]; exact ec) pw15) (new.mono fun c ec => by rw [upd_ne (ne_of ec at_D15 (fun z => by cases z))]; exact ec)
        · rw [List.map_append, cn, List.take_succ_eq_append_getElem (by rw [List.length_drop]; omega)]
          simp
        · intro c hc
          rcases List.mem_append.mp hc with z | z
          · exact ci c z
          · obtain rfl := List.mem_singleton.mp z
            exact hy
      · rintro H11 ⟨cs, ws, t11, at_D, pw, cn, ci⟩
        have lc : cs.length = nc := by
          have := congrArg List.length cn
          rw [List.length_map, List.length_take, List.length_drop] at this
          omega
        refine ⟨by show 3 ≤ sizeLine; decide, fun t nt => ?_⟩
        have s12 : Same H11 (upd H11 t (.tup [.ref q, .ref dd, .ref D])) := same_upd nt
        have t12 := t11.same s12
        refine k ⟨ps, ds, cs⟩ _ t q dd D (fin _ rfl ?_ (by show ds.length ≤ 5; omega) (by show cs.length ≤ 3; omega) ch ci) t12.but t12.box (t11.but.free t11.box nt) upd_same ⟨t12.at_q, t12.at_d, ws, s12 _ _ at_D, paired_mono (fun _ _ r => r.mono fun c ec => s12 _ _ ec) pw⟩
        show ds.map (·.n) ++ cs.map (·.n) <+: R
        rw [nm, cn, ← List.take_add]
        exact List.take_prefix _ _
end
end K02

namespace K02
open PySem PySem.Spec PyProof.Rows L2
open Cal EnuT Sqx Exn Keys

abbrev CE (P : Program) (w : World) (K : W.Frag) (mg : Str → Option Value) (base : Heap) (x : Str) (C : Addr) (f : Str) : Prop := Cl1 P w K mg base x C f "Exception" "Exception.__new__" "Exception.__init__" exTail
/-- a def by its name in the module, that may raise -/
def CalleeX (P : Program) (w : World) (K : W.Frag) (mg : Str → Option Value) (base : Heap) (x : Str) (k : Nat) (ps : List Str) (sp : Sp) : Prop :=
  ∃ f fd, mg x = some (.ref f) ∧ W.keepIn K (.ref f) = true ∧ Binds K fd ps [] ∧ FnOk P w K mg base (L2.CX P w) k f fd ps sp
theorem pe_calleeX {X : Cx} {x : Str} {k : Nat} {ps : List Str} {sp : Sp} {E : XK} {p pos : Pos} {e : Expr} {es : List Expr} {t : TA} (c : CalleeX X.prog X.w X.K X.mg X.base x k ps sp) (hr : Room k X.A) (hg : Gl X x) (hx : Passes (L2.CX X.prog X.w) X E) (ha : PA X (e :: es) t)
    (hdb : (x == ("__debug__" : Str)) = false := by decide) (he : starEach (e :: es) X.env = (false, eval e X.env) :: starEach es X.env := by rfl) (hpl : (backTo pos (starEach es X.env)).any (·.1) = false := by rfl) :
    PE X (.Call (.Name x p) (e :: es) [] pos) (tCall sp [] E t) := by
  obtain ⟨f, fd, m, kp, b, F⟩ := c
  exact pe_call F hr hg m kp b .nil hx ha hdb he hpl
theorem kept {σ : L2.St} {H : Hp} {A B : Hp → Prop} (h : A H) : tYes σ H (fun b H3 => if b = true then A H3 else B H3) := by
  show (if true = true then A H else B H)
  rw [if_pos rfl]
  exact h
theorem paired_get {α β : Type} {R : α → β → Prop} : ∀ {xs : List α} {ys : List β} {i : Nat} {x : α}, Paired R xs ys → xs[i]? = some x → ∃ y, ys[i]? = some y ∧ R x y
  | _, _, 0, _, .cons r _, h => ⟨_, rfl, by cases h; exact r⟩
  | _, _, i + 1, _, .cons _ t, h => paired_get (i := i) t h
  | _, _, _, _, .nil, h => nomatch h
/-! ### what any value is -/
/-- values without parts, short -/
def flatOk : V → Bool
  | .non => true
  | .bl _ => true
  | .int _ => true
  | .str s => decide (s.length ≤ 1000)
  | _ => false
inductive Tv
  | fl (v : V)
  | sq (xs : List V)
def TvAt (H : Hp) (v : V) : Tv → Prop
  | .fl u => v = u ∧ flatOk u = true
  | .sq xs => ∃ a, v = .ref a ∧ SeqAt H a xs ∧ xs.length ≤ 20 ∧ ∀ x, x ∈ xs → flatOk x = true
inductive Av
  | fl (v : V)
  | sq (ts : List Tv)
def AvAt (H : Hp) (v : V) : Av → Prop
  | .fl u => v = u ∧ flatOk u = true
  | .sq ts => ∃ a vs, v = .ref a ∧ SeqAt H a vs ∧ Paired (TvAt H) vs ts ∧ ts.length ≤ 20
theorem TvAt.same {H H' : Hp} (s : Same H H') {v : V} {t : Tv} (x : TvAt H v t) : TvAt H' v t := by
  cases t with
  | fl u => exact x
  | sq xs =>
    obtain ⟨a, e, sq, r⟩ := x
    exact ⟨a, e, sq.same s, r⟩
theorem AvAt.same {H H' : Hp} (s : Same H H') {v : V} {t : Av} (x : AvAt H v t) : AvAt H' v t := by
  cases t with
  | fl u => exact x
  | sq ts =>
    obtain ⟨a, vs, e, sq, pw, r⟩ := x
    exact ⟨a, vs, e, sq.same s, paired_mono (fun _ _ q => q.same s) pw, r⟩
def isStr : V → Bool
  | .str _ => true
  | _ => false
def isBl : V → Bool
  | .bl _ => true
  | _ => false
theorem any_ty {K : W.Frag} {t : String} {a b : Bool} (h1 : kitB t "list" = some a) (h2 : kitB t "tuple" = some b) : W.kitAny K (.type t) [.type "list", .type "tuple"] = some (a || b) := by
  cases a <;> cases b <;> simp [W.kitAny, kit_ty h1, kit_ty h2]
theorem flat_ty {K : W.Frag} {H : Hp} {v : V} (o : flatOk v = true) : ∃ t, TyX K H v t ∧ W.kitAny K t [.type "list", .type "tuple"] = some false ∧ W.kitOne K t (.type "str") = some (isStr v) ∧ W.kitOne K t (.type "bool") = some (isBl v) := by
  cases v with
  | non => exact ⟨_, .base .non, any_ty (show kitB "NoneType" "list" = some false by decide +kernel) (show kitB "NoneType" "tuple" = some false by decide +kernel), kit_ty (show kitB "NoneType" "str" = some false by decide +kernel), kit_ty (show kitB "NoneType" "bool" = some false by decide +kernel)⟩
  | bl b => exact ⟨_, .base (.bl b), any_ty (show kitB "bool" "list" = some false by decide +kernel) (show kitB "bool" "tuple" = some false by decide +kernel), kit_ty (show kitB "bool" "str" = some false by decide +kernel), kit_ty (show kitB "bool" "bool" = some true by decide +kernel)⟩
  | int i => exact ⟨_, .base (.int i), any_ty (show kitB "int" "list" = some false by decide +kernel) (show kitB "int" "tuple" = some false by decide +kernel), kit_ty (show kitB "int" "str" = some false by decide +kernel), kit_ty (show kitB "int" "bool" = some false by decide +kernel)⟩
  | str x => exact ⟨_, .base (.str x), any_ty (show kitB "str" "list" = some false by decide +kernel) (show kitB "str" "tuple" = some false by decide +kernel), kit_ty (show kitB "str" "str" = some true by decide +kernel), kit_ty (show kitB "str" "bool" = some false by decide +kernel)⟩
  | _ => cases o
theorem seq_ty {K : W.Frag} {H : Hp} {a : Addr} {xs : List V} (o : SeqAt H a xs) : ∃ t, TyX K H (.ref a) t ∧ W.kitAny K t [.type "list", .type "tuple"] = some true ∧ W.kitOne K t (.type "str") = some false := by
  rcases o with h | h
  · exact ⟨_, .base (.lst h), any_ty (show kitB "list" "list" = some true by decide +kernel) (show kitB "list" "tuple" = some false by decide +kernel), kit_ty (show kitB "list" "str" = some false by decide +kernel)⟩
  · exact ⟨_, .base (.tup h), any_ty (show kitB "tuple" "list" = some false by decide +kernel) (show kitB "tuple" "tuple" = some true by decide +kernel), kit_ty (show kitB "tuple" "str" = some false by decide +kernel)⟩
/-- a value that is flat (none), or a list or tuple of these -/
def SqOf (H : Hp) (v : V) : Option (List V) → Prop
  | none => flatOk v = true
  | some xs => ∃ a, v = .ref a ∧ SeqAt H a xs
theorem TvAt.sqof {H : Hp} {v : V} {t : Tv} (x : TvAt H v t) : SqOf H v (match t with | .fl _ => none | .sq xs => some xs) := by
  cases t with
  | fl u => obtain ⟨rfl, h⟩ := x; exact h
  | sq xs => obtain ⟨a, e, sq, _⟩ := x; exact ⟨a, e, sq⟩
def signOk (c : Nat) : Bool := (!decide (([c] : List Nat) < ("a" : Str).cps.toList)) && !decide (("z" : Str).cps.toList < [c])
def nameOk (s : Str) : Bool := decide (1 ≤ s.length) && decide (s.length ≤ 8) && decide (s ≠ "out") && s.cps.toList.all signOk
def nmB : V → Bool
  | .str s => nameOk s
  | _ => false
def nmT : Tv → Bool
  | .fl v => nmB v
  | _ => false
def spSeq : Sp := fun vs H Q _ => ∃ v o, vs = [v] ∧ SqOf H v o ∧ ∀ H', Same H H' → Q (.bl o.isSome) H'
def spName : Sp := fun vs H Q _ => ∃ v t, vs = [v] ∧ TvAt H v t ∧ ∀ H', Same H H' → Q (.bl (nmT t)) H'
section
variable {P : Program} {w : World} {K : W.Frag} {mg : Str → Option Value} {base : Heap}
theorem scSq : FnScope ["value"] ["value"] (defScope sIsSeq) := ⟨rfl, rfl, rfl, by decide +kernel, rfl, by decide +kernel, by decide +kernel⟩
theorem ok_isseq {f : Addr} {fd : FuncData} (F : Fun K "is_sequence" "is_sequence" sIsSeq f fd) (B : Bl mg) : FnOk P w K mg base CX0 1 f fd ["value"] spSeq := by
  refine F.ok scSq (fun vs H Q E h => ?_) (fun cdv A outer s H vs Q E hr h => ?_)
  · obtain ⟨v, o, rfl, _⟩ := h
    rfl
  · obtain ⟨v, o, rfl, sq, k⟩ := h
    refine ⟨_, pss_one (ps_ret (pe_callB call_isiT (by rfl) B.isi (by decide +kernel) (pa_cons (pv 0) (pa_cons (pe_tup (pa_cons (pe_bltn (v := .ty "list") rfl B.list (by decide +kernel) rfl) (pa_cons (pe_bltn (v := .ty "tuple") rfl B.tuple (by decide +kernel) rfl) pa_nil))) pa_nil)))), ?_⟩
    refine ⟨_, rfl, by show 2 ≤ sizeLine; decide, fun t nt => ?_⟩
    have s1 := same_upd (o := .tup [.ty "list", .ty "tuple"]) nt
    cases o with
    | none =>
      obtain ⟨ty, h1, h2, _⟩ := flat_ty (K := K) (H := upd H t (.tup [.ty "list", .ty "tuple"])) sq
      exact ⟨_, t, _, _, _, _, rfl, upd_same, .cons (.ty "list") (.cons (.ty "tuple") .nil), h1, h2, k _ s1⟩
    | some xs =>
      obtain ⟨a, rfl, sq⟩ := sq
      obtain ⟨ty, h1, h2, _⟩ := seq_ty (K := K) (sq.same s1)
      exact ⟨_, t, _, _, _, _, rfl, upd_same, .cons (.ty "list") (.cons (.ty "tuple") .nil), h1, h2, k _ s1⟩
theorem scNm : FnScope ["value", "sign"] ["value"] (defScope sIsName) := ⟨rfl, rfl, rfl, by decide +kernel, rfl, by decide +kernel, by decide +kernel⟩
theorem ok_isname {f : Addr} {fd : FuncData} (F : Fun K "is_name" "is_name" sIsName f fd) (B : Bl mg) : FnOk P w K mg base CX0 1 f fd ["value"] spName := by
  refine F.ok scNm (fun vs H Q E h => ?_) (fun cdv A outer s H vs Q E hr h => ?_)
  · obtain ⟨v, t, rfl, _⟩ := h
    rfl
  · obtain ⟨v, t, rfl, o, k⟩ := h
    refine ⟨_, pss_cons (ps_if (PW.pt (pw_or (pt_not (pt_val (pe_callB call_isi (by rfl) B.isi (by decide +kernel) (pa_cons (pv 0) (pa_cons (pe_bltn (v := .ty "str") rfl B.str (by decide +kernel) rfl) pa_nil)))))
        (pw_or (pt_not (pt_chain op_le op_le pe_int (pe_callB call_len_str (by rfl) B.nums.len PySem.boot_len (pa_cons (pv 0) pa_nil)) pe_int)) (pw_or1 (pt_cmpR op_eq (pv 0) pe_str (nomark _)))))) (pss_one (ps_ret pe_bl)) pss_nil)
      (pss_one (ps_ret (pe_callB (cr_all rfl) (by rfl) B.all (by decide +kernel) (pa_cons (pe_lc (own := [("sign", 1)]) (g := gName 1) (tt := tYes) (by rfl) scNm.nd (pi_str (pv 0))
        (blkOk_by (own := [("sign", 1)]) (N := ["value", "sign"]) (sc := defScope sIsName) (by decide +kernel))
        (fun _ _ _ _ _ => pg_name (i := 1) scNm.nd rfl (Or.inl rfl)) (fun _ _ _ _ _ => pts_nil)
        (fun _ _ _ _ _ => pe_chain op_le_str op_le_str pe_str (pv 1) pe_str)) pa_nil)))), ?_⟩
    have line : (1000 : Nat) ≤ sizeLine := by decide
    have q0 := k H (Same.refl _)
    cases t with
    | sq xs =>
      obtain ⟨a, rfl, sq, _⟩ := o
      obtain ⟨ty, h1, _, h3⟩ := seq_ty (K := K) sq
      exact ⟨_, rfl, _, _, _, _, _, rfl, .ty "str", h1, h3, _, rfl, iteT (iteT q0)⟩
    | fl u =>
    obtain ⟨rfl, fo⟩ := o
    obtain ⟨ty, h1, _, h3, _⟩ := flat_ty (K := K) (H := H) fo
    refine ⟨_, rfl, _, _, _, _, _, rfl, .ty "str", h1, h3, _, rfl, ?_⟩
    cases es : isStr v with
    | false =>
      refine iteT (iteT ?_)
      have : nmT (.fl v) = false := by cases v <;> first | rfl | (cases es)
      rwa [this] at q0
    | true =>
      obtain ⟨z, rfl⟩ : ∃ z, v = .str z := by cases v <;> first | exact ⟨_, rfl⟩ | (cases es)
      have zf : z.length ≤ 1000 := by simpa [flatOk] using fo
      have no : nameOk z = false → Q (.bl false) H := fun e => by
        rwa [show nmT (.fl (.str z)) = nameOk z from rfl, e] at q0
      refine iteF ⟨_, rfl, z, rfl, Nat.le_trans zf line, 1, _, rfl, rfl, _, rfl, ?_⟩
      by_cases z1 : 1 ≤ z.length
      · rw [decide_eq_true (show (1 : Int) ≤ (z.length : Nat) by omega)]
        refine iteT ⟨_, 8, rfl, rfl, _, rfl, ?_⟩
        by_cases z8 : z.length ≤ 8
        · rw [decide_eq_true (show ((z.length : Nat) : Int) ≤ 8 by omega)]
          refine iteF ⟨_, rfl, rfl, _, rfl, ?_⟩
          by_cases zo : z = "out"
          · rw [decide_eq_true (by rw [zo])]
            exact iteT (no (by simp [nameOk, zo]))
          · rw [decide_eq_false (fun y => zo (by injection y))]
            refine iteF ⟨_, rfl, z, rfl, fun D nD => ?_⟩
            refine lc_it walk_str (fun i H' => Same H H' ∧ H' D = some (.lst (((z.cps.toList.take i).map signOk).map V.bl))) ⟨same_upd nD, upd_same⟩ (fun _ _ _ _ => trivial) ?_ ?_
            · rintro i x H1 H1' hi ⟨s1, at_D⟩ ⟨rfl, c, hc, rfl⟩
              have hl : i < 8 := by
                have : z.length = z.cps.size := rfl
                omega
              have next : ∀ b, b = signOk c → Same H (upd H1' D (.lst (((z.cps.toList.take i).map signOk).map V.bl ++ [.bl b]))) ∧ upd H1' D (.lst (((z.cps.toList.take i).map signOk).map V.bl ++ [.bl b])) D = some (.lst (((z.cps.toList.take (i + 1)).map signOk).map V.bl)) := fun b hb => by
                refine ⟨fun a o e => ?_, ?_⟩
                · by_cases ha : a = D
                  · rw [ha, nD] at e
                    cases e
                  · rw [upd_ne ha]
                    exact s1 _ _ e
                · obtain ⟨lt, e⟩ := Array.getElem?_eq_some_iff.mp hc
                  have lt' : i < z.cps.toList.length := by simpa using lt
                  have e' : z.cps.toList[i] = c := by simpa using e
                  rw [upd_same, List.take_succ_eq_append_getElem lt', e', List.map_append, List.map_append, hb]
                  rfl
              have fw : (((z.cps.toList.take i).map signOk).map V.bl).length < sizeLine := by
                rw [List.length_map, List.length_map, List.length_take]
                omega
              refine ⟨rfl, kept ⟨_, rfl, _, _, rfl, rfl, _, rfl, ?_⟩⟩
              show ite ((!decide (([c] : List Nat) < ("a" : Str).cps.toList)) = true) _ _
              refine ite2 (fun h1 => ?_) (fun h1 => ?_)
              · refine ⟨_, _, rfl, rfl, _, at_D, fw, next _ ?_⟩
                show (!decide (("z" : Str).cps.toList < [c])) = signOk c
                unfold signOk
                rw [h1, Bool.true_and]
              · refine ⟨_, at_D, fw, next false ?_⟩
                unfold signOk
                cases h : (!decide (([c] : List Nat) < ("a" : Str).cps.toList)) with
                | false => rfl
                | true => exact absurd h h1
            · rintro H1 ⟨s1, at_D⟩
              rw [show z.cps.size = z.cps.toList.length by simp, List.take_length] at at_D
              refine ⟨D, _, rfl, SqL.of at_D, ?_⟩
              have q := k _ s1
              rw [show nmT (.fl (.str z)) = nameOk z from rfl] at q
              have e : nameOk z = (z.cps.toList.map signOk).all id := by
                rw [List.all_map]
                simp [nameOk, z1, z8, zo]
              rwa [e] at q
        · rw [decide_eq_false (show ¬ ((z.length : Nat) : Int) ≤ 8 by omega)]
          exact iteT (no (by simp [nameOk, z8]))
      · rw [decide_eq_false (show ¬ (1 : Int) ≤ (z.length : Nat) by omega)]
        exact iteF ⟨_, rfl, iteT (no (by simp [nameOk, z1]))⟩
end
end K02

namespace K02
open PySem PySem.Spec PyProof.Rows L2
open Cal EnuT Sqx Exn Keys

/-- how it ends with InvalidHouse of a number -/
def Bad (CH : Addr) (H : Hp) (E : XK) (i : Nat) : Prop := ∀ H' d, Same H H' → H d = none → H' d = some (.xd [("at", .int (i : Nat))]) → E (.ref CH) (some d) H'
def strT (s : Str) : Tv := .fl (.str s)
structure GoodPs (ps : List Str) : Prop where
  len : ps.length ≤ 8
  nodup : ps.Nodup
  name : ∀ x, x ∈ ps → nameOk x = true
def OddPart (ps : List Str) (t : Tv) : Prop := ps.length = 8 ∨ nmT t = false ∨ ∃ s, s ∈ ps ∧ t = strT s
def spParts (CH : Addr) : Sp := fun vs H Q E => ∃ v a, vs = [v] ∧ AvAt H v a ∧ ((((∃ u, a = .fl u) ∨ a = .sq []) ∧ Bad CH H E 0) ∨
  ∃ ps rs, a = .sq (ps.map strT ++ rs) ∧ 1 ≤ ps.length + rs.length ∧ GoodPs ps ∧ (∀ t rest, rs = t :: rest → OddPart ps t ∧ Bad CH H E ps.length) ∧ (rs = [] → ∀ H' t, Same H H' → H' t = some (.tup (ps.map V.str)) → Q (.ref t) H'))
theorem flat_strs (ps : List Str) : (ps.map V.str).all flatV = true := by
  rw [List.all_map]
  exact List.all_eq_true.mpr fun _ _ => rfl
theorem inV_strs (x : Str) (ps : List Str) : inV (.str x) (ps.map V.str) = decide (x ∈ ps) := by
  unfold inV
  rw [List.any_map]
  induction ps with
  | nil => rfl
  | cons y ps ih =>
    rw [List.any_cons, ih]
    have : eqV (.str y) (.str x) = decide (y = x) := by
      by_cases h : y = x
      · subst h
        simp [eqV]
      · simp [eqV, h]
    show (eqV (.str y) (.str x) || decide (x ∈ ps)) = _
    rw [this]
    by_cases h : y = x
    · simp [h]
    · simp [h, Ne.symm h]
theorem paired_split {α β : Type} {R : α → β → Prop} : ∀ {xs : List α} {ys zs : List β}, Paired R xs (ys ++ zs) → ∃ as bs, xs = as ++ bs ∧ Paired R as ys ∧ Paired R bs zs
  | xs, [], zs, h => ⟨[], xs, rfl, .nil, h⟩
  | _, y :: ys, zs, .cons r t => by
    obtain ⟨as, bs, rfl, h1, h2⟩ := paired_split t
    exact ⟨_ :: as, bs, rfl, .cons r h1, h2⟩
theorem strs_of {H : Hp} : ∀ {as : List V} {ps : List Str}, Paired (TvAt H) as (ps.map strT) → as = ps.map V.str
  | _, [], .nil => rfl
  | _, p :: ps, .cons r t => by
    rw [strs_of t]
    obtain ⟨rfl, _⟩ := r
    rfl
theorem cut_takeV (xs : List V) (k : Nat) (h : k ≤ xs.length) : cutV xs none (some ((k : Nat) : Int)) = xs.take k := by
  unfold cutV HT.sIx
  dsimp only
  rw [if_neg (by omega), Int.toNat_natCast, Nat.min_eq_left h]
  simp
section
variable {P : Program} {w : World} {K : W.Frag} {mg : Str → Option Value} {base : Heap}
theorem scCP : FnScope ["parts", "at", "name"] ["parts"] (defScope sChParts) := ⟨rfl, rfl, rfl, by decide +kernel, rfl, by decide +kernel, by decide +kernel⟩
theorem ok_chparts {f CH : Addr} {fd : FuncData} (F : Fun K "_checked_parts" "_checked_parts" sChParts f fd) (B : Bl mg) (cH : CE P w K mg base "InvalidHouse" CH "at") (Sq : Callee P w K mg base "is_sequence" 1 ["value"] spSeq) (Nm : Callee P w K mg base "is_name" 1 ["value"] spName)
    {mt : Tok} (mP : mg "MOST_PARTS" = some (.int 8 mt)) : FnOk P w K mg base (L2.CX P w) 3 f fd ["parts"] (spParts CH) := by
  refine F.okX scCP (fun vs H Q E h => ?_) (fun cdv A outer s H vs Q E hr h => ?_)
  · obtain ⟨v, a, rfl, _⟩ := h
    rfl
  · obtain ⟨v, a, rfl, at_v, ev⟩ := h
    have hr1 := hr.mono (show 1 ≤ 2 by decide)
    refine ⟨_, pss_cons (ps_if (PW.pt (pw_or (pt_not (pt_val (pe_callee Sq hr1 rfl (pa_cons (pv 0) pa_nil)))) (pw_or1 (pt_not (pt_truth (pv 0) (by intro _; rfl)))))) (pss_one (ps_raise rfl (takes_of rfl rfl rfl rfl) (pmk_exn cH hr rfl pe_int))) pss_nil)
      (pss_cons (ps_for PassesOwn.leaving rfl (pi_enumS (by rfl) B.enu (pa_cons (pv 0) pa_nil)) (pg_tup rfl (pgs_cons (pg_name (i := 1) scCP.nd rfl (Or.inl rfl)) (pgs_cons (pg_name (i := 2) scCP.nd rfl (Or.inl rfl)) pgs_nil)))
        (pss_one (ps_if (PW.pt (pw_or (pt_cmpR op_ge (pv 1) (pe_glob (v := .int 8) rfl mP ⟨_, rfl⟩) (nomark _)) (pw_or (pt_not (pt_val (pe_callee Nm hr1 rfl (pa_cons (pv 2) pa_nil)))) (pw_or1 (pt_cmpR op_in_seq (pv 2) (pe_slice (SlR.or sl_list sl_tup) (pv 0) po_none (po_some (pv 1))) (by rfl))))))
          (pss_one (ps_raise rfl (takes_of rfl rfl rfl rfl) (pmk_exn cH hr rfl (pv 1)))) pss_nil)))
      (pss_one (ps_ret (pe_callTy call_tuple_of (by rfl) B.tuple (by decide +kernel) (pa_cons (pv 0) pa_nil))))), ?_⟩
    rcases ev with ⟨(⟨u, rfl⟩ | rfl), bad⟩ | ⟨ps, rs, rfl, ne, good, odd, k⟩
    · obtain ⟨rfl, fo⟩ := at_v
      exact ⟨_, rfl, v, none, rfl, fo, fun H1 s1 => ⟨_, rfl, iteT (iteT ⟨_, rfl, fun d nd => bad _ d (s1.trans (same_upd nd)) (s1.free nd) upd_same⟩)⟩⟩
    · obtain ⟨a, vs, rfl, sq, pw, _⟩ := at_v
      cases pw
      refine ⟨_, rfl, _, some [], rfl, ⟨a, rfl, sq⟩, fun H1 s1 => ⟨_, rfl, iteF ⟨_, rfl, false, ?_, ?_⟩⟩⟩
      · rcases sq with e | e
        · exact .inl ⟨_, SqL.of (s1 _ _ e), rfl⟩
        · exact .inr (.inl ⟨_, SqT.of (s1 _ _ e), rfl⟩)
      · exact iteT ⟨_, rfl, fun d nd => bad _ d (s1.trans (same_upd nd)) (s1.free nd) upd_same⟩
    · obtain ⟨a, vs, rfl, sq, pw, l20⟩ := at_v
      obtain ⟨as, ws, rfl, pa, pb⟩ := paired_split pw
      obtain rfl := strs_of pa
      have lw := paired_len pb
      refine ⟨_, rfl, _, some _, rfl, ⟨a, rfl, sq⟩, fun H1 s1 => ⟨_, rfl, iteF ⟨_, rfl, true, ?_, iteF ?_⟩⟩⟩
      · have : true = !(ps.map V.str ++ ws).isEmpty := by
          cases ps with
          | nil => cases ws with
            | nil => simp at ne lw; omega
            | cons _ _ => rfl
          | cons _ _ => rfl
        rcases sq with e | e
        · exact .inl ⟨_, SqL.of (s1 _ _ e), this⟩
        · exact .inr (.inl ⟨_, SqT.of (s1 _ _ e), this⟩)
      refine ⟨_, rfl, a, rfl, en_for (xs := ps.map V.str ++ ws) (fun i σ H' => ∃ v1 v2 : Option V, σ = [some (.ref a), v1, v2] ∧ Same H1 H' ∧ i ≤ ps.length) (sq.same s1) ⟨_, _, rfl, Same.refl _, Nat.zero_le _⟩ (fun i σ' H' _ z => ?_) ?_ ?_⟩
      · obtain ⟨_, _, _, s, _⟩ := z
        exact fun o e => s _ _ e
      · rintro i x σ' H2 T hx ⟨v1, v2, rfl, s2, le⟩ nT
        have s3 := same_upd (o := .tup [.int (i : Nat), x]) nT
        have s23 := s2.trans s3
        have s03 := s1.trans s23
        obtain ⟨t, ht, ax⟩ := paired_get pw hx
        have at_end : i = ps.length → ∃ rest, rs = t :: rest := fun e => by
          rw [List.getElem?_append_right (by rw [List.length_map]; omega), List.length_map, e, Nat.sub_self] at ht
          cases rs with
          | nil => cases ht
          | cons y rest => exact ⟨rest, by cases ht; rfl⟩
        have here : ∀ lt : i < ps.length, t = strT ps[i] := fun lt => by
          rw [List.getElem?_append_left (by rw [List.length_map]; omega), List.getElem?_map, List.getElem?_eq_getElem lt] at ht
          exact (Option.some.inj ht).symm
        have fail : i = ps.length → ∀ {H'}, Same H H' → ∀ d, H' d = none → E (.ref CH) (some d) (upd H' d (.xd [("at", .int (i : Nat))])) := fun e H' s' d nd => by
          obtain ⟨rest, er⟩ := at_end e
          have := (odd t rest er).2
          rw [← e] at this
          exact this _ d (s'.trans (same_upd nd)) (s'.free nd) upd_same
        have le8 := good.len
        refine ⟨T, _, rfl, SqT.of upd_same, rfl, _, _, rfl, _, _, rfl, ⟨rfl, _, rfl, _, _, rfl, rfl, _, rfl, ?_⟩⟩
        by_cases i8 : i = 8
        · rw [decide_eq_true (show (8 : Int) ≤ (i : Nat) by omega)]
          exact iteT (iteT ⟨_, rfl, _, rfl, fun d nd => fail (by omega) s03 d nd⟩)
        rw [decide_eq_false (show ¬ (8 : Int) ≤ (i : Nat) by omega)]
        refine iteF ⟨_, rfl, x, t, rfl, (ax.same s03), fun H4 s4 => ⟨_, rfl, ?_⟩⟩
        have s04 := s03.trans s4
        cases nt : nmT t with
        | false =>
          refine iteT (iteT ⟨_, rfl, _, rfl, fun d nd => fail ?_ s04 d nd⟩)
          by_cases lt : i < ps.length
          · rw [here lt, show nmT (strT ps[i]) = nameOk ps[i] from rfl, good.name _ (List.getElem_mem lt)] at nt
            cases nt
          · omega
        | true =>
          obtain ⟨s, rfl⟩ : ∃ s, t = strT s := by
            cases t with
            | sq _ => cases nt
            | fl u => cases u <;> first | exact ⟨_, rfl⟩ | cases nt
          obtain ⟨rfl, _⟩ := ax
          have m1 : s ∈ ps.take i → i = ps.length := fun h => by
            by_cases lt : i < ps.length
            · have e := here lt
              injection e with e
              injection e with e
              obtain ⟨j, hj, ej⟩ := List.getElem_of_mem h
              rw [List.length_take] at hj
              rw [List.getElem_take] at ej
              have := List.pairwise_iff_getElem.mp (List.nodup_iff_pairwise_ne.mp good.nodup) j i (by omega) lt (by omega)
              exact absurd (ej.trans e) this
            · omega
          have m2 : s ∉ ps.take i → i < ps.length := fun h => by
            apply Nat.lt_of_not_le
            intro ge
            have e : i = ps.length := by omega
            obtain ⟨rest, er⟩ := at_end e
            rcases (odd _ rest er).1 with z | z | ⟨s', hs', es⟩
            · omega
            · rw [nt] at z; cases z
            · injection es with es
              injection es with es
              rw [e, List.take_length, es] at h
              exact h hs'
          have take : (ps.map V.str ++ ws).take i = (ps.take i).map V.str := by
            rw [List.take_append_of_le_length (by rw [List.length_map]; exact le), List.map_take]
          have l1 : i ≤ (ps.map V.str ++ ws).length := by rw [List.length_append, List.length_map]; omega
          rcases sq with e | e
          · refine iteF ⟨_, rfl, _, rfl, _, rfl, _, rfl, .inl ⟨a, _, rfl, SqL.of (s04 _ _ e), fun q nq => ?_⟩⟩
            rw [cut_takeV _ _ l1, take]
            refine ⟨q, _, rfl, .inl (SqL.of upd_same), rfl, flat_strs _, _, rfl, ?_⟩
            rw [inV_strs]
            have s5 := same_upd (o := .lst ((ps.take i).map V.str)) nq
            refine ite2 (fun h => ?_) (fun h => ?_)
            · exact ⟨_, rfl, _, rfl, fun d nd => fail (m1 (of_decide_eq_true h)) (s04.trans s5) d nd⟩
            · exact ⟨_, _, rfl, (s23.trans s4).trans s5, m2 (fun z => h (decide_eq_true z))⟩
          · refine iteF ⟨_, rfl, _, rfl, _, rfl, _, rfl, .inr ⟨a, _, rfl, SqT.of (s04 _ _ e), ?_, fun q nq => ?_⟩⟩
            · rintro ⟨_, z⟩
              have lt : i < (ps.map V.str ++ ws).length := (List.getElem?_eq_some_iff.mp hx).1
              rw [HT.sIx_nat] at z
              omega
            rw [cut_takeV _ _ l1, take]
            refine ⟨q, _, rfl, .inr (SqT.of upd_same), rfl, flat_strs _, _, rfl, ?_⟩
            rw [inV_strs]
            have s5 := same_upd (o := .tup ((ps.take i).map V.str)) nq
            refine ite2 (fun h => ?_) (fun h => ?_)
            · exact ⟨_, rfl, _, rfl, fun d nd => fail (m1 (of_decide_eq_true h)) (s04.trans s5) d nd⟩
            · exact ⟨_, _, rfl, (s23.trans s4).trans s5, m2 (fun z => h (decide_eq_true z))⟩
      · rintro σ' H2 ⟨v1, v2, rfl, s2, le⟩
        have l0 : ws = [] := by
          rw [List.length_append, List.length_map] at le
          exact List.eq_nil_of_length_eq_zero (by omega)
        subst l0
        have r0 : rs = [] := List.eq_nil_of_length_eq_zero (by rw [← lw]; rfl)
        have s02 := s1.trans s2
        rw [List.append_nil] at sq
        rcases sq with e | e
        · exact ⟨_, rfl, a, _, rfl, .inl ⟨SqL.of (s02 _ _ e), fun l nl => k r0 _ l (s02.trans (same_upd nl)) upd_same⟩⟩
        · exact ⟨_, rfl, a, _, rfl, .inr ⟨SqT.of (s02 _ _ e), k r0 _ a s02 (s02 _ _ e)⟩⟩
end
end K02

namespace K02
open PySem PySem.Spec PyProof.Rows L2
open Cal EnuT Sqx Exn Keys

def endsV (ps : List Str) : List V := ps.map V.str ++ [.str "out"]
/-- whether any value is a door between these parts and the yard -/
def doorB (ps : List Str) : Tv → Bool
  | .sq [x0, x1, x2, x3] => nmB x0 && (inV x1 (endsV ps) && (inV x2 (endsV ps) && (!decide (x1 = x2) && isBl x3)))
  | _ => false
def cellB (ps : List Str) : Tv → Bool
  | .sq [x0, x1, x2] => nmB x0 && (inV x1 (ps.map V.str) && isBl x2)
  | _ => false
def spThing (B : List Str → Tv → Bool) : Sp := fun vs H Q _ => ∃ v tp t ps, vs = [v, .ref tp] ∧ TvAt H v t ∧ H tp = some (.tup (ps.map V.str)) ∧ ps.length ≤ 8 ∧ ∀ H', Same H H' → Q (.bl (B ps t)) H'
theorem flat_of {v : V} (h : flatOk v = true) : flatV v = true := by cases v <;> first | rfl | cases h
theorem in_str {x : V} (h : flatOk x = true) {ps : List Str} (i : inV x (ps.map V.str) = true) : ∃ s, x = .str s ∧ s ∈ ps := by
  cases x with
  | str s =>
    rw [inV_strs] at i
    exact ⟨s, rfl, of_decide_eq_true i⟩
  | non => exfalso; induction ps with
    | nil => cases i
    | cons p ps ih => exact ih (by simpa [inV, eqV] using i)
  | bl b => exfalso; induction ps with
    | nil => cases i
    | cons p ps ih => exact ih (by simpa [inV, eqV] using i)
  | int b => exfalso; induction ps with
    | nil => cases i
    | cons p ps ih => exact ih (by simpa [inV, eqV] using i)
  | _ => cases h
theorem ends_strs (ps : List Str) : endsV ps = (ps ++ [("out" : Str)]).map V.str := by
  rw [List.map_append]
  rfl
theorem len_ne {n m : Nat} : decide (V.int (n : Nat) = V.int (m : Nat)) = decide (n = m) := by
  by_cases e : n = m
  · rw [e]
    simp
  · rw [decide_eq_false e]
    refine decide_eq_false fun z => e ?_
    injection z with z
    omega
section
variable {P : Program} {w : World} {K : W.Frag} {mg : Str → Option Value} {base : Heap}
abbrev ND : List Str := ["door", "parts", "name", "one", "other", "is_open", "ends"]
theorem scDo : FnScope ND ["door", "parts"] (defScope sIsDoor) := ⟨rfl, rfl, rfl, by decide +kernel, rfl, by decide +kernel, by decide +kernel⟩
theorem ok_isdoor {f : Addr} {fd : FuncData} (F : Fun K "_is_door" "_is_door" sIsDoor f fd) (B : Bl mg) (Sq : Callee P w K mg base "is_sequence" 1 ["value"] spSeq) (Nm : Callee P w K mg base "is_name" 1 ["value"] spName) :
    FnOk P w K mg base CX0 2 f fd ["door", "parts"] (spThing doorB) := by
  refine F.ok scDo (fun vs H Q E h => ?_) (fun cdv A outer s H vs Q E hr h => ?_)
  · obtain ⟨v, tp, t, ps, rfl, _⟩ := h
    rfl
  · obtain ⟨v, tp, t, ps, rfl, ht, hp, p8, k⟩ := h
    refine ⟨_, pss_cons (ps_if (PW.pt (pw_or (pt_not (pt_val (pe_callee Sq hr rfl (pa_cons (pv 0) pa_nil)))) (pw_or1 (pt_cmpR op_ne (pe_callB call_len_seq (by rfl) B.nums.len PySem.boot_len (pa_cons (pv 0) pa_nil)) pe_int (nomark _))))) (pss_one (ps_ret pe_bl)) pss_nil)
      (pss_cons (ps_asg (pv 0) (PG_or (pg_tup rfl (pgs_cons (pg_name (i := 2) scDo.nd rfl (Or.inl rfl)) (pgs_cons (pg_name (i := 3) scDo.nd rfl (Or.inl rfl)) (pgs_cons (pg_name (i := 4) scDo.nd rfl (Or.inl rfl)) (pgs_cons (pg_name (i := 5) scDo.nd rfl (Or.inl rfl)) pgs_nil)))))
        (pg_unl rfl (pgs_cons (pg_name (i := 2) scDo.nd rfl (Or.inl rfl)) (pgs_cons (pg_name (i := 3) scDo.nd rfl (Or.inl rfl)) (pgs_cons (pg_name (i := 4) scDo.nd rfl (Or.inl rfl)) (pgs_cons (pg_name (i := 5) scDo.nd rfl (Or.inl rfl)) pgs_nil)))))))
      (pss_cons (ps_set (i := 6) scDo.nd rfl (Or.inl rfl) (pe_tup (StX.pa_star (pv 1) (pa_cons pe_str pa_nil))))
      (pss_one (ps_ret (pe_and (pe_callee Nm hr rfl (pa_cons (pv 2) pa_nil)) (pe_and (pe_cmpR op_in_seq (pv 3) (pv 6) (by rfl)) (pe_and (pe_cmpR op_in_seq (pv 4) (pv 6) (by rfl)) (pe_and (pe_cmpR op_ne (pv 3) (pv 4) (nomark _))
        (pe_one (pe_callB call_isi (by rfl) B.isi (by decide +kernel) (pa_cons (pv 5) (pa_cons (pe_bltn (v := .ty "bool") rfl B.bool (by decide +kernel) rfl) pa_nil)))))))))))), ?_⟩
    refine ⟨_, rfl, v, _, rfl, ht.sqof, fun H1 s1 => ⟨_, rfl, ?_⟩⟩
    cases t with
    | fl u => exact iteT (iteT (k _ s1))
    | sq xs =>
    obtain ⟨a, rfl, sq, l20, fl⟩ := ht
    refine iteF ⟨_, rfl, a, xs, rfl, (sq.same s1).sq, rfl, _, rfl, ?_⟩
    show ite ((!decide (V.int (xs.length : Nat) = V.int (4 : Nat))) = true) _ _
    rw [len_ne]
    by_cases l4 : xs.length = 4
    · obtain ⟨x0, x1, x2, x3, rfl⟩ : ∃ x0 x1 x2 x3, xs = [x0, x1, x2, x3] := by
        match xs, l4 with
        | [x0, x1, x2, x3], _ => exact ⟨x0, x1, x2, x3, rfl⟩
      have f0 := fl x0 (by simp)
      have f1 := fl x1 (by simp)
      have f2 := fl x2 (by simp)
      have f3 := fl x3 (by simp)
      refine iteF ⟨_, rfl, un_sq (sq.same s1) rfl ⟨_, _, rfl, _, _, rfl, _, _, rfl, _, _, rfl, rfl, ?_⟩⟩
      refine ⟨_, rfl, tp, _, rfl, .inl (SqT.of (s1 _ _ hp)), ?_, fun e ne' => ?_⟩
      · have : (20 : Nat) ≤ sizeLine := by decide
        rw [List.length_append, List.length_map]
        show ps.length + 1 ≤ _
        omega
      have s2 := same_upd (o := .tup (endsV ps)) ne'
      have fle : (endsV ps).all flatV = true := by rw [ends_strs]; exact flat_strs _
      have b : doorB ps (.sq [x0, x1, x2, x3]) = (nmT (.fl x0) && (inV x1 (endsV ps) && (inV x2 (endsV ps) && (!decide (x1 = x2) && isBl x3)))) := rfl
      rw [b] at k
      refine ⟨_, rfl, x0, .fl x0, rfl, ⟨rfl, f0⟩, fun H3 s3 => ⟨_, rfl, ?_⟩⟩
      have at_e := s3 e _ upd_same
      have sall := (s1.trans s2).trans s3
      cases c0 : nmT (.fl x0) with
      | false =>
        rw [c0] at k
        exact iteF (k _ sall)
      | true =>
      rw [c0, Bool.true_and] at k
      refine iteT ⟨_, rfl, _, rfl, e, _, rfl, .inr (SqT.of at_e), flat_of f1, fle, ⟨_, rfl, ?_⟩⟩
      show ite (inV x1 (endsV ps) = true) _ _
      cases c1 : inV x1 (endsV ps) with
      | false =>
        rw [c1] at k
        exact iteF (k _ sall)
      | true =>
      rw [c1, Bool.true_and] at k
      refine iteT ⟨_, rfl, _, rfl, e, _, rfl, .inr (SqT.of at_e), flat_of f2, fle, ⟨_, rfl, ?_⟩⟩
      show ite (inV x2 (endsV ps) = true) _ _
      cases c2 : inV x2 (endsV ps) with
      | false =>
        rw [c2] at k
        exact iteF (k _ sall)
      | true =>
      rw [c2, Bool.true_and] at k
      rw [ends_strs] at c1 c2
      obtain ⟨s1', rfl, _⟩ := in_str f1 c1
      obtain ⟨s2', rfl, _⟩ := in_str f2 c2
      refine iteT ⟨_, rfl, _, rfl, rfl, ⟨_, rfl, ?_⟩⟩
      cases c3 : (!decide (V.str s1' = V.str s2')) with
      | false =>
        rw [c3] at k
        exact iteF (k _ sall)
      | true =>
      rw [c3, Bool.true_and] at k
      obtain ⟨ty, t1, _, _, t2⟩ := flat_ty (K := K) (H := H3) f3
      exact iteT ⟨_, rfl, _, _, _, _, _, rfl, .ty "bool", t1, t2, k _ sall⟩
    · rw [decide_eq_false l4]
      refine iteT ?_
      have : doorB ps (.sq xs) = false := by
        unfold doorB
        split
        · rename_i h
          injection h with h
          rw [h] at l4
          exact absurd rfl l4
        · rfl
      have q := k _ s1
      rwa [this] at q
theorem scCe : FnScope ["cell", "parts"] ["cell", "parts"] (defScope sIsCell) := ⟨rfl, rfl, rfl, by decide +kernel, rfl, by decide +kernel, by decide +kernel⟩
theorem ok_iscell {f : Addr} {fd : FuncData} (F : Fun K "_is_cell" "_is_cell" sIsCell f fd) (B : Bl mg) (Sq : Callee P w K mg base "is_sequence" 1 ["value"] spSeq) (Nm : Callee P w K mg base "is_name" 1 ["value"] spName) :
    FnOk P w K mg base CX0 2 f fd ["cell", "parts"] (spThing cellB) := by
  refine F.ok scCe (fun vs H Q E h => ?_) (fun cdv A outer s H vs Q E hr h => ?_)
  · obtain ⟨v, tp, t, ps, rfl, _⟩ := h
    rfl
  · obtain ⟨v, tp, t, ps, rfl, ht, hp, p8, k⟩ := h
    refine ⟨_, pss_cons (ps_if (PW.pt (pw_or (pt_not (pt_val (pe_callee Sq hr rfl (pa_cons (pv 0) pa_nil)))) (pw_or1 (pt_cmpR op_ne (pe_callB call_len_seq (by rfl) B.nums.len PySem.boot_len (pa_cons (pv 0) pa_nil)) pe_int (nomark _))))) (pss_one (ps_ret pe_bl)) pss_nil)
      (pss_one (ps_ret (pe_and (pe_callee Nm hr rfl (pa_cons (pe_ix ix_seq (pv 0) pe_int (fun _ _ => rfl)) pa_nil)) (pe_and (pe_cmpR op_in_seq (pe_ix ix_seq (pv 0) pe_int (fun _ _ => rfl)) (pv 1) (by rfl))
        (pe_one (pe_callB call_isi (by rfl) B.isi (by decide +kernel) (pa_cons (pe_ix ix_seq (pv 0) pe_int (fun _ _ => rfl)) (pa_cons (pe_bltn (v := .ty "bool") rfl B.bool (by decide +kernel) rfl) pa_nil)))))))), ?_⟩
    refine ⟨_, rfl, v, _, rfl, ht.sqof, fun H1 s1 => ⟨_, rfl, ?_⟩⟩
    cases t with
    | fl u => exact iteT (iteT (k _ s1))
    | sq xs =>
    obtain ⟨a, rfl, sq, l20, fl⟩ := ht
    refine iteF ⟨_, rfl, a, xs, rfl, (sq.same s1).sq, rfl, _, rfl, ?_⟩
    show ite ((!decide (V.int (xs.length : Nat) = V.int (3 : Nat))) = true) _ _
    rw [len_ne]
    by_cases l4 : xs.length = 3
    · obtain ⟨x0, x1, x2, rfl⟩ : ∃ x0 x1 x2, xs = [x0, x1, x2] := by
        match xs, l4 with
        | [x0, x1, x2], _ => exact ⟨x0, x1, x2, rfl⟩
      have f0 := fl x0 (by simp)
      have f1 := fl x1 (by simp)
      have f2 := fl x2 (by simp)
      have fle := flat_strs ps
      have b : cellB ps (.sq [x0, x1, x2]) = (nmT (.fl x0) && (inV x1 (ps.map V.str) && isBl x2)) := rfl
      rw [b] at k
      refine iteF ⟨_, rfl, ix_sq (sq.same s1) (atI_nat (j := 0) rfl) ⟨x0, .fl x0, rfl, ⟨rfl, f0⟩, fun H3 s3 => ⟨_, rfl, ?_⟩⟩⟩
      have sall := s1.trans s3
      cases c0 : nmT (.fl x0) with
      | false =>
        rw [c0] at k
        exact iteF (k _ sall)
      | true =>
      rw [c0, Bool.true_and] at k
      refine iteT ⟨_, rfl, ix_sq (sq.same sall) (atI_nat (j := 1) rfl) ⟨_, rfl, tp, _, rfl, .inr (SqT.of (sall _ _ hp)), flat_of f1, fle, ⟨_, rfl, ?_⟩⟩⟩
      show ite (inV x1 (ps.map V.str) = true) _ _
      cases c1 : inV x1 (ps.map V.str) with
      | false =>
        rw [c1] at k
        exact iteF (k _ sall)
      | true =>
      rw [c1, Bool.true_and] at k
      obtain ⟨ty, t1, _, _, t2⟩ := flat_ty (K := K) (H := H3) f2
      exact iteT ⟨_, rfl, ix_sq (sq.same sall) (atI_nat (j := 2) rfl) ⟨_, _, _, _, _, rfl, .ty "bool", t1, t2, k _ sall⟩⟩
    · rw [decide_eq_false l4]
      refine iteT ?_
      have : cellB ps (.sq xs) = false := by
        unfold cellB
        split
        · rename_i h
          injection h with h
          rw [h] at l4
          exact absurd rfl l4
        · rfl
      have q := k _ s1
      rwa [this] at q
end
end K02

namespace K02
open PySem PySem.Spec PyProof.Rows L2
open Cal EnuT Sqx Exn Keys

def nameT : Tv → Option Str
  | .sq (.str n :: _) => some n
  | _ => none
structure OkThings (B : List Str → Tv → Bool) (ps tn : List Str) (m : Nat) (ts : List Tv) (ns : List Str) : Prop where
  ok : ∀ t, t ∈ ts → B ps t = true
  names : ts.map nameT = ns.map some
  nodup : (tn ++ ns).Nodup
  few : ts.length ≤ m
def OddThing (B : List Str → Tv → Bool) (ps tn : List Str) (m : Nat) (ts : List Tv) (ns : List Str) (t : Tv) : Prop := ts.length = m ∨ B ps t = false ∨ ∃ n, nameT t = some n ∧ n ∈ tn ++ ns
def TupAt (H : Hp) (w : V) (t : Tv) : Prop := ∃ c xs, w = .ref c ∧ t = .sq xs ∧ H c = some (.tup xs)
def NamedB (B : List Str → Tv → Bool) : Prop := ∀ ps t, B ps t = true → ∃ n xs, t = .sq (.str n :: xs)
theorem named_door : NamedB doorB := by
  intro ps t h
  unfold doorB at h
  split at h
  · rename_i x0 x1 x2 x3
    cases x0 <;> first | exact ⟨_, _, rfl⟩ | (simp [nmB] at h)
  · cases h
theorem named_cell : NamedB cellB := by
  intro ps t h
  unfold cellB at h
  split at h
  · rename_i x0 x1 x2
    cases x0 <;> first | exact ⟨_, _, rfl⟩ | (simp [nmB] at h)
  · cases h
def spThings' (CH : Addr) (S : Addr → Option Sp) : Sp := fun vs H Q E => ∃ (v : V) (m : Nat) (tp tk f : Addr) (b : Av) (ps tn : List Str) (B : List Str → Tv → Bool), vs = [v, .int m, .ref tp, .ref tk, .ref f] ∧ AvAt H v b ∧ m ≤ 20 ∧ H tp = some (.tup (ps.map V.str)) ∧ ps.length ≤ 8 ∧
  SeqAt H tk (tn.map V.str) ∧ tn.length ≤ 40 ∧ S f = some (spThing B) ∧ NamedB B ∧ (((∃ u, b = .fl u) ∧ Bad CH H E tn.length) ∨
  ∃ ts rs ns, b = .sq (ts ++ rs) ∧ OkThings B ps tn m ts ns ∧ (∀ t rest, rs = t :: rest → OddThing B ps tn m ts ns t ∧ Bad CH H E (tn.length + ts.length)) ∧
    (rs = [] → ∀ H' t ws, Same H H' → H' t = some (.tup ws) → Paired (TupAt H') ws ts → Q (.ref t) H'))
abbrev TupCall (K : W.Frag) (i : Nat) : TE := tCB (fun xs H Q => ∃ p ys, xs = [V.ref p] ∧ ((SqL K H p ys ∧ ∀ (l : Addr), H l = none → Q (.ref l) (upd H l (.tup ys))) ∨ SqT K H p ys ∧ Q (.ref p) H)) (tCons (tVar i) tNil)
theorem ret_one {te : TE} {D : Ends} {σ : L2.St} {H : Hp} (h : te σ H D.rt) : tRet te D σ H := h
theorem cb_one {r : List V → Hp → VK → Prop} {te : TE} {σ : L2.St} {H : Hp} {Q : VK} (h : te σ H fun x H1 => r [x] H1 Q) : tCB r (tCons te tNil) σ H Q := h
section
variable {P : Program} {w : World} {K : W.Frag} {mg : Str → Option Value} {base : Heap}
abbrev NCT : List Str := ["things", "most", "parts", "taken", "is_thing", "names", "at", "thing"]
theorem scCT : FnScope NCT ["things", "most", "parts", "taken", "is_thing"] (defScope sChThings) := ⟨rfl, rfl, rfl, by decide +kernel, rfl, by decide +kernel, by decide +kernel⟩
theorem ok_chthings {f CH : Addr} {fd : FuncData} (F : Fun K "_checked_things" "_checked_things" sChThings f fd) (B : Bl mg) (cH : CE P w K mg base "InvalidHouse" CH "at") (Sq : Callee P w K mg base "is_sequence" 1 ["value"] spSeq) (S : Addr → Option Sp) (hS : ∀ f sp, S f = some sp → Held P w K mg base 2 f sp) :
    FnOk P w K mg base (L2.CX P w) 3 f fd ["things", "most", "parts", "taken", "is_thing"] (spThings' CH S) := by
  refine F.okX scCT (fun vs H Q E h => ?_) (fun cdv A outer s H vs Q E hr h => ?_)
  · obtain ⟨v, m, tp, tk, f, b, ps, tn, Bt, rfl, _⟩ := h
    rfl
  · obtain ⟨v, m, tp, tk, f, b, ps, tn, Bt, rfl, at_v, m20, hp, p8, sk, t40, hf, nB, ev⟩ := h
    have hr1 := hr.mono (show 1 ≤ 2 by decide)
    refine ⟨_, pss_cons (ps_set (i := 5) scCT.nd rfl (Or.inl rfl) (pe_callTy call_list_of (by rfl) B.list (by decide +kernel) (pa_cons (pv 3) pa_nil)))
      (pss_cons (ps_if (pt_not (pt_val (pe_callee Sq hr1 rfl (pa_cons (pv 0) pa_nil)))) (pss_one (ps_raise rfl (takes_of rfl rfl rfl rfl) (pmk_exn cH hr rfl (pe_callB call_len_seq (by rfl) B.nums.len PySem.boot_len (pa_cons (pv 5) pa_nil))))) pss_nil)
      (pss_cons (ps_for PassesOwn.leaving rfl (pi_enumS (by rfl) B.enu (pa_cons (pv 0) pa_nil)) (pg_tup rfl (pgs_cons (pg_name (i := 6) scCT.nd rfl (Or.inl rfl)) (pgs_cons (pg_name (i := 7) scCT.nd rfl (Or.inl rfl)) pgs_nil)))
        (pss_cons (ps_if (PW.pt (pw_or (pt_cmpR op_ge (pv 6) (pv 1) (nomark _)) (pw_or (pt_not (pt_val (pe_callA (i := 4) (S := S) hS hr rfl (Or.inl rfl) (pa_cons (pv 7) (pa_cons (pv 2) pa_nil))))) (pw_or1 (pt_cmpR op_in_seq (pe_ix ix_seq (pv 7) pe_int (fun _ _ => rfl)) (pv 5) (by rfl)))))) (pss_one (ps_raise rfl (takes_of rfl rfl rfl rfl) (pmk_exn cH hr rfl (pe_callB call_len_seq (by rfl) B.nums.len PySem.boot_len (pa_cons (pv 5) pa_nil))))) pss_nil)
        (pss_one (ps_expr (pe_bm PySem.F.plainAttrs_list PySem.F.slot_list_append PySem.F.type_list_append mt_append (pv 5) (pa_cons (pe_ix ix_seq (pv 7) pe_int (fun _ _ => rfl)) pa_nil))))))
      (pss_one (ps_ret (pe_callTy call_tuple_of (by rfl) B.tuple (by decide +kernel) (pa_cons (pe_lc (own := [("thing", 7)]) (g := gName 7) (tt := tYes) (by rfl) scCT.nd (PI_or (pi_list (pv 0)) (pi_tup (pv 0)))
        (blkOk_by (own := [("thing", 7)]) (N := NCT) (sc := defScope sChThings) (by decide +kernel))
        (fun _ _ _ _ _ => pg_name (i := 7) scCT.nd rfl (Or.inl rfl)) (fun _ _ _ _ _ => pts_nil)
        (fun _ _ _ _ _ => (show PE _ _ (TupCall K 7) from pe_callTy call_tuple_of (by rfl) B.tuple (by decide +kernel) (pa_cons (pv 7) pa_nil)))) pa_nil)))))), ?_⟩
    refine ⟨_, rfl, tk, _, rfl, sk.sq, fun l nl => ?_⟩
    have s0 := same_upd (o := .lst (tn.map V.str)) nl
    rcases ev with ⟨⟨u, rfl⟩, bad⟩ | ⟨ts, rs, ns, rfl, okt, odd, k⟩
    · obtain ⟨rfl, fo⟩ := at_v
      refine ⟨_, rfl, v, none, rfl, fo, fun H1 s1 => ⟨_, rfl, iteT ⟨_, rfl, l, _, rfl, .inl (SqL.of (s1 _ _ upd_same)), ?_⟩⟩⟩
      rw [List.length_map]
      exact ⟨_, rfl, fun d nd => bad _ d ((s0.trans s1).trans (same_upd nd)) ((s0.trans s1).free nd) upd_same⟩
    · obtain ⟨a, vs, rfl, sq, pw, l20⟩ := at_v
      have lw := paired_len pw
      refine ⟨_, rfl, _, some _, rfl, ⟨a, rfl, sq.same s0⟩, fun H1 s1 => ⟨_, rfl, iteF ?_⟩⟩
      have s01 := s0.trans s1
      have at_l := s1 _ _ (upd_same (H := H) (a := l) (o := .lst (tn.map V.str)))
      have lne : ∀ {b o}, H b = some o → b ≠ l := fun {b o} e => ne_of_none e nl
      have lns : ns.length = ts.length := by
        have := congrArg List.length okt.names
        simpa using this.symm
      have la : a ≠ l := by
        rcases sq with e | e
        · exact lne e
        · exact lne e
      have keepa : ∀ {H' : Hp}, Same H H' → ∀ o, H1 a = some o → H' a = some o := fun {H'} s o e => by
        rcases sq with q | q
        · rw [s01 _ _ q] at e
          rw [← e]
          exact s _ _ q
        · rw [s01 _ _ q] at e
          rw [← e]
          exact s _ _ q
      have at_end : ∀ {i t}, i = ts.length → (ts ++ rs)[i]? = some t → ∃ rest, rs = t :: rest := fun {i t} e ht => by
        rw [List.getElem?_append_right (by omega), e, Nat.sub_self] at ht
        cases rs with
        | nil => cases ht
        | cons y rest => exact ⟨rest, by cases ht; rfl⟩
      have le_m := okt.few
      refine ⟨_, rfl, a, rfl, en_for (xs := vs) (fun i σ H' => ∃ v6 v7 : Option V, σ = [some (.ref a), some (.int (m : Nat)), some (.ref tp), some (.ref tk), some (.ref f), some (.ref l), v6, v7] ∧ Same H H' ∧ H' l = some (.lst ((tn ++ ns.take i).map V.str)) ∧ i ≤ ts.length)
        (sq.same s01) ⟨_, _, rfl, s01, by rw [List.take_zero, List.append_nil]; exact at_l, Nat.zero_le _⟩ (fun i σ' H' _ z => ?_) ?_ ?_⟩
      · obtain ⟨_, _, _, s, _⟩ := z
        exact keepa s
      · rintro i x σ' H2 T hx ⟨v6, v7, rfl, s2, at_l2, le⟩ nT
        have s3 := same_upd (o := .tup [.int (i : Nat), x]) nT
        have s23 := s2.trans s3
        have at_l3 := s3 _ _ at_l2
        obtain ⟨t, ht, ax⟩ := paired_get pw hx
        have fail : ∀ {H4 : Hp}, i = ts.length → Same H H4 → H4 l = some (.lst ((tn ++ ns.take i).map V.str)) → (SqL K H4 l ((tn ++ ns.take i).map V.str) ∨ SqT K H4 l ((tn ++ ns.take i).map V.str)) ∧ (∃ v, [V.int (((tn ++ ns.take i).map V.str).length : Nat)] = [v] ∧ ∀ d, H4 d = none → E (.ref CH) (some d) (upd H4 d (.xd [("at", v)]))) := fun {H4} e s4 at4 => by
          refine ⟨.inl (SqL.of at4), _, rfl, fun d nd => ?_⟩
          obtain ⟨rest, er⟩ := at_end e ht
          have b := (odd t rest er).2
          rw [List.length_map, List.length_append, List.length_take, lns, e, Nat.min_self]
          exact b _ d (s4.trans (same_upd nd)) (s4.free nd) upd_same
        refine ⟨T, _, rfl, SqT.of upd_same, rfl, _, _, rfl, _, _, rfl, ⟨rfl, _, rfl, _, rfl, _, _, rfl, rfl, _, rfl, ?_⟩⟩
        by_cases im : i = m
        · rw [decide_eq_true (show ((m : Nat) : Int) ≤ (i : Nat) by omega)]
          exact iteT (iteT ⟨_, rfl, l, _, rfl, (fail (by omega) s23 at_l3).1, (fail (by omega) s23 at_l3).2⟩)
        rw [decide_eq_false (show ¬ ((m : Nat) : Int) ≤ (i : Nat) by omega)]
        refine iteF ⟨f, _, rfl, hf, _, rfl, _, rfl, x, tp, t, ps, rfl, ax.same s23, s23 _ _ hp, p8, fun H4 s4 => ⟨_, rfl, ?_⟩⟩
        have s24 := s23.trans s4
        have at_l4 := s4 _ _ at_l3
        have here : ∀ lt : i < ts.length, t = ts[i] := fun lt => by
          rw [List.getElem?_append_left lt, List.getElem?_eq_getElem lt] at ht
          exact (Option.some.inj ht).symm
        cases tb : Bt ps t with
        | false =>
          have e : i = ts.length := by
            by_cases lt : i < ts.length
            · rw [here lt, okt.ok _ (List.getElem_mem lt)] at tb
              cases tb
            · omega
          exact iteT (iteT ⟨_, rfl, l, _, rfl, (fail e s24 at_l4).1, (fail e s24 at_l4).2⟩)
        | true =>
          obtain ⟨n, ys, rfl⟩ := nB ps t tb
          obtain ⟨c, rfl, sc, _⟩ := ax.same s24
          have nth : ∀ lt : i < ts.length, ∃ h : i < ns.length, ns[i] = n := fun lt => by
            have e := congrArg (fun z => z[i]?) okt.names
            simp only [List.getElem?_map] at e
            rw [List.getElem?_eq_getElem lt, ← here lt, List.getElem?_eq_getElem (by omega)] at e
            refine ⟨by omega, ?_⟩
            have e : some (some n) = some (some (ns[i]'(by omega))) := e
            injection e with e
            injection e with e
            exact e.symm
          have m1 : n ∈ tn ++ ns.take i → i = ts.length := fun h => by
            by_cases lt : i < ts.length
            · obtain ⟨hi, en⟩ := nth lt
              exfalso
              rcases List.mem_append.mp h with z | z
              · exact (List.nodup_append.mp okt.nodup).2.2 n z n (by rw [← en]; exact List.getElem_mem hi) rfl
              · obtain ⟨j, hj, e⟩ := List.getElem_of_mem z
                rw [List.length_take] at hj
                rw [List.getElem_take] at e
                have p := List.pairwise_iff_getElem.mp (List.nodup_iff_pairwise_ne.mp (List.nodup_append.mp okt.nodup).2.1) j i (by omega) hi (by omega)
                rw [en] at p
                exact p e
            · omega
          have m2 : n ∉ tn ++ ns.take i → i < ts.length := fun h => by
            apply Nat.lt_of_not_le
            intro ge
            have e : i = ts.length := by omega
            obtain ⟨rest, er⟩ := at_end e ht
            rcases (odd _ rest er).1 with z | z | ⟨n', hn', es⟩
            · omega
            · rw [tb] at z; cases z
            · have hn' : some n = some n' := hn'
              injection hn' with hn'
              rw [e, ← lns, List.take_length, hn'] at h
              exact h es
          refine iteF ⟨_, rfl, ix_sq sc (atI_nat (j := 0) rfl) ⟨_, rfl, l, _, rfl, .inl (SqL.of at_l4), rfl, flat_strs _, _, rfl, ?_⟩⟩
          rw [inV_strs]
          refine ite2 (fun h => ?_) (fun h => ?_)
          · have e := m1 (of_decide_eq_true h)
            exact ⟨_, rfl, l, _, rfl, (fail e s24 at_l4).1, (fail e s24 at_l4).2⟩
          · have lt := m2 (fun z => h (decide_eq_true z))
            obtain ⟨hi, en⟩ := nth lt
            refine ⟨_, rfl, .inl ⟨rfl, _, SqL.of at_l4⟩, _, rfl, ix_sq sc (atI_nat (j := 0) rfl) ⟨l, _, _, rfl, rfl, at_l4, ?_, _, _, rfl, fun b o e => ?_, ?_, lt⟩⟩
            · have : (100 : Nat) ≤ sizeLine := by decide
              rw [List.length_map, List.length_append, List.length_take]
              omega
            · rw [upd_ne (lne e)]
              exact s24 _ _ e
            · rw [upd_same, List.take_succ_eq_append_getElem hi, ← List.append_assoc, en]
              show some (HO.lst (List.map V.str (tn ++ ns.take i) ++ List.map V.str [n])) = _
              rw [← List.map_append]
      · rintro σ' H2 ⟨v6, v7, rfl, s2, at_l2, le⟩
        have r0 : rs = [] := by
          rw [lw, List.length_append] at le
          exact List.eq_nil_of_length_eq_zero (by omega)
        subst r0
        rw [List.append_nil] at pw
        have lw := paired_len pw
        dsimp only
        refine ret_one (cb_one (lc_seq (j := 0) (a := a) (xs := vs) (fun D i H' => ∃ ws, Same H2 H' ∧ H' D = some (.lst ws) ∧ Paired (TupAt H') ws (ts.take i)) rfl (sq.same s2) (fun D nD => ⟨[], same_upd nD, upd_same, .nil⟩) (fun D i H' nD _ z => ?_) ?_ ?_))
        · obtain ⟨_, s, _⟩ := z
          exact fun o e => s _ _ e
        · rintro D i x H3 nD hx ⟨ws, s3, at_D, pws⟩
          obtain ⟨t, ht, ax⟩ := paired_get pw hx
          obtain ⟨hi, rfl⟩ := List.getElem?_eq_some_iff.mp ht
          obtain ⟨n, ys, et⟩ := nB ps _ (okt.ok _ (List.getElem_mem hi))
          rw [et] at ax
          have s23 := s2.trans s3
          obtain ⟨c, rfl, sc, _⟩ := ax.same s23
          have lws := paired_len pws
          rw [List.length_take] at lws
          have step : ∀ (u : Addr) (H4 : Hp), Same H3 H4 → H4 u = some (.tup (V.str n :: ys)) → ∃ acc, H4 D = some (.lst acc) ∧ acc.length < sizeLine ∧ ∃ ws', Same H2 (upd H4 D (.lst (acc ++ [.ref u]))) ∧ upd H4 D (.lst (acc ++ [.ref u])) D = some (.lst ws') ∧ Paired (TupAt (upd H4 D (.lst (acc ++ [.ref u])))) ws' (ts.take (i + 1)) := by
            intro u H4 s4 hu
            have at_D4 := s4 _ _ at_D
            have up : ∀ {c ys}, H4 c = some (.tup ys) → upd H4 D (.lst (ws ++ [.ref u])) c = some (.tup ys) := fun {c ys} e => by
              rw [upd_ne (ne_of e at_D4 (fun z => by cases z))]
              exact e
            refine ⟨ws, at_D4, ?_, ws ++ [.ref u], fun b o e => ?_, upd_same, ?_⟩
            · have : (100 : Nat) ≤ sizeLine := by decide
              rw [List.append_nil] at l20
              omega
            · rw [upd_ne (ne_of_none e nD)]
              exact s4 _ _ (s3 _ _ e)
            · rw [List.take_succ_eq_append_getElem hi]
              exact paired_snoc (paired_mono (fun _ _ ⟨c, zs, e, e2, ec⟩ => ⟨c, zs, e, e2, up (s4 _ _ ec)⟩) pws) ⟨u, _, rfl, et, up hu⟩
          refine ⟨rfl, kept ⟨_, rfl, c, V.str n :: ys, rfl, ?_⟩⟩
          rcases sc with e | e
          · exact .inl ⟨SqL.of e, fun u nu => step u _ (same_upd nu) upd_same⟩
          · exact .inr ⟨SqT.of e, step c _ (Same.refl _) e⟩
        · rintro D H3 nD ⟨ws, s3, at_D, pws⟩
          rw [lw, List.take_length] at pws
          refine ⟨D, _, rfl, .inl ⟨SqL.of at_D, fun u nu => ?_⟩⟩
          have s4 := same_upd (o := .tup ws) nu
          exact k rfl _ u ws ((s2.trans s3).trans s4) upd_same (paired_mono (fun _ _ ⟨c, zs, e, e2, ec⟩ => ⟨c, zs, e, e2, s4 _ _ ec⟩) pws)
end
end K02

namespace K02
open PySem PySem.Spec PyProof.Rows L2
open Cal EnuT Sqx Exn Keys

def spNums : Sp := fun vs H Q _ => ∃ (a : Addr) (ps : List Str), vs = [.ref a] ∧ SeqAt H a (ps.map V.str) ∧ ps.length ≤ 20 ∧ ∀ H' D kvs, Same H H' → H' D = some (.dK kvs) → (∀ x, x ∈ ps → ∃ v, valV kvs (.inr x) = some v) → Q (.ref D) H'
def spNumOf : Sp := fun vs H Q _ => ∃ (D : Addr) (x : Str) (kvs : List (Key × V)) (v : V), vs = [.ref D, .str x] ∧ H D = some (.dK kvs) ∧ valV kvs (.inr x) = some v ∧ Q v H
/-- the instance with its numbers of parts -/
def spNumPart (C : Addr) : Sp := fun vs H Q _ => ∃ (o D dx : Addr) (x : Str) (kvs : List (Key × V)) (fs : List (Str × V)), vs = [.ref o, .str x] ∧ H o = some (.ins C dx fs) ∧ List.lookup ("_part_numbers" : Str) fs = some (.ref D) ∧ H D = some (.dK kvs) ∧
  (x = "out" ∨ ∃ v, valV kvs (.inr x) = some v) ∧ ∀ v, Q v H
theorem put_has {kvs : List (Key × V)} {k k' : Key} {v w : V} (h : valV kvs k' = some w) : ∃ u, valV (putK kvs k v) k' = some u := by
  rw [valV_put]
  by_cases e : k' = k
  · rw [if_pos e]
    exact ⟨_, rfl⟩
  · rw [if_neg e]
    exact ⟨_, h⟩
theorem put_at {kvs : List (Key × V)} {k : Key} {v : V} : ∃ u, valV (putK kvs k v) k = some u := by
  rw [valV_put, if_pos rfl]
  exact ⟨_, rfl⟩
/-- how many entries at most -/
theorem put_len {kvs : List (Key × V)} {k : Key} {v : V} : (putK kvs k v).length ≤ kvs.length + 1 := by
  unfold putK
  split
  · rw [List.length_map]
    omega
  · rw [List.length_append]
    simp
section
variable {P : Program} {w : World} {K : W.Frag} {mg : Str → Option Value} {base : Heap}
theorem scNu : FnScope ["names", "at", "name"] ["names"] (defScope sNumbers) := ⟨rfl, rfl, rfl, by decide +kernel, rfl, by decide +kernel, by decide +kernel⟩
theorem ok_numbers {f : Addr} {fd : FuncData} (F : Fun K "_numbers" "_numbers" sNumbers f fd) (B : Bl mg) : FnOk P w K mg base CX0 1 f fd ["names"] spNums := by
  refine F.ok scNu (fun vs H Q E h => ?_) (fun cdv A outer s H vs Q E hr h => ?_)
  · obtain ⟨a, ps, rfl, _⟩ := h
    rfl
  · obtain ⟨a, ps, rfl, sq, p20, k⟩ := h
    refine ⟨_, pss_one (ps_ret (pe_dc (own := [("at", 1), ("name", 2)]) (g := gTup K 2 (gCons (gName 1) (gCons (gName 2) gNil))) (tt := tYes) (by rfl) scNu.nd (pi_enumS (by rfl) B.enu (pa_cons (pv 0) pa_nil))
      (blkOk_by (own := [("at", 1), ("name", 2)]) (N := ["names", "at", "name"]) (sc := defScope sNumbers) (by decide +kernel))
      (fun _ _ _ _ _ => pg_tup rfl (pgs_cons (pg_name (i := 1) scNu.nd rfl (Or.inl rfl)) (pgs_cons (pg_name (i := 2) scNu.nd rfl (Or.inl rfl)) pgs_nil)))
      (fun _ _ _ _ _ => pts_nil) (fun _ _ _ _ _ => pv 2) (fun _ _ _ _ _ => pv 1))), ?_⟩
    refine ⟨_, rfl, a, rfl, ?_⟩
    have walk : ∀ {J : It} {G : Hp → Prop}, Walk J (ps.map V.str).length G (YPair (fun i => some (.int (i : Nat))) (fun i => (ps.map V.str)[i]?)) → (∀ H', Same H H' → G H') → ∀ D, H D = none → ∃ W : Nat → Nat → Hp → Prop, (∃ m, W 0 m (upd H D (.dK []))) ∧ ∀ i m H', W i m H' → (J.stop i H' ∧ Q (.ref D) H') ∨ (J.go i H' ∧ ∃ Nx : Hp → Prop, (∀ H', Nx H' → ∃ m', m' < m ∧ W (i + 1) m' H') ∧
        ∀ x H'', J.yld i H' x H'' → gTup K 2 (gCons (gName 1) (gCons (gName 2) gNil)) x (wipe [some (.ref a), none, none] [1, 2]) H'' fun σ2 H2 => wipe σ2 [1, 2] = wipe [some (.ref a), none, none] [1, 2] ∧ tYes σ2 H2 fun b H3 => if b = true then tVar 2 σ2 H3 fun y H4 => tVar 1 σ2 H4 fun z H5 =>
          ∃ kvs k, y = kV k ∧ H5 D = some (.dK kvs) ∧ kvs.length < sizeLine ∧ Nx (upd H5 D (.dK (putK kvs k z))) else Nx H3) := by
      intro J G wk st D nD
      refine dc_it wk (fun i H' => Same H H' ∧ ∃ kvs : List (Key × V), H' D = some (.dK kvs) ∧ kvs.length ≤ i ∧ ∀ x, x ∈ ps.take i → ∃ v, valV kvs (.inr x) = some v) ⟨same_upd nD, [], upd_same, Nat.le_refl _, fun x hx => by simp at hx⟩ (fun i H' _ z => st _ z.1) ?_ ?_
      · rintro i x H1 H2 hi ⟨s1, kvs, at_D, lk, has⟩ ⟨t, y, z, rfl, nt, rfl, hy, hz⟩
        cases hy
        rw [List.length_map] at hi
        obtain rfl : z = V.str ps[i] := by
          have hz : (ps.map V.str)[i]? = some z := hz
          rw [List.getElem?_map, List.getElem?_eq_getElem hi] at hz
          exact (Option.some.inj hz).symm
        have s2 := same_upd (o := .tup [.int (i : Nat), .str ps[i]]) nt
        refine ⟨t, _, rfl, SqT.of upd_same, rfl, _, _, rfl, _, _, rfl, ⟨rfl, rfl, kept ⟨_, rfl, _, rfl, kvs, .inr ps[i], rfl, s2 _ _ at_D, ?_, ?_, _, upd_same, ?_, ?_⟩⟩⟩
        · have : (100 : Nat) ≤ sizeLine := by decide
          omega
        · intro b o e
          by_cases hb : b = D
          · rw [hb, nD] at e
            cases e
          · rw [upd_ne hb]
            exact s2 _ _ (s1 _ _ e)
        · exact Nat.le_trans put_len (by omega)
        · intro x hx
          rw [List.take_succ_eq_append_getElem hi] at hx
          rcases List.mem_append.mp hx with h | h
          · obtain ⟨v, hv⟩ := has x h
            exact put_has hv
          · obtain rfl := List.mem_singleton.mp h
            exact put_at
      · rintro H1 ⟨s1, kvs, at_D, lk, has⟩
        rw [List.length_map, List.take_length] at has
        exact k H1 D kvs s1 at_D has
    rcases sq with e | e
    · exact .inl ⟨_, SqL.of e, fun D nD => walk walk_enum (fun H' s => SqL.of (s _ _ e)) D nD⟩
    · exact .inr ⟨_, SqT.of e, fun D nD => walk walk_enumT (fun H' s => SqT.of (s _ _ e)) D nD⟩
theorem scNO : FnScope ["numbers", "name"] ["numbers", "name"] (defScope sNumOf) := ⟨rfl, rfl, rfl, by decide +kernel, rfl, by decide +kernel, by decide +kernel⟩
theorem ok_numof {f : Addr} {fd : FuncData} (F : Fun K "_number_of" "_number_of" sNumOf f fd) (B : Bl mg) : FnOk P w K mg base CX0 1 f fd ["numbers", "name"] spNumOf := by
  refine F.ok scNO (fun vs H Q E h => ?_) (fun cdv A outer s H vs Q E hr h => ?_)
  · obtain ⟨D, x, kvs, v, rfl, _⟩ := h
    rfl
  · obtain ⟨D, x, kvs, v, rfl, hD, hv, q⟩ := h
    have hu := hu_of hr
    refine ⟨_, pss_cons (ps_if (PW.pt (pw_or (pt_not (pt_val (pe_callB call_isi (by rfl) B.isi (by decide +kernel) (pa_cons (pv 1) (pa_cons (pe_bltn (v := .ty "str") rfl B.str (by decide +kernel) rfl) pa_nil))))) (pw_or1 (pt_cmp (pc_dnotin hu (pv 1) (pv 0)))))) (pss_one ps_never) pss_nil)
      (pss_one (ps_ret (pe_dget hu (pv 0) (pv 1) (fun _ _ => rfl)))), ?_⟩
    refine ⟨_, rfl, _, _, _, _, true, rfl, .ty "str", .base (.str _), kit_ty (by decide +kernel), _, rfl, iteF ?_⟩
    refine ⟨_, rfl, _, rfl, D, _, rfl, DGet.k (k := Sum.inr x) hD, ?_⟩
    rw [hv]
    refine ⟨_, rfl, iteF ?_⟩
    refine ⟨_, rfl, _, rfl, D, v, rfl, by rw [← hv]; exact DGet.k (k := Sum.inr x) hD, q⟩
theorem scNP : FnScope ["self", "name"] ["self", "name"] (defScope sNumPart) := ⟨rfl, rfl, rfl, by decide +kernel, rfl, by decide +kernel, by decide +kernel⟩
theorem ok_numpart {f C : Addr} {fd : FuncData} (F : Fun K "number_of_part" "House.number_of_part" sNumPart f fd) (B : Bl mg) (cl : Cls K C) (na : NoAttr K C "_part_numbers") (No : Callee P w K mg base "_number_of" 1 ["numbers", "name"] spNumOf) :
    FnOk P w K mg base CX0 2 f fd ["self", "name"] (spNumPart C) := by
  refine F.ok scNP (fun vs H Q E h => ?_) (fun cdv A outer s H vs Q E hr h => ?_)
  · obtain ⟨o, D, dx, x, kvs, fs, rfl, _⟩ := h
    rfl
  · obtain ⟨o, D, dx, x, kvs, fs, rfl, ho, lD, hD, hx, q⟩ := h
    refine ⟨_, pss_cons (ps_if (PW.pt (pw_and (pt_val (pe_callB call_isi (by rfl) B.isi (by decide +kernel) (pa_cons (pv 1) (pa_cons (pe_bltn (v := .ty "str") rfl B.str (by decide +kernel) rfl) pa_nil)))) (pw_and1 (pt_cmpR op_eq (pv 1) pe_str (nomark _))))) (pss_one (ps_ret (pe_un un_neg pe_int))) pss_nil)
      (pss_one (ps_ret (pe_callee No hr rfl (pa_cons (pe_fld (pv 0) rfl) (pa_cons (pv 1) pa_nil))))), ?_⟩
    refine ⟨_, rfl, _, _, _, _, true, rfl, .ty "str", .base (.str _), kit_ty (by decide +kernel), _, rfl, iteT ⟨_, rfl, rfl, _, rfl, ?_⟩⟩
    refine ite2 (fun hc => ⟨_, rfl, q _⟩) (fun hc => ?_)
    rcases hx with rfl | ⟨v, hv⟩
    · exact absurd (decide_eq_true rfl) hc
    · exact ⟨_, rfl, o, C, dx, fs, _, rfl, ho, cl, na, lD, _, rfl, D, x, kvs, v, rfl, hD, hv, q v⟩
end
end K02

namespace K02
open PySem PySem.Spec PyProof.Rows L2
open Cal EnuT Sqx Exn Keys

theorem comp_ix {K K' : W.Frag} {te : TE} {σ : L2.St} {H : Hp} {Q : VK} {td : Addr} {i : Nat} {j : Int} {ws ys : List V} (hte : ∀ R : VK, R (.ref td) H → te σ H R) (htd : H td = some (.tup ws)) (few : ws.length ≤ 50)
    (pw : Paired (fun v y => ∃ t xs, v = V.ref t ∧ H t = some (.tup xs) ∧ atI xs j = some y) ws ys)
    (hw : ∀ v, wipe ((wipe σ [i]).set i (some v)) [i] = wipe σ [i]) (hg : ∀ v : V, ((wipe σ [i]).set i (some v))[i]? = some (some v))
    (k : ∀ H' D, Same H H' → H D = none → H' D = some (.lst ys) → Q (.ref D) H') :
    tLc (iTup K te) (gName i) tYes (tOp (rIxT K') (tVar i) (tC (.int j))) [i] σ H Q := by
  refine hte _ ⟨td, rfl, ⟨_, SqT.of htd⟩, fun D nD => ?_⟩
  refine lc_tup (xs := ws) (fun n H' => (∀ b o, b ≠ D → H b = some o → H' b = some o) ∧ H' D = some (.lst (ys.take n))) ⟨fun b o ne e => by rw [upd_ne ne]; exact e, upd_same⟩
    (fun n H' _ z => SqT.of (z.1 _ _ (ne_of_none htd nD) htd)) ?_ ?_
  · rintro n x H1 hx ⟨keep, at_D⟩
    obtain ⟨y, hy, t, xs, rfl, et, ej⟩ := paired_get pw hx
    obtain ⟨lt, rfl⟩ := List.getElem?_eq_some_iff.mp hy
    have ly := paired_len pw
    refine ⟨hw _, kept ⟨_, hg _, t, xs, _, _, rfl, rfl, SqT.of (keep _ _ (ne_of_none et nD) et), ej, _, at_D, ?_, fun b o ne e => by rw [upd_ne ne]; exact keep b o ne e, ?_⟩⟩
    · have : (100 : Nat) ≤ sizeLine := by decide
      rw [List.length_take]
      omega
    · rw [upd_same, List.take_succ_eq_append_getElem lt]
  · rintro H1 ⟨keep, at_D⟩
    rw [paired_len pw, List.take_length] at at_D
    exact k H1 D (fun b o e => keep b o (ne_of_none e nD) e) nD at_D

/-- facts of House's class for its __init__ -/
structure HC2 (K : W.Frag) (C : Addr) : Prop where
  cl : Cls K C
  n1 : NoAttr K C "parts"
  n2 : NoAttr K C "doors"
  n3 : NoAttr K C "cells"
  n4 : NoAttr K C "_part_numbers"
  n5 : NoAttr K C "_door_numbers"
  n6 : NoAttr K C "_cell_numbers"
  n7 : NoAttr K C "ends"
  n8 : NoAttr K C "cell_parts"
  n9 : NoAttr K C "kept"
def S1 (f : Addr) (sp : Sp) : Addr → Option Sp := fun g => if g = f then some sp else none
/-- a house at o that keeps these things -/
def HouseIns (H : Hp) (C o : Addr) (h : Hs) : Prop := ∃ dx fs tp td tc vd vc, H o = some (.ins C dx fs) ∧ List.lookup ("parts" : Str) fs = some (.ref tp) ∧ List.lookup ("doors" : Str) fs = some (.ref td) ∧ List.lookup ("cells" : Str) fs = some (.ref tc) ∧ List.lookup ("text" : Str) fs = none ∧
  H tp = some (.tup (h.parts.map V.str)) ∧ H td = some (.tup vd) ∧ Paired (DoorAt H) vd h.doors ∧ H tc = some (.tup vc) ∧ Paired (CellAt H) vc h.cells
structure GoodH (h : Hs) : Prop where
  p1 : 1 ≤ h.parts.length
  p8 : h.parts.length ≤ 8
  d12 : h.doors.length ≤ 12
  c8 : h.cells.length ≤ 8
  nodup : h.names.Nodup
  name : ∀ x, x ∈ h.names → nameOk x = true
  ends : ∀ d, d ∈ h.doors → EndIn h.parts d.one ∧ EndIn h.parts d.two ∧ d.one ≠ d.two
  cin : ∀ c, c ∈ h.cells → c.p ∈ h.parts
def dT (d : Door) : Tv := .sq (dvs d)
def cT (c : Cell) : Tv := .sq (cvs c)
def PartsBad (a : Av) (i : Nat) : Prop := (((∃ u, a = .fl u) ∨ a = .sq []) ∧ i = 0) ∨ ∃ ps t rest, a = .sq (ps.map strT ++ t :: rest) ∧ GoodPs ps ∧ OddPart ps t ∧ i = ps.length
def ThingsBad (B : List Str → Tv → Bool) (ps tn : List Str) (m : Nat) (b : Av) (i : Nat) : Prop := ((∃ u, b = .fl u) ∧ i = tn.length) ∨ ∃ ts t rest ns, b = .sq (ts ++ t :: rest) ∧ OkThings B ps tn m ts ns ∧ OddThing B ps tn m ts ns t ∧ i = tn.length + ts.length
def OkParts (a : Av) (ps : List Str) : Prop := a = .sq (ps.map strT) ∧ 1 ≤ ps.length ∧ GoodPs ps
def OkDoors (b : Av) (ps : List Str) (ts : List Tv) (ns : List Str) : Prop := b = .sq ts ∧ OkThings doorB ps ps 12 ts ns
def OkCells (c : Av) (ps ns : List Str) (us : List Tv) (ms : List Str) : Prop := c = .sq us ∧ OkThings cellB ps (ps ++ ns) 8 us ms
def HouseBad (a b c : Av) (i : Nat) : Prop := PartsBad a i ∨ (∃ ps, OkParts a ps ∧ ThingsBad doorB ps ps 12 b i) ∨ ∃ ps ts ns, OkParts a ps ∧ OkDoors b ps ts ns ∧ ThingsBad cellB ps (ps ++ ns) 8 c i
def HouseOk (a b c : Av) (h : Hs) : Prop := GoodH h ∧ a = .sq (h.parts.map strT) ∧ b = .sq (h.doors.map dT) ∧ c = .sq (h.cells.map cT)
def BadO (CH o : Addr) (H : Hp) (E : XK) (i : Nat) : Prop := ∀ H' d, But o H H' → H d = none → H' d = some (.xd [("at", .int (i : Nat))]) → E (.ref CH) (some d) H'
def spInit (C CH : Addr) : Sp := fun vs H Q E => ∃ (o dx : Addr) (v1 v2 v3 : V) (a b c : Av), vs = [.ref o, v1, v2, v3] ∧ H o = some (.ins C dx []) ∧ AvAt H v1 a ∧ AvAt H v2 b ∧ AvAt H v3 c ∧
  ((∃ i, HouseBad a b c i ∧ BadO CH o H E i) ∨ ∃ h, HouseOk a b c h ∧ ∀ H', But o H H' → HouseIns H' C o h → Q .non H')
theorem paired_mem {α β : Type} {R : α → β → Prop} : ∀ {xs : List α} {ys : List β} {x : α}, Paired R xs ys → x ∈ xs → ∃ y, y ∈ ys ∧ R x y
  | _, _, _, .cons r t, h => by
    rcases List.mem_cons.mp h with rfl | z
    · exact ⟨_, List.mem_cons_self .., r⟩
    · obtain ⟨y, hy, q⟩ := paired_mem t z
      exact ⟨y, List.mem_cons_of_mem _ hy, q⟩
theorem paired_map {α β γ : Type} {R : α → γ → Prop} (f : β → γ) : ∀ {xs : List α} {ys : List β}, Paired (fun x y => R x (f y)) xs ys → Paired R xs (ys.map f)
  | _, _, .nil => .nil
  | _, _, .cons r t => .cons r (paired_map f t)
theorem paired_mono' {α β : Type} {R S : α → β → Prop} : ∀ {xs : List α} {ys : List β}, Paired R xs ys → (∀ a b, b ∈ ys → R a b → S a b) → Paired S xs ys
  | _, _, .nil, _ => .nil
  | _, _, .cons r t, f => .cons (f _ _ (List.mem_cons_self ..) r) (paired_mono' t fun a b hb => f a b (List.mem_cons_of_mem _ hb))
theorem seq_fld {K : W.Frag} {ta tv : TE} {f : Str} {T : TS} {D : Ends} {σ : L2.St} {H : Hp}
    (h : tv σ H fun y H1 => ta σ H1 fun x H2 => ∃ a C dx fs, x = V.ref a ∧ H2 a = some (HO.ins C dx fs) ∧ Cls K C ∧ NoAttr K C f ∧ fs.length < 1000 ∧ T D σ (upd H2 a (HO.ins C dx (putF f y fs)))) : tSeq (sFld K ta tv f) T D σ H := h
theorem one_fld {K : W.Frag} {ta tv : TE} {f : Str} {D : Ends} {σ : L2.St} {H : Hp}
    (h : tv σ H fun y H1 => ta σ H1 fun x H2 => ∃ a C dx fs, x = V.ref a ∧ H2 a = some (HO.ins C dx fs) ∧ Cls K C ∧ NoAttr K C f ∧ fs.length < 1000 ∧ D.nx σ (upd H2 a (HO.ins C dx (putF f y fs)))) : sFld K ta tv f D σ H := h
theorem call_one {sp : Sp} {te : TE} {E : XK} {σ : L2.St} {H : Hp} {Q : VK} (h : te σ H fun x H1 => sp [x] H1 Q E) : tCall sp [] E (tCons te tNil) σ H Q := h
theorem but_upd {o : Addr} {H H1 : Hp} {u : HO} (b : But o H H1) : But o H (upd H1 o u) := fun c x ne e => by
  rw [upd_ne ne]
  exact b c x ne e
theorem but_same {o : Addr} {H H1 H2 : Hp} (b : But o H H1) (s : Same H1 H2) : But o H H2 := fun c x ne e => s _ _ (b c x ne e)
theorem keep_upd {H : Hp} {o t : Addr} {C dx : Addr} {fs fs' : List (Str × V)} {xs : List V} (eo : H o = some (.ins C dx fs)) (et : H t = some (.tup xs)) : upd H o (.ins C dx fs') t = some (.tup xs) := by
  rw [upd_ne (ne_of et eo (fun z => by cases z))]
  exact et
theorem keep_lst {H : Hp} {o t : Addr} {C dx : Addr} {fs fs' : List (Str × V)} {xs : List V} (eo : H o = some (.ins C dx fs)) (et : H t = some (.lst xs)) : upd H o (.ins C dx fs') t = some (.lst xs) := by
  rw [upd_ne (ne_of et eo (fun z => by cases z))]
  exact et
theorem keep_dK {H : Hp} {o t : Addr} {C dx : Addr} {fs fs' : List (Str × V)} {xs : List (Key × V)} (eo : H o = some (.ins C dx fs)) (et : H t = some (.dK xs)) : upd H o (.ins C dx fs') t = some (.dK xs) := by
  rw [upd_ne (ne_of et eo (fun z => by cases z))]
  exact et
theorem inV_in {x : Str} {ps : List Str} (h : x ∈ ps) : inV (.str x) (ps.map V.str) = true := by
  rw [inV_strs]
  exact decide_eq_true h
theorem door_good {h : Hs} (g : GoodH h) {d : Door} (hd : d ∈ h.doors) : doorB h.parts (dT d) = true := by
  obtain ⟨e1, e2, e3⟩ := g.ends d hd
  have n := g.name d.n (List.mem_append_right _ (List.mem_append_left _ (List.mem_map.mpr ⟨d, hd, rfl⟩)))
  have inE : ∀ {x : Str}, EndIn h.parts x → inV (.str x) (endsV h.parts) = true := fun {x} z => by
    rw [ends_strs]
    refine inV_in ?_
    rcases z with z | z
    · rw [z]; simp
    · exact List.mem_append_left _ z
  show (nmB (.str d.n) && (inV (.str d.one) (endsV h.parts) && (inV (.str d.two) (endsV h.parts) && (!decide (V.str d.one = V.str d.two) && isBl (.bl d.op))))) = true
  rw [inE e1, inE e2, show nmB (.str d.n) = nameOk d.n from rfl, n, decide_eq_false (fun z => e3 (by injection z))]
  rfl
theorem cell_good {h : Hs} (g : GoodH h) {d : Cell} (hd : d ∈ h.cells) : cellB h.parts (cT d) = true := by
  have n := g.name d.n (List.mem_append_right _ (List.mem_append_right _ (List.mem_map.mpr ⟨d, hd, rfl⟩)))
  show (nmB (.str d.n) && (inV (.str d.p) (h.parts.map V.str) && isBl (.bl d.k))) = true
  rw [inV_in (g.cin d hd), show nmB (.str d.n) = nameOk d.n from rfl, n]
  rfl
theorem parts_good {h : Hs} (g : GoodH h) : GoodPs h.parts := ⟨g.p8, (List.sublist_append_left h.parts (h.doors.map (·.n) ++ h.cells.map (·.n))).nodup g.nodup, fun x hx => g.name x (List.mem_append_left _ hx)⟩
theorem doors_good {h : Hs} (g : GoodH h) : OkThings doorB h.parts h.parts 12 (h.doors.map dT) (h.doors.map (·.n)) where
  ok := fun t ht => by
    obtain ⟨d, hd, rfl⟩ := List.mem_map.mp ht
    exact door_good g hd
  names := by
    rw [List.map_map, List.map_map]
    rfl
  nodup := by
    have : (h.parts ++ h.doors.map (·.n)).Sublist h.names := (List.Sublist.refl _).append (List.sublist_append_left _ _)
    exact this.nodup g.nodup
  few := by
    rw [List.length_map]
    exact g.d12
theorem cells_good {h : Hs} (g : GoodH h) : OkThings cellB h.parts (h.parts ++ h.doors.map (·.n)) 8 (h.cells.map cT) (h.cells.map (·.n)) where
  ok := fun t ht => by
    obtain ⟨d, hd, rfl⟩ := List.mem_map.mp ht
    exact cell_good g hd
  names := by
    rw [List.map_map, List.map_map]
    rfl
  nodup := by
    rw [List.append_assoc]
    exact g.nodup
  few := by
    rw [List.length_map]
    exact g.c8
/-- the same, stage by stage -/
theorem stages {a b c : Av} {B : Nat → Prop} {k : Hs → Prop} (h : (∃ i, HouseBad a b c i ∧ B i) ∨ ∃ h, HouseOk a b c h ∧ k h) :
    (∃ i, PartsBad a i ∧ B i) ∨ ∃ ps, OkParts a ps ∧ ((∃ i, ThingsBad doorB ps ps 12 b i ∧ B i) ∨ ∃ ts ns, OkDoors b ps ts ns ∧ ((∃ i, ThingsBad cellB ps (ps ++ ns) 8 c i ∧ B i) ∨ ∃ us ms, OkCells c ps ns us ms ∧ ∃ h, GoodH h ∧ ps = h.parts ∧ ts = h.doors.map dT ∧ us = h.cells.map cT ∧ k h)) := by
  rcases h with ⟨i, (p | ⟨ps, o1, t⟩ | ⟨ps, ts, ns, o1, o2, t⟩), bi⟩ | ⟨h, ⟨g, rfl, rfl, rfl⟩, kh⟩
  · exact .inl ⟨i, p, bi⟩
  · exact .inr ⟨ps, o1, .inl ⟨i, t, bi⟩⟩
  · exact .inr ⟨ps, o1, .inr ⟨ts, ns, o2, .inl ⟨i, t, bi⟩⟩⟩
  · exact .inr ⟨h.parts, ⟨rfl, g.p1, parts_good g⟩, .inr ⟨_, _, ⟨rfl, doors_good g⟩, .inr ⟨_, _, ⟨rfl, cells_good g⟩, h, g, rfl, rfl, rfl, kh⟩⟩⟩
theorem names_ix {H : Hp} : ∀ {ws : List V} {ts : List Tv} {ns : List Str}, Paired (TupAt H) ws ts → ts.map nameT = ns.map some → Paired (fun v y => ∃ t xs, v = V.ref t ∧ H t = some (.tup xs) ∧ atI xs 0 = some y) ws (ns.map V.str)
  | _, _, [], .nil, _ => .nil
  | _, _, n :: ns, .cons r t, e => by
    rw [List.map_cons, List.map_cons] at e
    injection e with e1 e2
    obtain ⟨c, xs, rfl, rfl, hc⟩ := r
    refine .cons ?_ (names_ix t e2)
    match xs, e1, hc with
    | V.str m :: xs, e1, hc =>
      have e1 : some m = some n := e1
      injection e1 with e1
      exact ⟨c, _, rfl, hc, by rw [e1]; exact atI_nat (j := 0) rfl⟩
end K02

namespace K02
open PySem PySem.Spec PyProof.Rows L2
open Cal EnuT Sqx Exn Keys

theorem SeqAt.but {H H' : Hp} {o a C dx : Addr} {fs : List (Str × V)} {xs : List V} (b : But o H H') (ho : H o = some (.ins C dx fs)) (x : SeqAt H a xs) : SeqAt H' a xs := x.imp (fun e => b _ _ (ne_of e ho (fun z => by cases z)) e) (fun e => b _ _ (ne_of e ho (fun z => by cases z)) e)
theorem TvAt.but {H H' : Hp} {o C dx : Addr} {fs : List (Str × V)} (b : But o H H') (ho : H o = some (.ins C dx fs)) {v : V} {t : Tv} (x : TvAt H v t) : TvAt H' v t := by
  cases t with
  | fl u => exact x
  | sq xs =>
    obtain ⟨a, e, sq, r⟩ := x
    exact ⟨a, e, SeqAt.but b ho sq, r⟩
theorem AvAt.but {H H' : Hp} {o C dx : Addr} {fs : List (Str × V)} (b : But o H H') (ho : H o = some (.ins C dx fs)) {v : V} {t : Av} (x : AvAt H v t) : AvAt H' v t := by
  cases t with
  | fl u => exact x
  | sq ts =>
    obtain ⟨a, vs, e, sq, pw, r⟩ := x
    exact ⟨a, vs, e, SeqAt.but b ho sq, paired_mono (fun _ _ q => q.but b ho) pw, r⟩
theorem BadO.at {CH o C dx : Addr} {H G : Hp} {E : XK} {i : Nat} {fs : List (Str × V)} (b : BadO CH o H E i) (k : But o H G) (go : G o = some (.ins C dx fs)) : Bad CH G E i := fun H' d s nd e => by
  refine b H' d (fun c u ne hc => s _ _ (k c u ne hc)) ?_ e
  cases hd : H d with
  | none => rfl
  | some u =>
    have : d ≠ o := fun z => by
      rw [z, go] at nd
      cases nd
    rw [k d u this hd] at nd
    cases nd
theorem paired_unmap {α β γ : Type} {R : α → γ → Prop} (f : γ → β) : ∀ {xs : List α} {ys : List γ}, Paired (fun x y => ∀ z, y = f z → R x z) xs (ys.map f) → Paired R xs ys
  | _, [], .nil => .nil
  | _, _ :: _, .cons r t => .cons (r _ rfl) (paired_unmap f t)
section
variable {P : Program} {w : World} {K : W.Frag} {mg : Str → Option Value} {base : Heap}
theorem scIn : FnScope ["self", "parts", "doors", "cells", "taken", "door", "cell"] ["self", "parts", "doors", "cells"] (defScope sInit) := ⟨rfl, rfl, rfl, by decide +kernel, rfl, by decide +kernel, by decide +kernel⟩
theorem ok_init {f C CH fD fC fM : Addr} {fd fdM : FuncData} {t1 t2 : Tok} (F : Fun K "__init__" "House.__init__" sInit f fd) (B : Bl mg) (T : HC2 K C) (ChP : CalleeX P w K mg base "_checked_parts" 3 ["parts"] (spParts CH))
    (Ch1 : CalleeX P w K mg base "_checked_things" 3 ["things", "most", "parts", "taken", "is_thing"] (spThings' CH (S1 fD (spThing doorB)))) (Ch2 : CalleeX P w K mg base "_checked_things" 3 ["things", "most", "parts", "taken", "is_thing"] (spThings' CH (S1 fC (spThing cellB))))
    (Nu : Callee P w K mg base "_numbers" 1 ["names"] spNums) (mD : mg "MOST_DOORS" = some (.int 12 t1)) (mC : mg "MOST_CELLS" = some (.int 8 t2)) (gD : mg "_is_door" = some (.ref fD)) (gC : mg "_is_cell" = some (.ref fC))
    (M : Meth K C "number_of_part" fM) (FM : FnOk P w K mg base CX0 2 fM fdM ["self", "name"] (spNumPart C)) (bM : Binds K fdM ["self", "name"] []) : FnOk P w K mg base (L2.CX P w) 4 f fd ["self", "parts", "doors", "cells"] (spInit C CH) := by
  refine F.okX scIn (fun vs H Q E h => ?_) (fun cdv A outer s H vs Q E hr h => ?_)
  · obtain ⟨o, dx, v1, v2, v3, a, b, c, rfl, _⟩ := h
    rfl
  · obtain ⟨o, dx, v1, v2, v3, a, b, c, rfl, ho, at_a, at_b, at_c, ev⟩ := h
    have hr2 := hr.mono (show 2 ≤ 3 by decide)
    have hr1 := hr.mono (show 1 ≤ 3 by decide)
    refine ⟨_, pss_cons (ps_fld (pv 0) (pe_calleeX ChP hr rfl (passes_call (takes_of rfl rfl rfl rfl) (fun _ _ _ _ h => h)) (pa_cons (pv 1) pa_nil)) rfl)
      (pss_cons (ps_fld (pv 0) (pe_calleeX Ch1 hr rfl (passes_call (takes_of rfl rfl rfl rfl) (fun _ _ _ _ h => h)) (pa_cons (pv 2) (pa_cons (pe_glob (v := .int 12) rfl mD ⟨_, rfl⟩) (pa_cons (pe_fld (pv 0) rfl) (pa_cons (pe_fld (pv 0) rfl) (pa_cons (pe_glob (v := .ref fD) rfl gD rfl) pa_nil)))))) rfl)
      (pss_cons (ps_set (i := 4) scIn.nd rfl (Or.inl rfl) (pe_lst (StX.pa_star (pe_fld (pv 0) rfl) (StX.pa_star (pe_lc (own := [("door", 5)]) (g := gName 5) (tt := tYes) (by rfl) scIn.nd (pi_tup (pe_fld (pv 0) rfl))
        (blkOk_by (own := [("door", 5)]) (N := ["self", "parts", "doors", "cells", "taken", "door", "cell"]) (sc := defScope sInit) (by decide +kernel))
        (fun _ _ _ _ _ => pg_name (i := 5) scIn.nd rfl (Or.inl rfl)) (fun _ _ _ _ _ => pts_nil) (fun _ _ _ _ _ => (show PE _ _ (tOp (rIxT K) (tVar 5) (tC (.int 0))) from pe_ix ix_tup (pv 5) pe_int (fun _ _ => rfl)))) pa_nil))))
      (pss_cons (ps_fld (pv 0) (pe_calleeX Ch2 hr rfl (passes_call (takes_of rfl rfl rfl rfl) (fun _ _ _ _ h => h)) (pa_cons (pv 3) (pa_cons (pe_glob (v := .int 8) rfl mC ⟨_, rfl⟩) (pa_cons (pe_fld (pv 0) rfl) (pa_cons (pv 4) (pa_cons (pe_glob (v := .ref fC) rfl gC rfl) pa_nil)))))) rfl)
      (pss_cons (ps_fld (pv 0) (pe_callee Nu hr1 rfl (pa_cons (pe_fld (pv 0) rfl) pa_nil)) rfl)
      (pss_cons (ps_fld (pv 0) (pe_callee Nu hr1 rfl (pa_cons (pe_lc (own := [("door", 5)]) (g := gName 5) (tt := tYes) (by rfl) scIn.nd (pi_tup (pe_fld (pv 0) rfl))
        (blkOk_by (own := [("door", 5)]) (N := ["self", "parts", "doors", "cells", "taken", "door", "cell"]) (sc := defScope sInit) (by decide +kernel))
        (fun _ _ _ _ _ => pg_name (i := 5) scIn.nd rfl (Or.inl rfl)) (fun _ _ _ _ _ => pts_nil) (fun _ _ _ _ _ => (show PE _ _ (tOp (rIxT K) (tVar 5) (tC (.int 0))) from pe_ix ix_tup (pv 5) pe_int (fun _ _ => rfl)))) pa_nil)) rfl)
      (pss_cons (ps_fld (pv 0) (pe_callee Nu hr1 rfl (pa_cons (pe_lc (own := [("cell", 6)]) (g := gName 6) (tt := tYes) (by rfl) scIn.nd (pi_tup (pe_fld (pv 0) rfl))
        (blkOk_by (own := [("cell", 6)]) (N := ["self", "parts", "doors", "cells", "taken", "door", "cell"]) (sc := defScope sInit) (by decide +kernel))
        (fun _ _ _ _ _ => pg_name (i := 6) scIn.nd rfl (Or.inl rfl)) (fun _ _ _ _ _ => pts_nil) (fun _ _ _ _ _ => (show PE _ _ (tOp (rIxT K) (tVar 6) (tC (.int 0))) from pe_ix ix_tup (pv 6) pe_int (fun _ _ => rfl)))) pa_nil)) rfl)
      (pss_cons (ps_fld (pv 0) (pe_callTy call_tuple_of (by rfl) B.tuple (by decide +kernel) (pa_cons (pe_lc (own := [("door", 5)]) (g := gName 5) (tt := tYes) (by rfl) scIn.nd (pi_tup (pe_fld (pv 0) rfl))
        (blkOk_by (own := [("door", 5)]) (N := ["self", "parts", "doors", "cells", "taken", "door", "cell"]) (sc := defScope sInit) (by decide +kernel))
        (fun _ _ _ _ _ => pg_name (i := 5) scIn.nd rfl (Or.inl rfl)) (fun _ _ _ _ _ => pts_nil)
        (fun _ _ _ _ _ => pe_tup (pa_cons (pe_meth (pv 0) T.cl M FM hr2 bM .nil pass0 (pa_cons (show PE _ _ (tOp (rIxT K) (tVar 5) (tC (.int 1))) from pe_ix ix_tup (pv 5) pe_int (fun _ _ => rfl)) pa_nil))
          (pa_cons (pe_meth (pv 0) T.cl M FM hr2 bM .nil pass0 (pa_cons (show PE _ _ (tOp (rIxT K) (tVar 5) (tC (.int 2))) from pe_ix ix_tup (pv 5) pe_int (fun _ _ => rfl)) pa_nil)) pa_nil)))) pa_nil)) rfl)
      (pss_cons (ps_fld (pv 0) (pe_callTy call_tuple_of (by rfl) B.tuple (by decide +kernel) (pa_cons (pe_lc (own := [("cell", 6)]) (g := gName 6) (tt := tYes) (by rfl) scIn.nd (pi_tup (pe_fld (pv 0) rfl))
        (blkOk_by (own := [("cell", 6)]) (N := ["self", "parts", "doors", "cells", "taken", "door", "cell"]) (sc := defScope sInit) (by decide +kernel))
        (fun _ _ _ _ _ => pg_name (i := 6) scIn.nd rfl (Or.inl rfl)) (fun _ _ _ _ _ => pts_nil)
        (fun _ _ _ _ _ => pe_meth (pv 0) T.cl M FM hr2 bM .nil pass0 (pa_cons (show PE _ _ (tOp (rIxT K) (tVar 6) (tC (.int 1))) from pe_ix ix_tup (pv 6) pe_int (fun _ _ => rfl)) pa_nil))) pa_nil)) rfl)
      (pss_one (ps_fld (pv 0) (pe_callTy call_tuple_of (by rfl) B.tuple (by decide +kernel) (pa_cons (pe_lc (own := [("cell", 6)]) (g := gName 6) (tt := tYes) (by rfl) scIn.nd (pi_tup (pe_fld (pv 0) rfl))
        (blkOk_by (own := [("cell", 6)]) (N := ["self", "parts", "doors", "cells", "taken", "door", "cell"]) (sc := defScope sInit) (by decide +kernel))
        (fun _ _ _ _ _ => pg_name (i := 6) scIn.nd rfl (Or.inl rfl)) (fun _ _ _ _ _ => pts_nil) (fun _ _ _ _ _ => (show PE _ _ (tOp (rIxT K) (tVar 6) (tC (.int 2))) from pe_ix ix_tup (pv 6) pe_int (fun _ _ => rfl)))) pa_nil)) rfl)))))))))), ?_⟩
    rcases stages ev with ⟨i, pb, bad⟩ | ⟨ps, ⟨ea, p1, gp⟩, evB⟩
    · have bad := bad.at (fun _ _ _ e => e) ho
      rcases pb with ⟨z, rfl⟩ | ⟨ps, t, rest, ea, gp, od, rfl⟩
      · exact ⟨_, rfl, v1, a, rfl, at_a, .inl ⟨z, bad⟩⟩
      · exact ⟨_, rfl, v1, a, rfl, at_a, .inr ⟨ps, t :: rest, ea, by rw [List.length_cons]; omega, gp, (fun t' r' e => by cases e; exact ⟨od, bad⟩), (fun e => nomatch e)⟩⟩
    have p8 := gp.len
    refine ⟨_, rfl, v1, a, rfl, at_a, .inr ⟨ps, [], by rw [List.append_nil]; exact ea, by simpa using p1, gp, (fun _ _ e => nomatch e), fun _ H1 tp s1 e1 => ⟨_, rfl, o, C, dx, [], rfl, s1 _ _ ho, T.cl, T.n1, by decide, ?_⟩⟩⟩
    have o1 : upd H1 o (.ins C dx [("parts", .ref tp)]) o = some (.ins C dx [("parts", .ref tp)]) := upd_same
    have b1 : But o H (upd H1 o (.ins C dx [("parts", .ref tp)])) := but_upd (but_same (fun _ _ _ e => e) s1)
    have p1' : upd H1 o (.ins C dx [("parts", .ref tp)]) tp = some (.tup (ps.map V.str)) := keep_upd (s1 _ _ ho) e1
    show Ends.nx _ _ (upd H1 o (.ins C dx [("parts", .ref tp)]))
    revert o1 b1 p1'
    generalize upd H1 o (.ins C dx [("parts", .ref tp)]) = G1
    intro o1 b1 p1'
    refine ⟨_, rfl, _, rfl, o, C, dx, _, _, rfl, o1, T.cl, T.n1, rfl, _, rfl, o, C, dx, _, _, rfl, o1, T.cl, T.n1, rfl, ?_⟩
    have at_b1 := at_b.but b1 ho
    rcases evB with ⟨i, tb, bad⟩ | ⟨ts, ns, ⟨eb, okd⟩, evC⟩
    · have bad := bad.at b1 o1
      rcases tb with ⟨z, rfl⟩ | ⟨ts, t, rest, ns, eb, ok, od, rfl⟩
      · exact ⟨v2, 12, tp, tp, fD, b, ps, ps, doorB, rfl, at_b1, by decide, p1', p8, .inr p1', by omega, if_pos rfl, named_door, .inl ⟨z, bad⟩⟩
      · exact ⟨v2, 12, tp, tp, fD, b, ps, ps, doorB, rfl, at_b1, by decide, p1', p8, .inr p1', by omega, if_pos rfl, named_door, .inr ⟨ts, t :: rest, ns, eb, ok, (fun t' r' e => by cases e; exact ⟨od, bad⟩), (fun e => nomatch e)⟩⟩
    have lns : ns.length = ts.length := by
      have := congrArg List.length okd.names
      simpa using this.symm
    have d12 := okd.few
    refine ⟨v2, 12, tp, tp, fD, b, ps, ps, doorB, rfl, at_b1, by decide, p1', p8, .inr p1', by omega, if_pos rfl, named_door, .inr ⟨ts, [], ns, by rw [List.append_nil]; exact eb, okd, (fun _ _ e => nomatch e), fun _ H2 td vd s2 e2 pd => ⟨_, rfl, o, C, dx, _, rfl, s2 _ _ o1, T.cl, T.n2, by show 1 < 1000; decide, ?_⟩⟩⟩
    have o2 : upd H2 o (.ins C dx [("parts", .ref tp), ("doors", .ref td)]) o = some (.ins C dx [("parts", .ref tp), ("doors", .ref td)]) := upd_same
    have b2 : But o H (upd H2 o (.ins C dx [("parts", .ref tp), ("doors", .ref td)])) := but_upd (but_same b1 s2)
    have p2 : upd H2 o (.ins C dx [("parts", .ref tp), ("doors", .ref td)]) tp = some (.tup (ps.map V.str)) := keep_upd (s2 _ _ o1) (s2 _ _ p1')
    have d2 : upd H2 o (.ins C dx [("parts", .ref tp), ("doors", .ref td)]) td = some (.tup vd) := keep_upd (s2 _ _ o1) e2
    have pd2 : Paired (TupAt (upd H2 o (.ins C dx [("parts", .ref tp), ("doors", .ref td)]))) vd ts := paired_mono (fun _ _ ⟨c, xs, e, e', ec⟩ => ⟨c, xs, e, e', keep_upd (s2 _ _ o1) ec⟩) pd
    show Ends.nx _ _ (upd H2 o (.ins C dx [("parts", .ref tp), ("doors", .ref td)]))
    revert o2 b2 p2 d2 pd2
    generalize upd H2 o (.ins C dx [("parts", .ref tp), ("doors", .ref td)]) = G2
    intro o2 b2 p2 d2 pd2
    have lvd := paired_len pd
    refine ⟨_, rfl, o, C, dx, _, _, rfl, o2, T.cl, T.n1, rfl, tp, _, rfl, .inl (SqT.of p2), ?_⟩
    unfold StX.tStar
    refine comp_ix (td := td) (i := 5) (j := 0) (fun R r => ⟨_, rfl, o, C, dx, _, _, rfl, o2, T.cl, T.n2, rfl, r⟩) d2 (by omega) (names_ix pd2 okd.names) (by intro; rfl) (by intro; rfl) fun H3 D s3 nD eD => ?_
    refine ⟨D, _, rfl, .inr (SqL.of eD), ?_⟩
    have line : (100 : Nat) ≤ sizeLine := by decide
    refine ⟨by simp; omega, fun l nl => ?_⟩
    have s4 := same_upd (o := .lst (ps.map V.str ++ (ns.map V.str ++ []))) nl
    have s34 := s3.trans s4
    have at_l : upd H3 l (.lst (ps.map V.str ++ (ns.map V.str ++ []))) l = some (.lst ((ps ++ ns).map V.str)) := by
      rw [upd_same, List.map_append, List.append_nil]
    have o3 := s34 _ _ o2
    have b3 := but_same b2 s34
    have p3 := s34 _ _ p2
    have d3 := s34 _ _ d2
    have pd3 : Paired (TupAt (upd H3 l (.lst (ps.map V.str ++ (ns.map V.str ++ []))))) vd ts := paired_mono (fun _ _ ⟨c, xs, e, e', ec⟩ => ⟨c, xs, e, e', s34 _ _ ec⟩) pd2
    show Ends.nx _ _ (upd H3 l (.lst (ps.map V.str ++ (ns.map V.str ++ []))))
    revert o3 b3 p3 d3 at_l pd3
    generalize upd H3 l (.lst (ps.map V.str ++ (ns.map V.str ++ []))) = G3
    intro at_l o3 b3 p3 d3 pd3
    refine ⟨_, rfl, _, rfl, o, C, dx, _, _, rfl, o3, T.cl, T.n1, rfl, _, rfl, ?_⟩
    have at_c3 := at_c.but b3 ho
    have l40 : (ps ++ ns).length ≤ 40 := by rw [List.length_append]; omega
    rcases evC with ⟨i, tb, bad⟩ | ⟨us, ms, ⟨ec, okc⟩, h, good, rfl, rfl, rfl, k⟩
    · have bad := bad.at b3 o3
      rcases tb with ⟨z, rfl⟩ | ⟨us, t, rest, ms, ec, ok, od, rfl⟩
      · exact ⟨v3, 8, tp, l, fC, c, ps, ps ++ ns, cellB, rfl, at_c3, by decide, p3, p8, .inl at_l, l40, if_pos rfl, named_cell, .inl ⟨z, bad⟩⟩
      · exact ⟨v3, 8, tp, l, fC, c, ps, ps ++ ns, cellB, rfl, at_c3, by decide, p3, p8, .inl at_l, l40, if_pos rfl, named_cell, .inr ⟨us, t :: rest, ms, ec, ok, (fun t' r' e => by cases e; exact ⟨od, bad⟩), (fun e => nomatch e)⟩⟩
    refine ⟨v3, 8, tp, l, fC, c, h.parts, h.parts ++ ns, cellB, rfl, at_c3, by decide, p3, p8, .inl at_l, l40, if_pos rfl, named_cell, .inr ⟨h.cells.map cT, [], ms, by rw [List.append_nil]; exact ec, okc, (fun _ _ e => nomatch e), fun _ H4 tc vc s5 e4 pc => ⟨_, rfl, o, C, dx, _, rfl, s5 _ _ o3, T.cl, T.n3, by show 2 < 1000; decide, ?_⟩⟩⟩
    have ld := lvd
    rw [List.length_map] at ld
    have lc := paired_len pc
    rw [List.length_map] at lc
    have d5 := good.d12
    have c3 := good.c8
    have bH4 : But o H H4 := but_same b3 s5
    have pd4 : Paired (fun v d => ∃ t, v = V.ref t ∧ H4 t = some (.tup (dvs d))) vd h.doors := paired_unmap dT (paired_mono (fun v t ⟨c, xs, e, e', ec⟩ d ed => by
      rw [ed] at e'
      injection e' with e'
      exact ⟨c, e, by rw [s5 _ _ ec, e']⟩) pd3)
    have pc4 : Paired (fun v d => ∃ t, v = V.ref t ∧ H4 t = some (.tup (cvs d))) vc h.cells := paired_unmap cT (paired_mono (fun v t ⟨c, xs, e, e', ec⟩ d ed => by
      rw [ed] at e'
      injection e' with e'
      exact ⟨c, e, by rw [ec, e']⟩) pc)
    have not : ∀ {x : Addr} {xs : List V}, H4 x = some (.tup xs) → x ≠ o := fun e => ne_of e (s5 _ _ o3) (fun z => by cases z)
    have pdx : ∀ {G : Hp}, But o H4 G → Paired (fun v d => ∃ t, v = V.ref t ∧ G t = some (.tup (dvs d))) vd h.doors := fun {G} b => paired_mono (fun v d x => by
      obtain ⟨t, rfl, et⟩ := x
      exact ⟨t, rfl, b _ _ (not et) et⟩) pd4
    have pcx : ∀ {G : Hp}, But o H4 G → Paired (fun v d => ∃ t, v = V.ref t ∧ G t = some (.tup (cvs d))) vc h.cells := fun {G} b => paired_mono (fun v d x => by
      obtain ⟨t, rfl, et⟩ := x
      exact ⟨t, rfl, b _ _ (not et) et⟩) pc4
    have dix : ∀ {G : Hp} (j : Int) (g : Door → V), (∀ d, atI (dvs d) j = some (g d)) → But o H4 G → Paired (fun v y => ∃ t xs, v = V.ref t ∧ G t = some (.tup xs) ∧ atI xs j = some y) vd (h.doors.map g) := fun {G} j g hg b =>
      paired_map g (paired_mono (fun v d x => by
        obtain ⟨t, rfl, et⟩ := x
        exact ⟨t, _, rfl, et, hg d⟩) (pdx b))
    have cix : ∀ {G : Hp} (j : Int) (g : Cell → V), (∀ d, atI (cvs d) j = some (g d)) → But o H4 G → Paired (fun v y => ∃ t xs, v = V.ref t ∧ G t = some (.tup xs) ∧ atI xs j = some y) vc (h.cells.map g) := fun {G} j g hg b =>
      paired_map g (paired_mono (fun v d x => by
        obtain ⟨t, rfl, et⟩ := x
        exact ⟨t, _, rfl, et, hg d⟩) (pcx b))
    have o4 : upd H4 o (.ins C dx [("parts", .ref tp), ("doors", .ref td), ("cells", .ref tc)]) o = some (.ins C dx [("parts", .ref tp), ("doors", .ref td), ("cells", .ref tc)]) := upd_same
    have b4 : But o H4 (upd H4 o (.ins C dx [("parts", .ref tp), ("doors", .ref td), ("cells", .ref tc)])) := but_upd (fun _ _ _ e => e)
    have p4' : upd H4 o (.ins C dx [("parts", .ref tp), ("doors", .ref td), ("cells", .ref tc)]) tp = some (.tup (h.parts.map V.str)) := keep_upd (s5 _ _ o3) (s5 _ _ p3)
    have d4 : upd H4 o (.ins C dx [("parts", .ref tp), ("doors", .ref td), ("cells", .ref tc)]) td = some (.tup vd) := keep_upd (s5 _ _ o3) (s5 _ _ d3)
    have c4 : upd H4 o (.ins C dx [("parts", .ref tp), ("doors", .ref td), ("cells", .ref tc)]) tc = some (.tup vc) := keep_upd (s5 _ _ o3) e4
    show Ends.nx _ _ (upd H4 o (.ins C dx [("parts", .ref tp), ("doors", .ref td), ("cells", .ref tc)]))
    revert o4 b4 p4' d4 c4
    generalize upd H4 o (.ins C dx [("parts", .ref tp), ("doors", .ref td), ("cells", .ref tc)]) = G4
    intro o4 b4 p4' d4 c4
    -- the numbers of the parts
    refine ⟨_, rfl, o, C, dx, _, _, rfl, o4, T.cl, T.n1, rfl, tp, h.parts, rfl, .inr p4', by omega, fun H5 D5 kvs s6 e5 has => ⟨_, rfl, o, C, dx, _, rfl, s6 _ _ o4, T.cl, T.n4, by show 3 < 1000; decide, ?_⟩⟩
    have o5 : upd H5 o (.ins C dx [("parts", .ref tp), ("doors", .ref td), ("cells", .ref tc), ("_part_numbers", .ref D5)]) o = some (.ins C dx [("parts", .ref tp), ("doors", .ref td), ("cells", .ref tc), ("_part_numbers", .ref D5)]) := upd_same
    have b5 : But o H4 (upd H5 o (.ins C dx [("parts", .ref tp), ("doors", .ref td), ("cells", .ref tc), ("_part_numbers", .ref D5)])) := but_upd (but_same b4 s6)
    have p5 : upd H5 o (.ins C dx [("parts", .ref tp), ("doors", .ref td), ("cells", .ref tc), ("_part_numbers", .ref D5)]) tp = some (.tup (h.parts.map V.str)) := keep_upd (s6 _ _ o4) (s6 _ _ p4')
    have d5' : upd H5 o (.ins C dx [("parts", .ref tp), ("doors", .ref td), ("cells", .ref tc), ("_part_numbers", .ref D5)]) td = some (.tup vd) := keep_upd (s6 _ _ o4) (s6 _ _ d4)
    have c5 : upd H5 o (.ins C dx [("parts", .ref tp), ("doors", .ref td), ("cells", .ref tc), ("_part_numbers", .ref D5)]) tc = some (.tup vc) := keep_upd (s6 _ _ o4) (s6 _ _ c4)
    have n5 : upd H5 o (.ins C dx [("parts", .ref tp), ("doors", .ref td), ("cells", .ref tc), ("_part_numbers", .ref D5)]) D5 = some (.dK kvs) := keep_dK (s6 _ _ o4) e5
    show Ends.nx _ _ (upd H5 o (.ins C dx [("parts", .ref tp), ("doors", .ref td), ("cells", .ref tc), ("_part_numbers", .ref D5)]))
    revert o5 b5 p5 d5' c5 n5
    generalize upd H5 o (.ins C dx [("parts", .ref tp), ("doors", .ref td), ("cells", .ref tc), ("_part_numbers", .ref D5)]) = G5
    intro o5 b5 p5 d5' c5 n5
    dsimp only
    refine seq_fld (call_one ?_)
    refine comp_ix (td := td) (i := 5) (j := 0) (fun R r => ⟨_, rfl, o, C, dx, _, _, rfl, o5, T.cl, T.n2, rfl, r⟩) d5' (by omega) (dix 0 (fun d => .str d.n) (fun d => rfl) b5) (by intro; rfl) (by intro; rfl) fun A5 D5a sa5 nD5 eD5 => ?_
    refine ⟨D5a, h.doors.map (·.n), rfl, .inl (by rw [List.map_map]; exact eD5), by rw [List.length_map]; omega, fun B5 D5b kvs5 sb5 eb5 _ => ⟨_, rfl, o, C, dx, _, rfl, (sa5.trans sb5) _ _ o5, T.cl, T.n5, by show 4 < 1000; decide, ?_⟩⟩
    have sc5 := sa5.trans sb5
    have o6 : upd B5 o (.ins C dx [("parts", .ref tp), ("doors", .ref td), ("cells", .ref tc), ("_part_numbers", .ref D5), ("_door_numbers", .ref D5b)]) o = some (.ins C dx [("parts", .ref tp), ("doors", .ref td), ("cells", .ref tc), ("_part_numbers", .ref D5), ("_door_numbers", .ref D5b)]) := upd_same
    have b6 : But o H4 (upd B5 o (.ins C dx [("parts", .ref tp), ("doors", .ref td), ("cells", .ref tc), ("_part_numbers", .ref D5), ("_door_numbers", .ref D5b)])) := but_upd (but_same b5 sc5)
    have p6 : upd B5 o (.ins C dx [("parts", .ref tp), ("doors", .ref td), ("cells", .ref tc), ("_part_numbers", .ref D5), ("_door_numbers", .ref D5b)]) tp = some (.tup (h.parts.map V.str)) := keep_upd (sc5 _ _ o5) (sc5 _ _ p5)
    have d6' : upd B5 o (.ins C dx [("parts", .ref tp), ("doors", .ref td), ("cells", .ref tc), ("_part_numbers", .ref D5), ("_door_numbers", .ref D5b)]) td = some (.tup vd) := keep_upd (sc5 _ _ o5) (sc5 _ _ d5')
    have c6 : upd B5 o (.ins C dx [("parts", .ref tp), ("doors", .ref td), ("cells", .ref tc), ("_part_numbers", .ref D5), ("_door_numbers", .ref D5b)]) tc = some (.tup vc) := keep_upd (sc5 _ _ o5) (sc5 _ _ c5)
    have n6 : upd B5 o (.ins C dx [("parts", .ref tp), ("doors", .ref td), ("cells", .ref tc), ("_part_numbers", .ref D5), ("_door_numbers", .ref D5b)]) D5 = some (.dK kvs) := keep_dK (sc5 _ _ o5) (sc5 _ _ n5)
    show tSeq _ _ _ _ (upd B5 o (.ins C dx [("parts", .ref tp), ("doors", .ref td), ("cells", .ref tc), ("_part_numbers", .ref D5), ("_door_numbers", .ref D5b)]))
    revert o6 b6 p6 d6' c6 n6
    generalize upd B5 o (.ins C dx [("parts", .ref tp), ("doors", .ref td), ("cells", .ref tc), ("_part_numbers", .ref D5), ("_door_numbers", .ref D5b)]) = G6
    intro o6 b6 p6 d6' c6 n6
    refine seq_fld (call_one ?_)
    refine comp_ix (td := tc) (i := 6) (j := 0) (fun R r => ⟨_, rfl, o, C, dx, _, _, rfl, o6, T.cl, T.n3, rfl, r⟩) c6 (by omega) (cix 0 (fun d => .str d.n) (fun d => rfl) b6) (by intro; rfl) (by intro; rfl) fun A6 D6a sa6 nD6 eD6 => ?_
    refine ⟨D6a, h.cells.map (·.n), rfl, .inl (by rw [List.map_map]; exact eD6), by rw [List.length_map]; omega, fun B6 D6b kvs6 sb6 eb6 _ => ⟨_, rfl, o, C, dx, _, rfl, (sa6.trans sb6) _ _ o6, T.cl, T.n6, by show 5 < 1000; decide, ?_⟩⟩
    have sc6 := sa6.trans sb6
    have o7 : upd B6 o (.ins C dx [("parts", .ref tp), ("doors", .ref td), ("cells", .ref tc), ("_part_numbers", .ref D5), ("_door_numbers", .ref D5b), ("_cell_numbers", .ref D6b)]) o = some (.ins C dx [("parts", .ref tp), ("doors", .ref td), ("cells", .ref tc), ("_part_numbers", .ref D5), ("_door_numbers", .ref D5b), ("_cell_numbers", .ref D6b)]) := upd_same
    have b7 : But o H4 (upd B6 o (.ins C dx [("parts", .ref tp), ("doors", .ref td), ("cells", .ref tc), ("_part_numbers", .ref D5), ("_door_numbers", .ref D5b), ("_cell_numbers", .ref D6b)])) := but_upd (but_same b6 sc6)
    have p7 : upd B6 o (.ins C dx [("parts", .ref tp), ("doors", .ref td), ("cells", .ref tc), ("_part_numbers", .ref D5), ("_door_numbers", .ref D5b), ("_cell_numbers", .ref D6b)]) tp = some (.tup (h.parts.map V.str)) := keep_upd (sc6 _ _ o6) (sc6 _ _ p6)
    have d7' : upd B6 o (.ins C dx [("parts", .ref tp), ("doors", .ref td), ("cells", .ref tc), ("_part_numbers", .ref D5), ("_door_numbers", .ref D5b), ("_cell_numbers", .ref D6b)]) td = some (.tup vd) := keep_upd (sc6 _ _ o6) (sc6 _ _ d6')
    have c7 : upd B6 o (.ins C dx [("parts", .ref tp), ("doors", .ref td), ("cells", .ref tc), ("_part_numbers", .ref D5), ("_door_numbers", .ref D5b), ("_cell_numbers", .ref D6b)]) tc = some (.tup vc) := keep_upd (sc6 _ _ o6) (sc6 _ _ c6)
    have n7 : upd B6 o (.ins C dx [("parts", .ref tp), ("doors", .ref td), ("cells", .ref tc), ("_part_numbers", .ref D5), ("_door_numbers", .ref D5b), ("_cell_numbers", .ref D6b)]) D5 = some (.dK kvs) := keep_dK (sc6 _ _ o6) (sc6 _ _ n6)
    show tSeq _ _ _ _ (upd B6 o (.ins C dx [("parts", .ref tp), ("doors", .ref td), ("cells", .ref tc), ("_part_numbers", .ref D5), ("_door_numbers", .ref D5b), ("_cell_numbers", .ref D6b)]))
    revert o7 b7 p7 d7' c7 n7
    generalize upd B6 o (.ins C dx [("parts", .ref tp), ("doors", .ref td), ("cells", .ref tc), ("_part_numbers", .ref D5), ("_door_numbers", .ref D5b), ("_cell_numbers", .ref D6b)]) = G7
    intro o7 b7 p7 d7' c7 n7
    refine seq_fld (cb_one ?_)
    have hasE : ∀ x, EndIn h.parts x → x = "out" ∨ ∃ v, valV kvs (.inr x) = some v := fun x hx => hx.imp id (fun hx => has x hx)
    refine ⟨_, rfl, o, C, dx, _, _, rfl, o7, T.cl, T.n2, rfl, td, rfl, ⟨_, SqT.of d7'⟩, fun D8 nD8 => ?_⟩
    refine lc_tup (xs := vd) (fun n H' => Same G7 H' ∧ ∃ acc, H' D8 = some (.lst acc) ∧ acc.length ≤ n) ⟨same_upd nD8, [], upd_same, Nat.le_refl _⟩ (fun n H' _ z => SqT.of (z.1 _ _ d7')) ?_ ?_
    · rintro n x H8 hx ⟨s8, acc, at_D, la⟩
      obtain ⟨d, hd, t, rfl, et⟩ := paired_get (pdx b7) hx
      have hn : n < vd.length := (List.getElem?_eq_some_iff.mp hx).1
      obtain ⟨g1, g2, _⟩ := good.ends d (List.mem_of_getElem? hd)
      refine ⟨rfl, kept ⟨_, rfl, o, dx, _, rfl, s8 _ _ o7, rfl, _, rfl, t, _, _, V.str d.one, rfl, rfl, SqT.of (s8 _ _ et), atI_nat (j := 1) rfl, ?_⟩⟩
      refine ⟨o, D5, dx, d.one, kvs, _, rfl, s8 _ _ o7, rfl, s8 _ _ n7, hasE _ g1, fun e1 => ?_⟩
      refine ⟨_, rfl, o, dx, _, rfl, s8 _ _ o7, rfl, _, rfl, t, _, _, V.str d.two, rfl, rfl, SqT.of (s8 _ _ et), atI_nat (j := 2) rfl, ?_⟩
      refine ⟨o, D5, dx, d.two, kvs, _, rfl, s8 _ _ o7, rfl, s8 _ _ n7, hasE _ g2, fun e2 => ⟨by show 2 ≤ sizeLine; decide, fun u nu => ?_⟩⟩
      have s9 := same_upd (o := .tup [e1, e2]) nu
      refine ⟨acc, s9 _ _ at_D, by omega, fun b x e => ?_, _, upd_same, by rw [List.length_append]; show acc.length + 1 ≤ _; omega⟩
      rw [upd_ne (ne_of_none e nD8)]
      exact s9 _ _ (s8 _ _ e)
    rintro H8 ⟨s8, acc, at_D, la⟩
    refine ⟨D8, _, rfl, .inl ⟨SqL.of at_D, fun u8 nu8 => ⟨_, rfl, o, C, dx, _, rfl, (s8.trans (same_upd nu8)) _ _ o7, T.cl, T.n7, by show 6 < 1000; decide, ?_⟩⟩⟩
    have sc8 := s8.trans (same_upd (o := .tup acc) nu8)
    have o8 : upd (upd H8 u8 (.tup acc)) o (.ins C dx [("parts", .ref tp), ("doors", .ref td), ("cells", .ref tc), ("_part_numbers", .ref D5), ("_door_numbers", .ref D5b), ("_cell_numbers", .ref D6b), ("ends", .ref u8)]) o = some (.ins C dx [("parts", .ref tp), ("doors", .ref td), ("cells", .ref tc), ("_part_numbers", .ref D5), ("_door_numbers", .ref D5b), ("_cell_numbers", .ref D6b), ("ends", .ref u8)]) := upd_same
    have b8 : But o H4 (upd (upd H8 u8 (.tup acc)) o (.ins C dx [("parts", .ref tp), ("doors", .ref td), ("cells", .ref tc), ("_part_numbers", .ref D5), ("_door_numbers", .ref D5b), ("_cell_numbers", .ref D6b), ("ends", .ref u8)])) := but_upd (but_same b7 sc8)
    have p8 : upd (upd H8 u8 (.tup acc)) o (.ins C dx [("parts", .ref tp), ("doors", .ref td), ("cells", .ref tc), ("_part_numbers", .ref D5), ("_door_numbers", .ref D5b), ("_cell_numbers", .ref D6b), ("ends", .ref u8)]) tp = some (.tup (h.parts.map V.str)) := keep_upd (sc8 _ _ o7) (sc8 _ _ p7)
    have d8' : upd (upd H8 u8 (.tup acc)) o (.ins C dx [("parts", .ref tp), ("doors", .ref td), ("cells", .ref tc), ("_part_numbers", .ref D5), ("_door_numbers", .ref D5b), ("_cell_numbers", .ref D6b), ("ends", .ref u8)]) td = some (.tup vd) := keep_upd (sc8 _ _ o7) (sc8 _ _ d7')
    have c8 : upd (upd H8 u8 (.tup acc)) o (.ins C dx [("parts", .ref tp), ("doors", .ref td), ("cells", .ref tc), ("_part_numbers", .ref D5), ("_door_numbers", .ref D5b), ("_cell_numbers", .ref D6b), ("ends", .ref u8)]) tc = some (.tup vc) := keep_upd (sc8 _ _ o7) (sc8 _ _ c7)
    have n8 : upd (upd H8 u8 (.tup acc)) o (.ins C dx [("parts", .ref tp), ("doors", .ref td), ("cells", .ref tc), ("_part_numbers", .ref D5), ("_door_numbers", .ref D5b), ("_cell_numbers", .ref D6b), ("ends", .ref u8)]) D5 = some (.dK kvs) := keep_dK (sc8 _ _ o7) (sc8 _ _ n7)
    show tSeq _ _ _ _ (upd (upd H8 u8 (.tup acc)) o (.ins C dx [("parts", .ref tp), ("doors", .ref td), ("cells", .ref tc), ("_part_numbers", .ref D5), ("_door_numbers", .ref D5b), ("_cell_numbers", .ref D6b), ("ends", .ref u8)]))
    revert o8 b8 p8 d8' c8 n8
    generalize upd (upd H8 u8 (.tup acc)) o (.ins C dx [("parts", .ref tp), ("doors", .ref td), ("cells", .ref tc), ("_part_numbers", .ref D5), ("_door_numbers", .ref D5b), ("_cell_numbers", .ref D6b), ("ends", .ref u8)]) = G8
    intro o8 b8 p8 d8' c8 n8
    refine seq_fld (cb_one ?_)
    refine ⟨_, rfl, o, C, dx, _, _, rfl, o8, T.cl, T.n3, rfl, tc, rfl, ⟨_, SqT.of c8⟩, fun D9 nD9 => ?_⟩
    refine lc_tup (xs := vc) (fun n H' => Same G8 H' ∧ ∃ acc, H' D9 = some (.lst acc) ∧ acc.length ≤ n) ⟨same_upd nD9, [], upd_same, Nat.le_refl _⟩ (fun n H' _ z => SqT.of (z.1 _ _ c8)) ?_ ?_
    · rintro n x H9 hx ⟨s9, acc, at_D, la⟩
      obtain ⟨d, hd, t, rfl, et⟩ := paired_get (pcx b8) hx
      have hn : n < vc.length := (List.getElem?_eq_some_iff.mp hx).1
      refine ⟨rfl, kept ⟨_, rfl, o, dx, _, rfl, s9 _ _ o8, rfl, _, rfl, t, _, _, V.str d.p, rfl, rfl, SqT.of (s9 _ _ et), atI_nat (j := 1) rfl, ?_⟩⟩
      refine ⟨o, D5, dx, d.p, kvs, _, rfl, s9 _ _ o8, rfl, s9 _ _ n8, hasE _ (.inr (good.cin d (List.mem_of_getElem? hd))), fun e1 => ?_⟩
      refine ⟨acc, at_D, by omega, fun b x e => ?_, _, upd_same, by rw [List.length_append]; show acc.length + 1 ≤ _; omega⟩
      rw [upd_ne (ne_of_none e nD9)]
      exact s9 _ _ e
    rintro H9 ⟨s9, acc9, at_D9, la9⟩
    refine ⟨D9, _, rfl, .inl ⟨SqL.of at_D9, fun u9 nu9 => ⟨_, rfl, o, C, dx, _, rfl, (s9.trans (same_upd nu9)) _ _ o8, T.cl, T.n8, by show 7 < 1000; decide, ?_⟩⟩⟩
    have sc9 := s9.trans (same_upd (o := .tup acc9) nu9)
    have o9 : upd (upd H9 u9 (.tup acc9)) o (.ins C dx [("parts", .ref tp), ("doors", .ref td), ("cells", .ref tc), ("_part_numbers", .ref D5), ("_door_numbers", .ref D5b), ("_cell_numbers", .ref D6b), ("ends", .ref u8), ("cell_parts", .ref u9)]) o = some (.ins C dx [("parts", .ref tp), ("doors", .ref td), ("cells", .ref tc), ("_part_numbers", .ref D5), ("_door_numbers", .ref D5b), ("_cell_numbers", .ref D6b), ("ends", .ref u8), ("cell_parts", .ref u9)]) := upd_same
    have b9 : But o H4 (upd (upd H9 u9 (.tup acc9)) o (.ins C dx [("parts", .ref tp), ("doors", .ref td), ("cells", .ref tc), ("_part_numbers", .ref D5), ("_door_numbers", .ref D5b), ("_cell_numbers", .ref D6b), ("ends", .ref u8), ("cell_parts", .ref u9)])) := but_upd (but_same b8 sc9)
    have p9 : upd (upd H9 u9 (.tup acc9)) o (.ins C dx [("parts", .ref tp), ("doors", .ref td), ("cells", .ref tc), ("_part_numbers", .ref D5), ("_door_numbers", .ref D5b), ("_cell_numbers", .ref D6b), ("ends", .ref u8), ("cell_parts", .ref u9)]) tp = some (.tup (h.parts.map V.str)) := keep_upd (sc9 _ _ o8) (sc9 _ _ p8)
    have d9' : upd (upd H9 u9 (.tup acc9)) o (.ins C dx [("parts", .ref tp), ("doors", .ref td), ("cells", .ref tc), ("_part_numbers", .ref D5), ("_door_numbers", .ref D5b), ("_cell_numbers", .ref D6b), ("ends", .ref u8), ("cell_parts", .ref u9)]) td = some (.tup vd) := keep_upd (sc9 _ _ o8) (sc9 _ _ d8')
    have c9 : upd (upd H9 u9 (.tup acc9)) o (.ins C dx [("parts", .ref tp), ("doors", .ref td), ("cells", .ref tc), ("_part_numbers", .ref D5), ("_door_numbers", .ref D5b), ("_cell_numbers", .ref D6b), ("ends", .ref u8), ("cell_parts", .ref u9)]) tc = some (.tup vc) := keep_upd (sc9 _ _ o8) (sc9 _ _ c8)
    have n9 : upd (upd H9 u9 (.tup acc9)) o (.ins C dx [("parts", .ref tp), ("doors", .ref td), ("cells", .ref tc), ("_part_numbers", .ref D5), ("_door_numbers", .ref D5b), ("_cell_numbers", .ref D6b), ("ends", .ref u8), ("cell_parts", .ref u9)]) D5 = some (.dK kvs) := keep_dK (sc9 _ _ o8) (sc9 _ _ n8)
    show sFld _ _ _ _ _ _ (upd (upd H9 u9 (.tup acc9)) o (.ins C dx [("parts", .ref tp), ("doors", .ref td), ("cells", .ref tc), ("_part_numbers", .ref D5), ("_door_numbers", .ref D5b), ("_cell_numbers", .ref D6b), ("ends", .ref u8), ("cell_parts", .ref u9)]))
    revert o9 b9 p9 d9' c9 n9
    generalize upd (upd H9 u9 (.tup acc9)) o (.ins C dx [("parts", .ref tp), ("doors", .ref td), ("cells", .ref tc), ("_part_numbers", .ref D5), ("_door_numbers", .ref D5b), ("_cell_numbers", .ref D6b), ("ends", .ref u8), ("cell_parts", .ref u9)]) = G9
    intro o9 b9 p9 d9' c9 n9
    refine one_fld (cb_one ?_)
    refine comp_ix (td := tc) (i := 6) (j := 2) (fun R r => ⟨_, rfl, o, C, dx, _, _, rfl, o9, T.cl, T.n3, rfl, r⟩) c9 (by omega) (cix 2 (fun d => .bl d.k) (fun d => rfl) b9) (by intro; rfl) (by intro; rfl) fun A9 D9a sa9 nD9 eD9 => ?_
    refine ⟨D9a, _, rfl, .inl ⟨SqL.of eD9, fun u nu => ⟨_, rfl, o, C, dx, _, rfl, (sa9.trans (same_upd nu)) _ _ o9, T.cl, T.n9, by show 8 < 1000; decide, ?_⟩⟩⟩
    have sc9 := sa9.trans (same_upd (o := .tup (h.cells.map fun d => V.bl d.k)) nu)
    refine k _ (But.trans bH4 (but_upd (but_same b9 sc9))) ⟨dx, [("parts", .ref tp), ("doors", .ref td), ("cells", .ref tc), ("_part_numbers", .ref D5), ("_door_numbers", .ref D5b), ("_cell_numbers", .ref D6b), ("ends", .ref u8), ("cell_parts", .ref u9), ("kept", .ref u)], tp, td, tc, vd, vc, upd_same, rfl, rfl, rfl, rfl, keep_upd (sc9 _ _ o9) (sc9 _ _ p9), keep_upd (sc9 _ _ o9) (sc9 _ _ d9'), ?_, keep_upd (sc9 _ _ o9) (sc9 _ _ c9), ?_⟩
    · exact pdx (but_upd (but_same b9 sc9))
    · exact pcx (but_upd (but_same b9 sc9))
end
end K02

namespace K02
open PySem PySem.Spec PyProof.Rows L2
open Cal EnuT Sqx Exn Keys

def partRow (n : Str) : Str := "part " ++ n
def doorRow (d : Door) : Str := Txt.join " " ["door", d.n, d.one, d.two, if d.op = true then "open" else "shut"]
def cellRow (c : Cell) : Str := Txt.join " " ([("cell" : Str), c.n, c.p] ++ if c.k = true then [("kept" : Str)] else [])
def rowsOf (h : Hs) : List Str := h.parts.map partRow ++ (h.doors.map doorRow ++ h.cells.map cellRow)
def textOf (h : Hs) : Str := Txt.join "\n" (rowsOf h)
theorem sum_le (xs : List Nat) (n : Nat) (h : ∀ x, x ∈ xs → x ≤ n) : xs.sum ≤ xs.length * n := by
  induction xs with
  | nil => simp
  | cons x xs ih =>
    have := ih fun y hy => h y (List.mem_cons_of_mem _ hy)
    have := h x (List.mem_cons_self ..)
    simp [Nat.add_mul]
    omega
theorem join_lenS (a : Str) : ∀ (xs : List Str), (Str.join a xs).length ≤ (xs.map fun x => x.length).sum + xs.length * a.length
  | [] => Nat.zero_le _
  | [x] => by
    have h : Str.join a [x] = x := rfl
    rw [h]
    simp
  | x :: y :: r => by
    have ih := join_lenS a (y :: r)
    have h : (Str.join a (x :: y :: r)).length = x.length + (a.length + (Str.join a (y :: r)).length) := by
      rw [Tx.len_L, Tx.len_L x, Tx.len_L a, Tx.len_L (Str.join a (y :: r)), Tx.L_join]
      simp
    rw [h]
    simp only [List.map_cons, List.sum_cons, List.length_cons] at ih ⊢
    have : (r.length + 1 + 1) * a.length = a.length + (r.length + 1) * a.length := by rw [Nat.add_mul (r.length + 1) 1]; omega
    omega
theorem join_len (a : Str) (xs : List Str) : (Txt.join a xs).length ≤ (xs.map fun x => x.length).sum + xs.length * a.length := by
  rw [show Txt.join a xs = Str.join a xs from StrLaws.glued_eq_join _ _]
  exact join_lenS a xs
theorem name_len {s : Str} (h : nameOk s = true) : s.length ≤ 8 := by
  unfold nameOk at h
  simp only [Bool.and_eq_true, decide_eq_true_eq] at h
  exact h.1.1.2
theorem end_len {h : Hs} (g : GoodH h) {x : Str} (e : EndIn h.parts x) : x.length ≤ 8 := by
  rcases e with rfl | e
  · decide
  · exact name_len (g.name x (List.mem_append_left _ e))
theorem row_len {h : Hs} (g : GoodH h) : ∀ r, r ∈ rowsOf h → r.length ≤ 60 := by
  intro r hr
  rcases List.mem_append.mp hr with z | z
  · obtain ⟨n, hn, rfl⟩ := List.mem_map.mp z
    have := name_len (g.name n (List.mem_append_left _ hn))
    have e : (partRow n).length = 5 + n.length := by
      show (("part " ++ n : Str)).length = _
      rw [Tx.len_L, Tx.L_append, List.length_append, Tx.len_L n]
      rfl
    omega
  · rcases List.mem_append.mp z with z | z
    · obtain ⟨d, hd, rfl⟩ := List.mem_map.mp z
      have n1 := name_len (g.name d.n (List.mem_append_right _ (List.mem_append_left _ (List.mem_map.mpr ⟨d, hd, rfl⟩))))
      obtain ⟨e1, e2, _⟩ := g.ends d hd
      have l1 := end_len g e1
      have l2 := end_len g e2
      have l3 : (if d.op = true then ("open" : Str) else "shut").length = 4 := by cases d.op <;> rfl
      have h := join_len " " ["door", d.n, d.one, d.two, if d.op = true then "open" else "shut"]
      simp only [List.map_cons, List.map_nil, List.sum_cons, List.sum_nil, List.length_cons, List.length_nil] at h
      have e4 : ("door" : Str).length = 4 := rfl
      have e1 : (" " : Str).length = 1 := rfl
      show (Txt.join " " _).length ≤ 60
      rw [l3, e4, e1] at h
      omega
    · obtain ⟨d, hd, rfl⟩ := List.mem_map.mp z
      have n1 := name_len (g.name d.n (List.mem_append_right _ (List.mem_append_right _ (List.mem_map.mpr ⟨d, hd, rfl⟩))))
      have l1 := name_len (g.name d.p (List.mem_append_left _ (g.cin d hd)))
      have h := join_len " " ([("cell" : Str), d.n, d.p] ++ if d.k = true then [("kept" : Str)] else [])
      have e4 : ("cell" : Str).length = 4 := rfl
      have e5 : ("kept" : Str).length = 4 := rfl
      have e1 : (" " : Str).length = 1 := rfl
      show (Txt.join " " _).length ≤ 60
      cases ek : d.k with
      | true =>
        rw [ek, if_pos rfl] at h
        rw [if_pos rfl]
        simp only [List.cons_append, List.nil_append, List.map_cons, List.map_nil, List.sum_cons, List.sum_nil, List.length_cons, List.length_nil, e4, e5, e1] at h
        simp only [List.cons_append, List.nil_append]
        omega
      | false =>
        rw [ek, if_neg (by decide)] at h
        rw [if_neg (by decide)]
        simp only [List.append_nil, List.map_cons, List.map_nil, List.sum_cons, List.sum_nil, List.length_cons, List.length_nil, e4, e1] at h
        simp only [List.append_nil]
        omega
theorem rows_len {h : Hs} (g : GoodH h) : (rowsOf h).length ≤ 28 := by
  have := g.p8
  have := g.d12
  have := g.c8
  unfold rowsOf
  rw [List.length_append, List.length_append, List.length_map, List.length_map, List.length_map]
  omega
theorem HouseIns.same {H H' : Hp} {C o : Addr} {h : Hs} (s : Same H H') (x : HouseIns H C o h) : HouseIns H' C o h := by
  obtain ⟨dx, fs, tp, td, tc, vd, vc, h1, l1, l2, l3, l4, h2, h3, p1, h4, p2⟩ := x
  exact ⟨dx, fs, tp, td, tc, vd, vc, s _ _ h1, l1, l2, l3, l4, s _ _ h2, s _ _ h3, paired_mono (fun _ _ r => r.mono fun _ e => s _ _ e) p1, s _ _ h4, paired_mono (fun _ _ r => r.mono fun _ e => s _ _ e) p2⟩
def spText (C : Addr) : Sp := fun vs H Q _ => ∃ (o : Addr) (h : Hs), vs = [.ref o] ∧ HouseIns H C o h ∧ GoodH h ∧ ∀ H', Same H H' → Q (.str (textOf h)) H'
section
variable {P : Program} {w : World} {K : W.Frag} {mg : Str → Option Value} {base : Heap}
abbrev NTx : List Str := ["self", "rows", "name", "one", "other", "is_open", "part", "is_kept"]
theorem scTx : FnScope NTx ["self"] (defScope sText) := ⟨rfl, rfl, rfl, by decide +kernel, rfl, by decide +kernel, by decide +kernel⟩
theorem ok_text {f C : Addr} {fd : FuncData} (F : Fun K "text" "House.text" sText f fd) (T : HC2 K C) : FnOk P w K mg base CX0 1 f fd ["self"] (spText C) := by
  refine F.ok scTx (fun vs H Q E h => ?_) (fun cdv A outer s H vs Q E hr h => ?_)
  · obtain ⟨o, h, rfl, _⟩ := h
    rfl
  · obtain ⟨o, h, rfl, ⟨dx, fs, tp, td, tc, vd, vc, ho, l1, l2, l3, _, hp, hd, pd, hc, pc⟩, g, k⟩ := h
    refine ⟨_, pss_cons (ps_setLc (i := 1) (own := [("name", 2)]) (g := gName 2) (tt := tYes) (by rfl) scTx.nd rfl rfl (sw_true rfl rfl rfl (by decide +kernel)) (pi_tup (pe_fld (pv 0) rfl))
        (blkOk_by (own := [("name", 2)]) (N := NTx) (sc := defScope sText) (by decide +kernel))
        (fun _ _ _ _ _ => pg_name (i := 2) scTx.nd rfl (Or.inl rfl)) (fun _ _ _ _ _ => pts_nil) (fun _ _ _ _ _ => pe_op op_add_str pe_str (pv 2)))
      (pss_cons (ps_for PassesOwn.never rfl (pi_tup (pe_fld (pv 0) rfl)) (pg_tup rfl (pgs_cons (pg_name (i := 2) scTx.nd rfl (Or.inl rfl)) (pgs_cons (pg_name (i := 3) scTx.nd rfl (Or.inl rfl)) (pgs_cons (pg_name (i := 4) scTx.nd rfl (Or.inl rfl)) (pgs_cons (pg_name (i := 5) scTx.nd rfl (Or.inl rfl)) pgs_nil)))))
        (pss_one (ps_expr (pe_bm PySem.F.plainAttrs_list PySem.F.slot_list_append PySem.F.type_list_append mt_append (pv 1) (pa_cons (pe_join pe_str (pe_lst (pa_cons pe_str (pa_cons (pv 2) (pa_cons (pv 3) (pa_cons (pv 4) (pa_cons (pe_ifExp (pt_truth (pv 5) (by intro _; rfl)) pe_str pe_str) pa_nil))))))) pa_nil)))))
      (pss_cons (ps_for PassesOwn.never rfl (pi_tup (pe_fld (pv 0) rfl)) (pg_tup rfl (pgs_cons (pg_name (i := 2) scTx.nd rfl (Or.inl rfl)) (pgs_cons (pg_name (i := 6) scTx.nd rfl (Or.inl rfl)) (pgs_cons (pg_name (i := 7) scTx.nd rfl (Or.inl rfl)) pgs_nil))))
        (pss_one (ps_expr (pe_bm PySem.F.plainAttrs_list PySem.F.slot_list_append PySem.F.type_list_append mt_append (pv 1) (pa_cons (pe_join pe_str (pe_op op_cat (pe_lst (pa_cons pe_str (pa_cons (pv 2) (pa_cons (pv 6) pa_nil)))) (pe_ifExp (pt_truth (pv 7) (by intro _; rfl)) (pe_lst (pa_cons pe_str pa_nil)) (pe_lst pa_nil)))) pa_nil)))))
      (pss_one (ps_ret (pe_join pe_str (pv 1)))))), ?_⟩
    have line : (1000 : Nat) ≤ sizeLine := by decide
    have p8 := g.p8
    have d12 := g.d12
    have c8 := g.c8
    refine ⟨_, rfl, o, C, dx, _, _, rfl, ho, T.cl, T.n1, l1, tp, rfl, ⟨_, SqT.of hp⟩, fun D nD => ?_⟩
    refine lc_tup (xs := h.parts.map V.str) (fun i H' => Same H H' ∧ H' D = some (.lst (((h.parts.take i).map partRow).map V.str))) ⟨same_upd nD, upd_same⟩ (fun i H' _ z => SqT.of (z.1 _ _ hp)) ?_ ?_
    · rintro i x H1 hx ⟨s1, at_D⟩
      rw [List.getElem?_map] at hx
      obtain ⟨n, hn, rfl⟩ := Option.map_eq_some_iff.mp hx
      obtain ⟨hi, rfl⟩ := List.getElem?_eq_some_iff.mp hn
      have nl := name_len (g.name _ (List.mem_append_left _ (List.getElem_mem hi)))
      refine ⟨rfl, kept ⟨_, rfl, _, _, rfl, rfl, ?_, _, at_D, ?_, fun b o e => ?_, ?_⟩⟩
      · have : ("part " : Str).length = 5 := rfl
        omega
      · rw [List.length_map, List.length_map, List.length_take]
        omega
      · rw [upd_ne (ne_of_none e nD)]
        exact s1 _ _ e
      · rw [upd_same, List.take_succ_eq_append_getElem hi, List.map_append, List.map_append]
        rfl
    rintro H1 ⟨s1, at_D⟩
    rw [List.length_map, List.take_length] at at_D
    refine ⟨_, rfl, o, C, dx, _, _, rfl, s1 _ _ ho, T.cl, T.n2, l2, td, rfl, ⟨_, SqT.of (s1 _ _ hd)⟩, for_it (walk_tup (xs := vd)) (fun i σ H' => ∃ v2 v3 v4 v5 v6 v7 : Option V, σ = [some (.ref o), some (.ref D), v2, v3, v4, v5, v6, v7] ∧ Same H H' ∧ H' D = some (.lst ((h.parts.map partRow ++ (h.doors.take i).map doorRow).map V.str)))
      ⟨_, _, _, _, _, _, rfl, s1, by rw [List.take_zero, List.map_nil, List.append_nil]; exact at_D⟩ (fun i σ H' _ z => ?_) ?_ ?_⟩
    · obtain ⟨_, _, _, _, _, _, _, s, _⟩ := z
      exact SqT.of (s _ _ hd)
    · rintro i x σ H2' H2 hi ⟨v2, v3, v4, v5, w6, w7, rfl, s2, at_D2⟩ ⟨rfl, hx⟩
      obtain ⟨d, hdi, t, rfl, et⟩ := paired_get pd hx
      obtain ⟨hi', rfl⟩ := List.getElem?_eq_some_iff.mp hdi
      have mem := List.getElem_mem hi'
      have rl := row_len g (doorRow h.doors[i]) (List.mem_append_right _ (List.mem_append_left _ (List.mem_map.mpr ⟨_, mem, rfl⟩)))
      generalize ed : h.doors[i] = d at et mem rl
      have n1 := name_len (g.name d.n (List.mem_append_right _ (List.mem_append_left _ (List.mem_map.mpr ⟨d, mem, rfl⟩))))
      obtain ⟨e1, e2, _⟩ := g.ends d mem
      have l1 := end_len g e1
      have l2 := end_len g e2
      refine ⟨t, _, rfl, SqT.of (s2 _ _ et), rfl, _, _, rfl, _, _, rfl, _, _, rfl, _, _, rfl, rfl, ?_⟩
      refine ⟨_, rfl, .inl ⟨rfl, _, SqL.of at_D2⟩, ⟨_, rfl⟩, _, rfl, _, rfl, _, rfl, _, rfl, d.op, rfl, ?_⟩
      have l4 : ("door" : Str).length = 4 := rfl
      have l5 : ("open" : Str).length = 4 := rfl
      have l6 : ("shut" : Str).length = 4 := rfl
      have l7 : (" " : Str).length = 1 := rfl
      have next : ∀ (bo : Bool) (q : Addr) (xs : List V) (r : Str), H2 q = none → doorRow d = r → ∃ (l : Addr) (ys : List V) (z : V), V.ref D = .ref l ∧ [V.str r] = [z] ∧ upd H2 q (.lst xs) l = some (.lst ys) ∧ ys.length < sizeLine ∧
          ∃ v2 v3 v4 v5 v6 v7 : Option V, [some (V.ref o), some (V.ref D), some (V.str d.n), some (V.str d.one), some (V.str d.two), some (V.bl bo), w6, w7] = [some (.ref o), some (.ref D), v2, v3, v4, v5, v6, v7] ∧ Same H (upd (upd H2 q (.lst xs)) l (.lst (ys ++ [z]))) ∧ upd (upd H2 q (.lst xs)) l (.lst (ys ++ [z])) D = some (.lst ((h.parts.map partRow ++ (h.doors.take (i + 1)).map doorRow).map V.str)) := by
        intro bo q xs r nq er
        have s3 := same_upd (o := .lst xs) nq
        refine ⟨D, _, _, rfl, rfl, s3 _ _ at_D2, ?_, _, _, _, _, _, _, rfl, fun b u e => ?_, ?_⟩
        · rw [List.length_map, List.length_append, List.length_map, List.length_map, List.length_take]
          omega
        · rw [upd_ne (ne_of_none e nD)]
          exact s3 _ _ (s2 _ _ e)
        · rw [upd_same, List.take_succ_eq_append_getElem hi', ed, List.map_append (f := doorRow), ← List.append_assoc]
          show some (HO.lst (_ ++ [V.str r])) = _
          rw [List.map_append (f := V.str) (l₂ := List.map doorRow [d])]
          show _ = some (HO.lst (_ ++ [V.str (doorRow d)]))
          rw [er]
      cases eo : d.op with
      | true =>
        refine iteT ⟨by show 5 ≤ sizeLine; decide, fun q nq => ⟨_, q, ["door", d.n, d.one, d.two, "open"], rfl, rfl, .inl (SqL.of upd_same), ?_, next true q _ _ nq (by unfold doorRow; rw [eo]; rfl)⟩⟩
        simp only [List.map_cons, List.map_nil, List.sum_cons, List.sum_nil, List.length_cons, List.length_nil]
        omega
      | false =>
        refine iteF ⟨by show 5 ≤ sizeLine; decide, fun q nq => ⟨_, q, ["door", d.n, d.one, d.two, "shut"], rfl, rfl, .inl (SqL.of upd_same), ?_, next false q _ _ nq (by unfold doorRow; rw [eo]; rfl)⟩⟩
        simp only [List.map_cons, List.map_nil, List.sum_cons, List.sum_nil, List.length_cons, List.length_nil]
        omega
    · rintro σ H2 ⟨v2, v3, v4, v5, v6, v7, rfl, s2, at_D2⟩
      rw [← paired_len pd |>.symm, List.take_length] at at_D2
      refine ⟨_, rfl, o, C, dx, _, _, rfl, s2 _ _ ho, T.cl, T.n3, l3, tc, rfl, ⟨_, SqT.of (s2 _ _ hc)⟩, for_it (walk_tup (xs := vc)) (fun i σ H' => ∃ v2 v3 v4 v5 v6 v7 : Option V, σ = [some (.ref o), some (.ref D), v2, v3, v4, v5, v6, v7] ∧ Same H H' ∧ H' D = some (.lst ((h.parts.map partRow ++ (h.doors.map doorRow ++ (h.cells.take i).map cellRow)).map V.str)))
        ⟨_, _, _, _, _, _, rfl, s2, by rw [List.take_zero, List.map_nil, List.append_nil]; exact at_D2⟩ (fun i σ H' _ z => ?_) ?_ ?_⟩
      · obtain ⟨_, _, _, _, _, _, _, s, _⟩ := z
        exact SqT.of (s _ _ hc)
      · rintro i x σ H3' H3 hi ⟨v2, w3, w4, w5, v6, v7, rfl, s3, at_D3⟩ ⟨rfl, hx⟩
        obtain ⟨d, hdi, t, rfl, et⟩ := paired_get pc hx
        obtain ⟨hi', rfl⟩ := List.getElem?_eq_some_iff.mp hdi
        have mem := List.getElem_mem hi'
        generalize ed : h.cells[i] = d at et mem
        have n1 := name_len (g.name d.n (List.mem_append_right _ (List.mem_append_right _ (List.mem_map.mpr ⟨d, mem, rfl⟩))))
        have l1 := name_len (g.name d.p (List.mem_append_left _ (g.cin d mem)))
        refine ⟨t, _, rfl, SqT.of (s3 _ _ et), rfl, _, _, rfl, _, _, rfl, _, _, rfl, rfl, ?_⟩
        refine ⟨_, rfl, .inl ⟨rfl, _, SqL.of at_D3⟩, ⟨_, rfl⟩, _, rfl, _, rfl, by show 3 ≤ sizeLine; decide, fun u nu => ⟨_, rfl, d.k, rfl, ?_⟩⟩
        have l4 : ("cell" : Str).length = 4 := rfl
        have l5 : ("kept" : Str).length = 4 := rfl
        have l7 : (" " : Str).length = 1 := rfl
        have next : ∀ (bo : Bool) (H4 : Hp) (r : Str), Same H3 H4 → cellRow d = r → ∃ (l : Addr) (ys : List V) (z : V), V.ref D = .ref l ∧ [V.str r] = [z] ∧ H4 l = some (.lst ys) ∧ ys.length < sizeLine ∧
            ∃ v2 v3 v4 v5 v6 v7 : Option V, [some (V.ref o), some (V.ref D), some (V.str d.n), w3, w4, w5, some (V.str d.p), some (V.bl bo)] = [some (.ref o), some (.ref D), v2, v3, v4, v5, v6, v7] ∧ Same H (upd H4 l (.lst (ys ++ [z]))) ∧ upd H4 l (.lst (ys ++ [z])) D = some (.lst ((h.parts.map partRow ++ (h.doors.map doorRow ++ (h.cells.take (i + 1)).map cellRow)).map V.str)) := by
          intro bo H4 r s4 er
          have c8 := g.c8
          have ld := paired_len pd
          refine ⟨D, _, _, rfl, rfl, s4 _ _ at_D3, ?_, _, _, _, _, _, _, rfl, fun b u e => ?_, ?_⟩
          · rw [List.length_map, List.length_append, List.length_append, List.length_map, List.length_map, List.length_map, List.length_take]
            omega
          · rw [upd_ne (ne_of_none e nD)]
            exact s4 _ _ (s3 _ _ e)
          · rw [upd_same, List.take_succ_eq_append_getElem hi', ed]
            simp [List.append_assoc, er]
        have s4 := same_upd (o := .lst [.str "cell", .str d.n, .str d.p]) nu
        cases ek : d.k with
        | true =>
          refine iteT ⟨by show 1 ≤ sizeLine; decide, fun y ny => ⟨_, _, _, _, rfl, rfl, same_upd ny _ _ upd_same, upd_same, by show 4 ≤ sizeLine; decide, fun q nq => ⟨_, q, ["cell", d.n, d.p, "kept"], rfl, rfl, .inl (SqL.of upd_same), ?_, next true _ _ ((s4.trans (same_upd ny)).trans (same_upd nq)) (by unfold cellRow; rw [ek]; rfl)⟩⟩⟩
          simp only [List.map_cons, List.map_nil, List.sum_cons, List.sum_nil, List.length_cons, List.length_nil]
          omega
        | false =>
          refine iteF ⟨by show 0 ≤ sizeLine; decide, fun y ny => ⟨_, _, _, _, rfl, rfl, same_upd ny _ _ upd_same, upd_same, by show 3 ≤ sizeLine; decide, fun q nq => ⟨_, q, ["cell", d.n, d.p], rfl, rfl, .inl (SqL.of upd_same), ?_, next false _ _ ((s4.trans (same_upd ny)).trans (same_upd nq)) (by unfold cellRow; rw [ek]; rfl)⟩⟩⟩
          simp only [List.map_cons, List.map_nil, List.sum_cons, List.sum_nil, List.length_cons, List.length_nil]
          omega
      · rintro σ H3 ⟨v2, v3, v4, v5, v6, v7, rfl, s3, at_D3⟩
        rw [← paired_len pc |>.symm, List.take_length] at at_D3
        refine ⟨⟨_, rfl⟩, _, rfl, _, D, rowsOf h, rfl, rfl, .inl (SqL.of at_D3), ?_, k _ s3⟩
        have := sum_le ((rowsOf h).map (·.length)) 60 (fun x hx => by
          obtain ⟨r, hr, rfl⟩ := List.mem_map.mp hx
          exact row_len g r hr)
        have := rows_len g
        rw [List.length_map] at *
        have e1 : ("\n" : Str).length = 1 := rfl
        rw [e1]
        omega
end
end K02

namespace K02
open PySem PySem.Spec PyProof.Rows L2
open Cal EnuT Sqx Exn Keys

/-- the thing that the words of a row tell: its rank, itself -/
def thingP : List Str → Option (Nat × Tv)
  | [w0, a] => if w0 = "part" then some (0, .fl (.str a)) else none
  | [w0, a, b] => if w0 = "cell" then some (2, .sq [.str a, .str b, .bl false]) else none
  | [w0, a, b, c] => if w0 = "cell" ∧ c = "kept" then some (2, .sq [.str a, .str b, .bl true]) else none
  | [w0, a, b, c, d] => if w0 = "door" ∧ (d = "open" ∨ d = "shut") then some (1, .sq [.str a, .str b, .str c, .bl (decide (d = "open"))]) else none
  | _ => none
def wordsOf (s : Str) : List Str := Txt.split s " "
/-- as TvAt, a tuple where it has parts -/
def TvT (H : Hp) (v : V) : Tv → Prop
  | .fl u => v = u ∧ flatOk u = true
  | .sq xs => ∃ a, v = .ref a ∧ H a = some (.tup xs) ∧ xs.length ≤ 20 ∧ ∀ x, x ∈ xs → flatOk x = true
theorem TvT.at {H : Hp} {v : V} {t : Tv} (x : TvT H v t) : TvAt H v t := by
  cases t with
  | fl u => exact x
  | sq xs =>
    obtain ⟨a, e, q, r⟩ := x
    exact ⟨a, e, .inr q, r⟩
theorem TvT.keep {H H' : Hp} (k : ∀ a xs, H a = some (.tup xs) → H' a = some (.tup xs)) {v : V} {t : Tv} (x : TvT H v t) : TvT H' v t := by
  cases t with
  | fl u => exact x
  | sq xs =>
    obtain ⟨a, e, q, r⟩ := x
    exact ⟨a, e, k _ _ q, r⟩
def spThingOf : Sp := fun vs H Q _ => ∃ s : Str, vs = [.str s] ∧ s.length ≤ 900 ∧ (wordsOf s).length ≤ 1000 ∧
  (thingP (wordsOf s) = none → ∀ H', Same H H' → Q .non H') ∧ (∀ r t, thingP (wordsOf s) = some (r, t) → ∀ H' u x, Same H H' → H' u = some (.tup [.int (r : Nat), x]) → TvT H' x t → Q (.ref u) H')
theorem dstr (a b : Str) : decide (V.str a = V.str b) = decide (a = b) := by
  by_cases e : a = b
  · rw [e]; simp
  · rw [decide_eq_false e, decide_eq_false fun z => e (by injection z)]
theorem dnum (n m : Nat) : decide (V.int (n : Nat) = V.int (m : Nat)) = decide (n = m) := len_ne
theorem tq1 (w a : Str) : thingP [w, a] = if w = "part" then some (0, .fl (.str a)) else none := rfl
theorem tq2 (w a b : Str) : thingP [w, a, b] = if w = "cell" then some (2, .sq [.str a, .str b, .bl false]) else none := rfl
theorem tq3 (w a b c : Str) : thingP [w, a, b, c] = if w = "cell" ∧ c = "kept" then some (2, .sq [.str a, .str b, .bl true]) else none := rfl
theorem tq4 (w a b c d : Str) : thingP [w, a, b, c, d] = if w = "door" ∧ (d = "open" ∨ d = "shut") then some (1, .sq [.str a, .str b, .str c, .bl (decide (d = "open"))]) else none := rfl
theorem pd : ("part" : Str) ≠ "door" := by decide
theorem pc : ("part" : Str) ≠ "cell" := by decide
theorem dc : ("door" : Str) ≠ "cell" := by decide
theorem tp_part : ∀ ws : List Str, ws.length + 1 ≠ 2 → thingP ("part" :: ws) = none
  | [], _ => rfl
  | [_], h => absurd rfl h
  | [_, _], _ => (tq2 ..).trans (if_neg pc)
  | [_, _, _], _ => (tq3 ..).trans (if_neg (fun z => pc z.1))
  | [_, _, _, _], _ => (tq4 ..).trans (if_neg (fun z => pd z.1))
  | _ :: _ :: _ :: _ :: _ :: _, _ => rfl
theorem tp_door : ∀ ws : List Str, ws.length + 1 ≠ 5 → thingP ("door" :: ws) = none
  | [], _ => rfl
  | [_], _ => (tq1 ..).trans (if_neg (Ne.symm pd))
  | [_, _], _ => (tq2 ..).trans (if_neg dc)
  | [_, _, _], _ => (tq3 ..).trans (if_neg (fun z => dc z.1))
  | [_, _, _, _], h => absurd rfl h
  | _ :: _ :: _ :: _ :: _ :: _, _ => rfl
theorem tp_cell : ∀ ws : List Str, ws.length + 1 ≠ 3 → ws.length + 1 ≠ 4 → thingP ("cell" :: ws) = none
  | [], _, _ => rfl
  | [_], _, _ => (tq1 ..).trans (if_neg (Ne.symm pc))
  | [_, _], h, _ => absurd rfl h
  | [_, _, _], _, h => absurd rfl h
  | [_, _, _, _], _, _ => (tq4 ..).trans (if_neg (fun z => dc z.1.symm))
  | _ :: _ :: _ :: _ :: _ :: _, _, _ => rfl
theorem tp_else {w0 : Str} (h1 : w0 ≠ "part") (h2 : w0 ≠ "door") (h3 : w0 ≠ "cell") : ∀ ws : List Str, thingP (w0 :: ws) = none
  | [] => rfl
  | [_] => (tq1 ..).trans (if_neg h1)
  | [_, _] => (tq2 ..).trans (if_neg h3)
  | [_, _, _] => (tq3 ..).trans (if_neg (fun z => h3 z.1))
  | [_, _, _, _] => (tq4 ..).trans (if_neg (fun z => h2 z.1))
  | _ :: _ :: _ :: _ :: _ :: _ => rfl
section
variable {P : Program} {w : World} {K : W.Frag} {mg : Str → Option Value} {base : Heap}
theorem scTO : FnScope ["row", "words"] ["row"] (defScope sThing) := ⟨rfl, rfl, rfl, by decide +kernel, rfl, by decide +kernel, by decide +kernel⟩
theorem ok_thingof {f : Addr} {fd : FuncData} (F : Fun K "_thing_of" "_thing_of" sThing f fd) (B : Bl mg) : FnOk P w K mg base CX0 1 f fd ["row"] spThingOf := by
  refine F.ok scTO (fun vs H Q E h => ?_) (fun cdv A outer s H vs Q E hr h => ?_)
  · obtain ⟨s, rfl, _⟩ := h
    rfl
  · obtain ⟨s, rfl, few, many, no, yes⟩ := h
    refine ⟨_, pss_cons (ps_set (i := 1) scTO.nd rfl (Or.inl rfl) (pe_split (pv 0) pe_str))
      (pss_cons (ps_if (PW.pt (pw_and (pt_cmpR op_eq (pe_ix ix_list (pv 1) pe_int (fun _ _ => rfl)) pe_str (nomark _)) (pw_and1 (pt_cmpR op_eq (pe_callB call_len_seq (by rfl) B.nums.len PySem.boot_len (pa_cons (pv 1) pa_nil)) pe_int (nomark _)))))
        (pss_one (ps_ret (pe_tup (pa_cons pe_int (pa_cons (pe_ix ix_list (pv 1) pe_int (fun _ _ => rfl)) pa_nil))))) pss_nil)
      (pss_cons (ps_if (PW.pt (pw_and (pt_cmpR op_eq (pe_ix ix_list (pv 1) pe_int (fun _ _ => rfl)) pe_str (nomark _)) (pw_and (pt_cmpR op_eq (pe_callB call_len_seq (by rfl) B.nums.len PySem.boot_len (pa_cons (pv 1) pa_nil)) pe_int (nomark _)) (pw_and1 (pt_cmpR op_in_seq (pe_ix ix_list (pv 1) pe_int (fun _ _ => rfl)) (pe_tup (pa_cons pe_str (pa_cons pe_str pa_nil))) (by rfl))))))
        (pss_one (ps_ret (pe_tup (pa_cons pe_int (pa_cons (pe_tup (pa_cons (pe_ix ix_list (pv 1) pe_int (fun _ _ => rfl)) (pa_cons (pe_ix ix_list (pv 1) pe_int (fun _ _ => rfl)) (pa_cons (pe_ix ix_list (pv 1) pe_int (fun _ _ => rfl)) (pa_cons (pe_cmpR op_eq (pe_ix ix_list (pv 1) pe_int (fun _ _ => rfl)) pe_str (nomark _)) pa_nil))))) pa_nil))))) pss_nil)
      (pss_cons (ps_if (PW.pt (pw_and (pt_cmpR op_eq (pe_ix ix_list (pv 1) pe_int (fun _ _ => rfl)) pe_str (nomark _)) (pw_and1 (pt_cmpR op_eq (pe_callB call_len_seq (by rfl) B.nums.len PySem.boot_len (pa_cons (pv 1) pa_nil)) pe_int (nomark _)))))
        (pss_one (ps_ret (pe_tup (pa_cons pe_int (pa_cons (pe_tup (pa_cons (pe_ix ix_list (pv 1) pe_int (fun _ _ => rfl)) (pa_cons (pe_ix ix_list (pv 1) pe_int (fun _ _ => rfl)) (pa_cons pe_bl pa_nil)))) pa_nil))))) pss_nil)
      (pss_cons (ps_if (PW.pt (pw_and (pt_cmpR op_eq (pe_ix ix_list (pv 1) pe_int (fun _ _ => rfl)) pe_str (nomark _)) (pw_and (pt_cmpR op_eq (pe_callB call_len_seq (by rfl) B.nums.len PySem.boot_len (pa_cons (pv 1) pa_nil)) pe_int (nomark _)) (pw_and1 (pt_cmpR op_eq (pe_ix ix_list (pv 1) pe_int (fun _ _ => rfl)) pe_str (nomark _))))))
        (pss_one (ps_ret (pe_tup (pa_cons pe_int (pa_cons (pe_tup (pa_cons (pe_ix ix_list (pv 1) pe_int (fun _ _ => rfl)) (pa_cons (pe_ix ix_list (pv 1) pe_int (fun _ _ => rfl)) (pa_cons pe_bl pa_nil)))) pa_nil))))) pss_nil)
      (pss_one (ps_ret pe_non)))))), ?_⟩
    have line : (2000 : Nat) ≤ sizeLine := by decide
    refine ⟨_, rfl, ⟨_, rfl⟩, _, _, rfl, rfl, rfl, by omega, fun u nu => ?_⟩
    have short : ∀ t, t ∈ wordsOf s → t.length ≤ 900 := fun t ht => Nat.le_trans (Tx.split_len t ht) few
    have s0 := same_upd (o := .lst ((wordsOf s).map V.str)) nu
    have at_u : upd H u (.lst ((wordsOf s).map V.str)) u = some (.lst ((wordsOf s).map V.str)) := upd_same
    obtain ⟨w0, ws, ew⟩ : ∃ w0 ws, wordsOf s = w0 :: ws := by
      cases e : wordsOf s with
      | nil => exact absurd e (Tx.split_ne _ _)
      | cons p ps => exact ⟨p, ps, rfl⟩
    revert at_u s0
    show _ → _ → _
    unfold wordsOf at ew short no yes ⊢
    generalize upd H u (.lst ((Txt.split s " ").map V.str)) = HU
    rw [ew] at short no yes ⊢
    intro s0 at_u
    have sq := SqL.of (K := K) at_u
    have ll : ((w0 :: ws).map V.str).length = ws.length + 1 := by rw [List.length_map, List.length_cons]
    have at0 : atI ((w0 :: ws).map V.str) 0 = some (.str w0) := atI_nat (j := 0) rfl
    have skip : ∀ {x : Str}, w0 ≠ x → decide (V.str w0 = V.str x) = false := fun {x} h => by rw [dstr]; exact decide_eq_false h
    have hit : ∀ {x : Str}, w0 = x → decide (V.str w0 = V.str x) = true := fun {x} h => by rw [dstr]; exact decide_eq_true h
    have lenT : ∀ {n : Nat}, ws.length + 1 = n → decide (V.int (((w0 :: ws).map V.str).length : Nat) = V.int (n : Nat)) = true := fun {n} h => by rw [ll, dnum]; exact decide_eq_true h
    have lenF : ∀ {n : Nat}, ws.length + 1 ≠ n → decide (V.int (((w0 :: ws).map V.str).length : Nat) = V.int (n : Nat)) = false := fun {n} h => by rw [ll, dnum]; exact decide_eq_false h
    have ixs : ∀ {j : Nat} {x : Str}, (w0 :: ws)[j]? = some x → atI ((w0 :: ws).map V.str) (j : Int) = some (.str x) := fun {j x} h => atI_nat (by rw [List.getElem?_map, h]; rfl)
    have fo : ∀ {x : Str}, x ∈ w0 :: ws → flatOk (.str x) = true := fun {x} h => by
      have := short x h
      show decide (x.length ≤ 1000) = true
      exact decide_eq_true (by omega)
    refine ⟨_, rfl, u, _, _, _, rfl, rfl, sq, at0, rfl, _, rfl, ?_⟩
    by_cases c0 : w0 = "part"
    · rw [hit c0]
      refine iteT ⟨_, rfl, u, _, rfl, .inl sq, rfl, _, rfl, ?_⟩
      have n1 : w0 ≠ "door" := by rw [c0]; decide
      have n2 : w0 ≠ "cell" := by rw [c0]; decide
      by_cases l2 : ws.length + 1 = 2
      · obtain ⟨a, rfl⟩ : ∃ a, ws = [a] := by
          match ws, l2 with
          | [a], _ => exact ⟨a, rfl⟩
        refine Eq.mpr (congrArg (fun b => ite (b = true) _ _) (lenT (n := 2) l2)) (iteT ⟨_, rfl, u, _, _, _, rfl, rfl, sq, ixs (j := 1) rfl, by show 2 ≤ sizeLine; decide, fun p np => ?_⟩)
        exact yes 0 (.fl (.str a)) (by rw [c0]; exact (tq1 ..).trans (if_pos rfl)) _ p _ (s0.trans (same_upd np)) upd_same ⟨rfl, fo (by simp)⟩
      · refine Eq.mpr (congrArg (fun b => ite (b = true) _ _) (lenF (n := 2) l2)) (iteF ⟨_, rfl, u, _, _, _, rfl, rfl, sq, at0, rfl, _, rfl, ?_⟩)
        rw [skip n1]
        refine iteF (iteF ⟨_, rfl, u, _, _, _, rfl, rfl, sq, at0, rfl, _, rfl, ?_⟩)
        rw [skip n2]
        refine iteF (iteF ⟨_, rfl, u, _, _, _, rfl, rfl, sq, at0, rfl, _, rfl, ?_⟩)
        rw [skip n2]
        exact iteF (iteF (no (by rw [c0]; exact tp_part ws l2) _ s0))
    rw [skip c0]
    refine iteF (iteF ⟨_, rfl, u, _, _, _, rfl, rfl, sq, at0, rfl, _, rfl, ?_⟩)
    by_cases c1 : w0 = "door"
    · rw [hit c1]
      have n2 : w0 ≠ "cell" := by rw [c1]; decide
      have end_ : thingP (w0 :: ws) = none → ∀ {HX}, Same H HX → SqL K HX u ((w0 :: ws).map V.str) → True := fun _ {_} _ _ => trivial
      refine iteT ⟨_, rfl, u, _, rfl, .inl sq, rfl, _, rfl, ?_⟩
      by_cases l5 : ws.length + 1 = 5
      · obtain ⟨a, b, c, d, rfl⟩ : ∃ a b c d, ws = [a, b, c, d] := by
          match ws, l5 with
          | [a, b, c, d], _ => exact ⟨a, b, c, d, rfl⟩
        refine Eq.mpr (congrArg (fun b => ite (b = true) _ _) (lenT (n := 5) l5)) (iteT ⟨_, rfl, u, _, _, _, rfl, rfl, sq, ixs (j := 4) rfl, by show 2 ≤ sizeLine; decide, fun q nq => ?_⟩)
        have s1 := same_upd (o := .tup [.str "open", .str "shut"]) nq
        have sq1 : SqL K (upd HU q (.tup [.str "open", .str "shut"])) u ((w0 :: [a, b, c, d]).map V.str) := SqL.of (s1 _ _ at_u)
        refine ⟨q, _, rfl, .inr (SqT.of upd_same), rfl, rfl, _, rfl, ?_⟩
        have ei : inV (.str d) [.str "open", .str "shut"] = decide (d ∈ (["open", "shut"] : List Str)) := inV_strs d ["open", "shut"]
        rw [if_neg (by decide), ei]
        refine ite2 (fun h => ?_) (fun h => ?_)
        · have h := of_decide_eq_true h
          refine ⟨_, rfl, u, _, _, _, rfl, rfl, sq1, ixs (j := 1) rfl, _, rfl, u, _, _, _, rfl, rfl, sq1, ixs (j := 2) rfl, _, rfl, u, _, _, _, rfl, rfl, sq1, ixs (j := 3) rfl, _, rfl, u, _, _, _, rfl, rfl, sq1, ixs (j := 4) rfl, rfl, by show 4 ≤ sizeLine; decide, fun t nt => ⟨by show 2 ≤ sizeLine; decide, fun p np => ?_⟩⟩
          have s2 := (s0.trans s1).trans (same_upd (o := .tup [.str a, .str b, .str c, .bl (decide (V.str d = V.str "open"))]) nt)
          refine yes 1 (.sq [.str a, .str b, .str c, .bl (decide (d = "open"))]) ?_ _ p _ (s2.trans (same_upd np)) upd_same ⟨t, rfl, ?_, by show 4 ≤ 20; decide, fun x hx => ?_⟩
          · rw [c1]
            exact (tq4 ..).trans (if_pos ⟨rfl, by simpa using h⟩)
          · rw [same_upd np _ _ upd_same, dstr]
          · simp only [List.mem_cons, List.not_mem_nil, or_false] at hx
            rcases hx with rfl | rfl | rfl | rfl
            · exact fo (by simp)
            · exact fo (by simp)
            · exact fo (by simp)
            · rfl
        · have h : d ∉ (["open", "shut"] : List Str) := fun z => h (decide_eq_true z)
          refine ⟨_, rfl, u, _, _, _, rfl, rfl, sq1, at0, rfl, _, rfl, ?_⟩
          rw [skip n2]
          refine iteF (iteF ⟨_, rfl, u, _, _, _, rfl, rfl, sq1, at0, rfl, _, rfl, ?_⟩)
          rw [skip n2]
          refine iteF (iteF (no ?_ _ (s0.trans s1)))
          rw [c1]
          exact (tq4 ..).trans (if_neg (fun z => h (by simpa using z.2)))
      · refine Eq.mpr (congrArg (fun b => ite (b = true) _ _) (lenF (n := 5) l5)) (iteF (iteF ⟨_, rfl, u, _, _, _, rfl, rfl, sq, at0, rfl, _, rfl, ?_⟩))
        rw [skip n2]
        refine iteF (iteF ⟨_, rfl, u, _, _, _, rfl, rfl, sq, at0, rfl, _, rfl, ?_⟩)
        rw [skip n2]
        exact iteF (iteF (no (by rw [c1]; exact tp_door ws l5) _ s0))
    rw [skip c1]
    refine iteF (iteF ⟨_, rfl, u, _, _, _, rfl, rfl, sq, at0, rfl, _, rfl, ?_⟩)
    by_cases c2 : w0 = "cell"
    · rw [hit c2]
      refine iteT ⟨_, rfl, u, _, rfl, .inl sq, rfl, _, rfl, ?_⟩
      by_cases l3 : ws.length + 1 = 3
      · obtain ⟨a, b, rfl⟩ : ∃ a b, ws = [a, b] := by
          match ws, l3 with
          | [a, b], _ => exact ⟨a, b, rfl⟩
        refine Eq.mpr (congrArg (fun b => ite (b = true) _ _) (lenT (n := 3) l3)) (iteT ⟨_, rfl, u, _, _, _, rfl, rfl, sq, ixs (j := 1) rfl, _, rfl, u, _, _, _, rfl, rfl, sq, ixs (j := 2) rfl, by show 3 ≤ sizeLine; decide, fun t nt => ⟨by show 2 ≤ sizeLine; decide, fun p np => ?_⟩⟩)
        have s2 := s0.trans (same_upd (o := .tup [.str a, .str b, .bl false]) nt)
        refine yes 2 (.sq [.str a, .str b, .bl false]) (by rw [c2]; exact (tq2 ..).trans (if_pos rfl)) _ p _ (s2.trans (same_upd np)) upd_same ⟨t, rfl, same_upd np _ _ upd_same, by show 3 ≤ 20; decide, fun x hx => ?_⟩
        simp only [List.mem_cons, List.not_mem_nil, or_false] at hx
        rcases hx with rfl | rfl | rfl
        · exact fo (by simp)
        · exact fo (by simp)
        · rfl
      · refine Eq.mpr (congrArg (fun b => ite (b = true) _ _) (lenF (n := 3) l3)) (iteF ⟨_, rfl, u, _, _, _, rfl, rfl, sq, at0, rfl, _, rfl, ?_⟩)
        rw [hit c2]
        refine iteT ⟨_, rfl, u, _, rfl, .inl sq, rfl, _, rfl, ?_⟩
        by_cases l4 : ws.length + 1 = 4
        · obtain ⟨a, b, c, rfl⟩ : ∃ a b c, ws = [a, b, c] := by
            match ws, l4 with
            | [a, b, c], _ => exact ⟨a, b, c, rfl⟩
          refine Eq.mpr (congrArg (fun b => ite (b = true) _ _) (lenT (n := 4) l4)) (iteT ⟨_, rfl, u, _, _, _, rfl, rfl, sq, ixs (j := 3) rfl, rfl, _, rfl, ?_⟩)
          rw [dstr]
          refine ite2 (fun h => ?_) (fun h => ?_)
          · have h := of_decide_eq_true h
            refine ⟨_, rfl, u, _, _, _, rfl, rfl, sq, ixs (j := 1) rfl, _, rfl, u, _, _, _, rfl, rfl, sq, ixs (j := 2) rfl, by show 3 ≤ sizeLine; decide, fun t nt => ⟨by show 2 ≤ sizeLine; decide, fun p np => ?_⟩⟩
            have s2 := s0.trans (same_upd (o := .tup [.str a, .str b, .bl true]) nt)
            refine yes 2 (.sq [.str a, .str b, .bl true]) (by rw [c2]; exact (tq3 ..).trans (if_pos ⟨rfl, h⟩)) _ p _ (s2.trans (same_upd np)) upd_same ⟨t, rfl, same_upd np _ _ upd_same, by show 3 ≤ 20; decide, fun x hx => ?_⟩
            simp only [List.mem_cons, List.not_mem_nil, or_false] at hx
            rcases hx with rfl | rfl | rfl
            · exact fo (by simp)
            · exact fo (by simp)
            · rfl
          · have h : c ≠ "kept" := fun z => h (decide_eq_true z)
            exact no (by rw [c2]; exact (tq3 ..).trans (if_neg (fun z => h z.2))) _ s0
        · refine Eq.mpr (congrArg (fun b => ite (b = true) _ _) (lenF (n := 4) l4)) (iteF (iteF (no (by rw [c2]; exact tp_cell ws l3 l4) _ s0)))
    rw [skip c2]
    refine iteF (iteF ⟨_, rfl, u, _, _, _, rfl, rfl, sq, at0, rfl, _, rfl, ?_⟩)
    rw [skip c2]
    exact iteF (iteF (no (tp_else c0 c1 c2 ws) _ s0))
end
end K02

namespace K02
open PySem PySem.Spec PyProof.Rows L2
open Cal EnuT Sqx Exn Keys

structure Rd where
  last : Nat
  p : List Tv
  d : List Tv
  c : List Tv
def z0 : Rd := ⟨0, [], [], []⟩
def put (z : Rd) (k : Nat) (t : Tv) : Rd := ⟨k, if k = 0 then z.p ++ [t] else z.p, if k = 1 then z.d ++ [t] else z.d, if k = 2 then z.c ++ [t] else z.c⟩
def step1 (z : Rd) (r : Str) : Option Rd := match thingP (wordsOf r) with
  | none => none
  | some (k, t) => if k < z.last then none else some (put z k t)
def readN : Rd → List Str → Option Rd
  | z, [] => some z
  | z, r :: rs => match step1 z r with
    | none => none
    | some z' => readN z' rs
theorem readN_snoc : ∀ {z z' : Rd} {rs : List Str} {r : Str}, readN z rs = some z' → readN z (rs ++ [r]) = step1 z' r
  | z, z', [], r, h => by
    have h : some z = some z' := h
    injection h with h
    subst h
    show (match step1 z r with
      | none => none
      | some z' => readN z' []) = _
    cases step1 z r <;> rfl
  | z, z', q :: rs, r, h => by
    have h : (match step1 z q with
      | none => none
      | some z' => readN z' rs) = some z' := h
    show (match step1 z q with
      | none => none
      | some z' => readN z' (rs ++ [r])) = _
    cases e : step1 z q with
    | none => rw [e] at h; cases h
    | some y =>
      rw [e] at h
      exact readN_snoc h
theorem readN_take : ∀ {z z' : Rd} {rs : List Str} (i : Nat), readN z rs = some z' → ∃ y, readN z (rs.take i) = some y
  | z, _, _, 0, _ => ⟨z, rfl⟩
  | z, _, [], _ + 1, _ => ⟨z, rfl⟩
  | z, z', q :: rs, i + 1, h => by
    have h : (match step1 z q with
      | none => none
      | some z' => readN z' rs) = some z' := h
    show ∃ y, (match step1 z q with
      | none => none
      | some z' => readN z' (rs.take i)) = some y
    cases e : step1 z q with
    | none => rw [e] at h; cases h
    | some y =>
      rw [e] at h
      exact readN_take i h
theorem rank2 {ws : List Str} {k : Nat} {t : Tv} (h : thingP ws = some (k, t)) : k ≤ 2 := by
  unfold thingP at h
  split at h <;> (try split at h) <;> first | (injection h with h; injection h with h _; omega) | cases h
def ShortR (r : Str) : Prop := r.length ≤ 900 ∧ (wordsOf r).length ≤ 1000
/-- what stands in the three lists -/
structure RdAt (H : Hp) (a0 a1 a2 : Addr) (z : Rd) : Prop where
  p : ∃ vs, H a0 = some (.lst vs) ∧ Paired (TvT H) vs z.p
  d : ∃ vs, H a1 = some (.lst vs) ∧ Paired (TvT H) vs z.d
  c : ∃ vs, H a2 = some (.lst vs) ∧ Paired (TvT H) vs z.c
theorem RdAt.same {H H' : Hp} {a0 a1 a2 : Addr} {z : Rd} (s : Same H H') (r : RdAt H a0 a1 a2 z) : RdAt H' a0 a1 a2 z := by
  obtain ⟨⟨v0, e0, p0⟩, ⟨v1, e1, p1⟩, v2, e2, p2⟩ := r
  exact ⟨⟨v0, s _ _ e0, paired_mono (fun _ _ q => q.keep fun _ _ => s _ _) p0⟩, ⟨v1, s _ _ e1, paired_mono (fun _ _ q => q.keep fun _ _ => s _ _) p1⟩, v2, s _ _ e2, paired_mono (fun _ _ q => q.keep fun _ _ => s _ _) p2⟩
theorem RdAt.put {H : Hp} {a0 a1 a2 l : Addr} {z : Rd} {k : Nat} {x : V} {t : Tv} (r : RdAt H a0 a1 a2 z) (n01 : a0 ≠ a1) (n02 : a0 ≠ a2) (n12 : a1 ≠ a2) (h2 : k ≤ 2) (hl : [a0, a1, a2][k]? = some l) (xt : TvT H x t) :
    ∃ ys, H l = some (.lst ys) ∧ (ys.length = z.p.length ∨ ys.length = z.d.length ∨ ys.length = z.c.length) ∧ RdAt (upd H l (.lst (ys ++ [x]))) a0 a1 a2 (put z k t) := by
  obtain ⟨⟨v0, e0, p0⟩, ⟨v1, e1, p1⟩, v2, e2, p2⟩ := r
  have keep : ∀ {l ys ws}, H l = some (.lst ys) → ∀ a xs, H a = some (.tup xs) → upd H l (.lst ws) a = some (.tup xs) := fun {l ys ws} e a xs h => by
    rw [upd_ne (ne_of h e (fun z => by cases z))]
    exact h
  have mono : ∀ {l ys ws vs ts}, H l = some (.lst ys) → Paired (TvT H) vs ts → Paired (TvT (upd H l (.lst ws))) vs ts := fun {l ys ws vs ts} e q => paired_mono (fun _ _ q => q.keep (keep e)) q
  match k, h2, hl with
  | 0, _, hl =>
    have hl : some a0 = some l := hl
    injection hl with hl
    subst hl
    exact ⟨v0, e0, .inl (paired_len p0), ⟨_, upd_same, paired_snoc (mono e0 p0) (xt.keep (keep e0))⟩, ⟨v1, by rw [upd_ne (Ne.symm n01)]; exact e1, mono e0 p1⟩, v2, by rw [upd_ne (Ne.symm n02)]; exact e2, mono e0 p2⟩
  | 1, _, hl =>
    have hl : some a1 = some l := hl
    injection hl with hl
    subst hl
    exact ⟨v1, e1, .inr (.inl (paired_len p1)), ⟨v0, by rw [upd_ne n01]; exact e0, mono e1 p0⟩, ⟨_, upd_same, paired_snoc (mono e1 p1) (xt.keep (keep e1))⟩, v2, by rw [upd_ne (Ne.symm n12)]; exact e2, mono e1 p2⟩
  | 2, _, hl =>
    have hl : some a2 = some l := hl
    injection hl with hl
    subst hl
    exact ⟨v2, e2, .inr (.inr (paired_len p2)), ⟨v0, by rw [upd_ne n02]; exact e0, mono e2 p0⟩, ⟨v1, by rw [upd_ne n12]; exact e1, mono e2 p1⟩, _, upd_same, paired_snoc (mono e2 p2) (xt.keep (keep e2))⟩
theorem readN_len : ∀ {z z' : Rd} {rs : List Str}, readN z rs = some z' → z'.p.length + z'.d.length + z'.c.length ≤ z.p.length + z.d.length + z.c.length + rs.length
  | z, z', [], h => by
    have h : some z = some z' := h
    injection h with h
    subst h
    simp
  | z, z', q :: rs, h => by
    have h : (match step1 z q with
      | none => none
      | some z' => readN z' rs) = some z' := h
    cases e : step1 z q with
    | none => rw [e] at h; cases h
    | some y =>
      rw [e] at h
      have ih := readN_len h
      have : y.p.length + y.d.length + y.c.length ≤ z.p.length + z.d.length + z.c.length + 1 := by
        unfold step1 at e
        split at e
        · cases e
        · split at e
          · cases e
          · injection e with e
            rw [← e]
            unfold put
            rename_i k t hk _
            have := rank2 hk
            match k, this with
            | 0, _ => simp; omega
            | 1, _ => simp; omega
            | 2, _ => simp; omega
      simp only [List.length_cons]
      omega
/-- what comes of things that were read -/
def After (C CH : Addr) (H : Hp) (Q : VK) (E : XK) (z : Rd) : Prop := z.p.length ≤ 20 ∧ z.d.length ≤ 20 ∧ z.c.length ≤ 20 ∧
  ((∃ i, HouseBad (.sq z.p) (.sq z.d) (.sq z.c) i ∧ Bad CH H E i) ∨ ∃ h, HouseOk (.sq z.p) (.sq z.d) (.sq z.c) h ∧ ∀ H' o, Same H H' → H o = none → HouseIns H' C o h → Q (.ref o) H')
def spRead (C CH CT : Addr) : Sp := fun vs H Q E => ∃ v, vs = [v] ∧ ((∃ o, SqOf H v o ∧ (o = none → isStr v = false) ∧ Bad CT H E 0) ∨
  ∃ s pre post z, v = .str s ∧ s.length ≤ 10000 ∧ Txt.split s "\n" = pre ++ post ∧ (pre ++ post).length ≤ 100 ∧ (∀ r, r ∈ pre ++ post → ShortR r) ∧ readN z0 pre = some z ∧ (∀ r p, post = r :: p → step1 z r = none ∧ Bad CT H E pre.length) ∧ (post = [] → After C CH H Q E z))
theorem bad_of {CT : Addr} {H H' : Hp} {E : XK} {i : Nat} {v : V} (b : Bad CT H E i) (ev : v = .int (i : Nat)) (s : Same H H') : ∀ d, H' d = none → E (.ref CT) (some d) (upd H' d (.xd [("at", v)])) := fun d nd => by
  subst ev
  exact b _ d (s.trans (same_upd nd)) (s.free nd) upd_same
section
variable {P : Program} {w : World} {K : W.Frag} {mg : Str → Option Value} {base : Heap}
abbrev NRd : List Str := ["text", "things", "last", "at", "row", "told"]
theorem scRd : FnScope NRd ["text"] (defScope sRead) := ⟨rfl, rfl, rfl, by decide +kernel, rfl, by decide +kernel, by decide +kernel⟩
theorem ok_read {f C CT CH fI : Addr} {fd fdI : FuncData} (F : Fun K "read" "House.read" sRead f fd) (B : Bl mg) (cT : CE P w K mg base "InvalidText" CT "at") (To : Callee P w K mg base "_thing_of" 1 ["row"] spThingOf)
    (mH : mg "House" = some (.ref C)) (mk : Mk K C fI) (bI : Binds K fdI ["self", "parts", "doors", "cells"] []) (FI : FnOk P w K mg base (L2.CX P w) 4 fI fdI ["self", "parts", "doors", "cells"] (spInit C CH)) :
    FnOk P w K mg base (L2.CX P w) 6 f fd ["text"] (spRead C CH CT) := by
  refine F.okX scRd (fun vs H Q E h => ?_) (fun cdv A outer s H vs Q E hr h => ?_)
  · obtain ⟨v, rfl, _⟩ := h
    rfl
  · obtain ⟨v, rfl, ev⟩ := h
    have hr2 := hr.mono (show 2 ≤ 5 by decide)
    have hr1 := hr.mono (show 1 ≤ 5 by decide)
    refine ⟨_, pss_cons (ps_if (pt_not (pt_val (pe_callB call_isi (by rfl) B.isi (by decide +kernel) (pa_cons (pv 0) (pa_cons (pe_bltn (v := .ty "str") rfl B.str (by decide +kernel) rfl) pa_nil))))) (pss_one (ps_raise rfl (takes_of rfl rfl rfl rfl) (pmk_exn cT hr2 rfl pe_int))) pss_nil)
      (pss_cons (ps_set (i := 1) scRd.nd rfl (Or.inl rfl) (pe_lst (pa_cons (pe_lst pa_nil) (pa_cons (pe_lst pa_nil) (pa_cons (pe_lst pa_nil) pa_nil)))))
      (pss_cons (ps_set (i := 2) scRd.nd rfl (Or.inl rfl) pe_int)
      (pss_cons (ps_for PassesOwn.leaving rfl (pi_enum (by rfl) B.enu (pa_cons (pe_split (pv 0) pe_str) pa_nil)) (pg_tup rfl (pgs_cons (pg_name (i := 3) scRd.nd rfl (Or.inl rfl)) (pgs_cons (pg_name (i := 4) scRd.nd rfl (Or.inl rfl)) pgs_nil)))
        (pss_cons (ps_set (i := 5) scRd.nd rfl (Or.inl rfl) (pe_callee To hr1 rfl (pa_cons (pv 4) pa_nil)))
        (pss_cons (ps_if (PW.pt (pw_or (pt_cmp (pc_isN (pv 5))) (pw_or1 (pt_cmpR op_lt (pe_ix ix_tup (pv 5) pe_int (fun _ _ => rfl)) (pv 2) (nomark _))))) (pss_one (ps_raise rfl (takes_of rfl rfl rfl rfl) (pmk_exn cT hr2 rfl (pv 3)))) pss_nil)
        (pss_cons (ps_set (i := 2) scRd.nd rfl (Or.inl rfl) (pe_ix ix_tup (pv 5) pe_int (fun _ _ => rfl)))
        (pss_one (ps_expr (pe_bm PySem.F.plainAttrs_list PySem.F.slot_list_append PySem.F.type_list_append mt_append (pe_ix ix_list (pv 1) (pv 2) (fun _ _ => rfl)) (pa_cons (pe_ix ix_tup (pv 5) pe_int (fun _ _ => rfl)) pa_nil))))))))
      (pss_one (ps_ret (pe_make mk FI (hr.mono (by decide)) rfl mH bI .nil (passes_call (takes_of rfl rfl rfl rfl) (fun _ _ _ _ h => h)) (pa_cons (pe_ix ix_list (pv 1) pe_int (fun _ _ => rfl)) (pa_cons (pe_ix ix_list (pv 1) pe_int (fun _ _ => rfl)) (pa_cons (pe_ix ix_list (pv 1) pe_int (fun _ _ => rfl)) pa_nil))))))))), ?_⟩
    have line : (20000 : Nat) ≤ sizeLine := by decide
    rcases ev with ⟨o, sq, ns, bad⟩ | ⟨s, pre, post, z, rfl, s900, es, l100, short, rd, odd, aft⟩
    · have bad := bad_of bad rfl (Same.refl _)
      cases o with
      | none =>
        obtain ⟨ty, h1, _, h3, _⟩ := flat_ty (K := K) (H := H) sq
        rw [ns rfl] at h3
        exact ⟨_, rfl, _, _, _, _, _, rfl, .ty "str", h1, h3, _, rfl, iteT ⟨_, rfl, bad⟩⟩
      | some xs =>
        obtain ⟨a, rfl, sq⟩ := sq
        obtain ⟨ty, h1, _, h3⟩ := seq_ty (K := K) sq
        exact ⟨_, rfl, _, _, _, _, _, rfl, .ty "str", h1, h3, _, rfl, iteT ⟨_, rfl, bad⟩⟩
    · refine ⟨_, rfl, _, _, _, _, true, rfl, .ty "str", .base (.str _), kit_ty (by decide +kernel), _, rfl, iteF ?_⟩
      refine ⟨Nat.zero_le _, fun a0 n0 => ⟨Nat.zero_le _, fun a1 n1 => ⟨Nat.zero_le _, fun a2 n2 => ⟨by show 3 ≤ sizeLine; decide, fun T nT => ?_⟩⟩⟩⟩
      obtain ⟨n10, ne01⟩ := none_of_upd n1
      obtain ⟨n21, ne12⟩ := none_of_upd n2
      obtain ⟨n20, ne02⟩ := none_of_upd n21
      obtain ⟨nT2, ne2T⟩ := none_of_upd nT
      obtain ⟨nT1, ne1T⟩ := none_of_upd nT2
      obtain ⟨nT0, ne0T⟩ := none_of_upd nT1
      have sA : Same H (upd (upd (upd (upd H a0 (.lst [])) a1 (.lst [])) a2 (.lst [])) T (.lst [.ref a0, .ref a1, .ref a2])) := (((same_upd n0).trans (same_upd n1)).trans (same_upd n2)).trans (same_upd nT)
      have at_T : upd (upd (upd (upd H a0 (.lst [])) a1 (.lst [])) a2 (.lst [])) T (.lst [.ref a0, .ref a1, .ref a2]) T = some (.lst [.ref a0, .ref a1, .ref a2]) := upd_same
      have rA : RdAt (upd (upd (upd (upd H a0 (.lst [])) a1 (.lst [])) a2 (.lst [])) T (.lst [.ref a0, .ref a1, .ref a2])) a0 a1 a2 z0 :=
        ⟨⟨[], by rw [upd_ne ne0T, upd_ne ne02, upd_ne ne01]; exact upd_same, .nil⟩, ⟨[], by rw [upd_ne ne1T, upd_ne ne12]; exact upd_same, .nil⟩, [], by rw [upd_ne ne2T]; exact upd_same, .nil⟩
      show Ends.nx _ _ (upd (upd (upd (upd H a0 (.lst [])) a1 (.lst [])) a2 (.lst [])) T (.lst [.ref a0, .ref a1, .ref a2]))
      revert sA at_T rA
      generalize upd (upd (upd (upd H a0 (.lst [])) a1 (.lst [])) a2 (.lst [])) T (.lst [.ref a0, .ref a1, .ref a2]) = HA
      intro sA at_T rA
      refine ⟨_, rfl, ⟨_, rfl⟩, _, _, rfl, rfl, rfl, by omega, fun u nu => ?_⟩
      rw [es]
      have sB := same_upd (o := .lst ((pre ++ post).map V.str)) nu
      have rA0 := rA
      have at_u : upd HA u (.lst ((pre ++ post).map V.str)) u = some (.lst ((pre ++ post).map V.str)) := upd_same
      have sAB := sA.trans sB
      have at_T := sB _ _ at_T
      have rA := rA.same sB
      revert sAB at_T rA at_u
      generalize upd HA u (.lst ((pre ++ post).map V.str)) = HB
      intro at_u sAB at_T rA
      have n0H : H a0 = none := n0
      have n1H : H a1 = none := n10
      have n2H : H a2 = none := n20
      have un : u ≠ a0 ∧ u ≠ a1 ∧ u ≠ a2 := by
        obtain ⟨⟨v0, e0, _⟩, ⟨v1, e1, _⟩, v2, e2, _⟩ := rA0
        exact ⟨fun z => (by rw [z, e0] at nu; cases nu), fun z => (by rw [z, e1] at nu; cases nu), fun z => (by rw [z, e2] at nu; cases nu)⟩
      have lz := readN_len rd
      refine ⟨u, _, rfl, SqL.of at_u, ?_⟩
      refine for_it (walk_enum (xs := (pre ++ post).map V.str)) (fun i σ H' => ∃ (y : Rd) (v3 v4 v5 : Option V), σ = [some (.str s), some (.ref T), some (.int (y.last : Nat)), v3, v4, v5] ∧ i ≤ pre.length ∧ readN z0 (pre.take i) = some y ∧ Same H H' ∧ RdAt H' a0 a1 a2 y ∧ H' T = some (.lst [.ref a0, .ref a1, .ref a2]) ∧ H' u = some (.lst ((pre ++ post).map V.str)))
        ⟨z0, _, _, _, rfl, Nat.zero_le _, rfl, sAB, rA, at_T, at_u⟩ (fun i σ' H' _ z => ?_) ?_ ?_
      · obtain ⟨_, _, _, _, _, _, _, _, _, _, e⟩ := z
        exact SqL.of e
      · rintro i x σ' H2 H2' hi ⟨y, v3, v4, v5, rfl, le, ry, s2, r2, at_T2, at_u2⟩ ⟨t, n', x', rfl, nt, rfl, hy, hz⟩
        cases hy
        have hz : ((pre ++ post).map V.str)[i]? = some x' := hz
        rw [List.getElem?_map] at hz
        obtain ⟨r, hr', rfl⟩ := Option.map_eq_some_iff.mp hz
        have s3 := same_upd (o := .tup [.int (i : Nat), .str r]) nt
        have s23 := s2.trans s3
        obtain ⟨sh1, sh2⟩ := short r (List.mem_of_getElem? hr')
        have at_end : i = pre.length → ∃ p, post = r :: p := fun e => by
          rw [List.getElem?_append_right (by omega), e, Nat.sub_self] at hr'
          cases post with
          | nil => cases hr'
          | cons q p => exact ⟨p, by cases hr'; rfl⟩
        have fail : step1 y r = none → i = pre.length := fun e => by
          by_cases lt : i < pre.length
          · exfalso
            rw [List.getElem?_append_left lt] at hr'
            obtain ⟨_, er⟩ := List.getElem?_eq_some_iff.mp hr'
            obtain ⟨y', ry'⟩ := readN_take (i + 1) rd
            rw [List.take_succ_eq_append_getElem lt, readN_snoc ry, er, e] at ry'
            cases ry'
          · omega
        have fine : ∀ y', step1 y r = some y' → i < pre.length ∧ readN z0 (pre.take (i + 1)) = some y' := fun y' e => by
          have lt : i < pre.length := by
            apply Nat.lt_of_not_le
            intro ge
            have ei : i = pre.length := by omega
            obtain ⟨p, ep⟩ := at_end ei
            have := (odd r p ep).1
            rw [ei, List.take_length, rd] at ry
            injection ry with ry
            rw [← ry, this] at e
            cases e
          refine ⟨lt, ?_⟩
          rw [List.getElem?_append_left lt] at hr'
          obtain ⟨_, er⟩ := List.getElem?_eq_some_iff.mp hr'
          rw [List.take_succ_eq_append_getElem lt, readN_snoc ry, er, e]
        have fails : ∀ {H'}, Same H H' → step1 y r = none → ∀ d, H' d = none → E (.ref CT) (some d) (upd H' d (.xd [("at", .int (i : Nat))])) := fun {H'} s' e => by
          have ei := fail e
          obtain ⟨p, ep⟩ := at_end ei
          exact bad_of (odd r p ep).2 (by rw [ei]) s'
        refine ⟨t, _, rfl, SqT.of upd_same, rfl, _, _, rfl, _, _, rfl, ⟨rfl, _, rfl, r, rfl, sh1, sh2, fun e H' s' => ?_, fun k th e H' w x s' ew xt => ?_⟩⟩
        · have e1 : step1 y r = none := by unfold step1; rw [e]
          exact ⟨_, rfl, _, rfl, iteT (iteT ⟨_, rfl, _, rfl, fails (s23.trans s') e1⟩)⟩
        · have s24 := s23.trans s'
          have sqw := SqT.of (K := K) ew
          refine ⟨_, rfl, _, rfl, iteF ⟨_, rfl, w, _, _, _, rfl, rfl, sqw, atI_nat (j := 0) rfl, _, rfl, _, _, rfl, rfl, _, rfl, ?_⟩⟩
          have e1 : step1 y r = if k < y.last then none else some (put y k th) := by unfold step1; rw [e]
          by_cases lt : k < y.last
          · rw [decide_eq_true (show ((k : Nat) : Int) < (y.last : Nat) by omega)]
            rw [if_pos lt] at e1
            exact iteT ⟨_, rfl, _, rfl, fails s24 e1⟩
          · rw [decide_eq_false (show ¬ ((k : Nat) : Int) < (y.last : Nat) by omega)]
            rw [if_neg lt] at e1
            obtain ⟨lti, ry'⟩ := fine _ e1
            have k2 := rank2 e
            obtain ⟨l, hl⟩ : ∃ l, [a0, a1, a2][k]? = some l := ⟨_, List.getElem?_eq_getElem (by show k < 3; omega)⟩
            have hlv : atI [V.ref a0, V.ref a1, V.ref a2] (k : Int) = some (.ref l) := atI_nat (by
              have := congrArg (Option.map V.ref) hl
              rw [← List.getElem?_map] at this
              exact this)
            have r4 := (r2.same s3).same s'
            obtain ⟨ys, hys, ly, rp⟩ := r4.put ne01 ne02 ne12 k2 hl xt
            have lyy := readN_len ry
            have ll : l = a0 ∨ l = a1 ∨ l = a2 := by
              match k, k2, hl with
              | 0, _, hl => exact .inl (by cases hl; rfl)
              | 1, _, hl => exact .inr (.inl (by cases hl; rfl))
              | 2, _, hl => exact .inr (.inr (by cases hl; rfl))
            have lT : l ≠ T := by
              rcases ll with z | z | z
              · rw [z]; exact ne0T
              · rw [z]; exact ne1T
              · rw [z]; exact ne2T
            have lu : l ≠ u := by
              rcases ll with z | z | z
              · rw [z]; exact Ne.symm un.1
              · rw [z]; exact Ne.symm un.2.1
              · rw [z]; exact Ne.symm un.2.2
            have lH : H l = none := by
              rcases ll with z | z | z
              · rw [z]; exact n0H
              · rw [z]; exact n1H
              · rw [z]; exact n2H
            have at_T4 := s' _ _ (s3 _ _ at_T2)
            have at_u4 := s' _ _ (s3 _ _ at_u2)
            refine iteF ⟨_, rfl, w, _, _, _, rfl, rfl, sqw, atI_nat (j := 0) rfl, _, rfl, _, rfl, T, _, _, _, rfl, rfl, SqL.of at_T4, hlv, .inl ⟨rfl, _, SqL.of hys⟩, _, rfl, w, _, _, _, rfl, rfl, sqw, atI_nat (j := 1) rfl, l, _, _, rfl, rfl, hys, ?_, put y k th, _, _, _, rfl, lti, ry', fun b o eb => ?_, rp, ?_, ?_⟩
            · rw [List.length_take] at lyy
              have z0l : z0.p.length + z0.d.length + z0.c.length = 0 := rfl
              rw [List.length_append] at l100
              omega
            · rw [upd_ne (fun z => by rw [z, lH] at eb; cases eb)]
              exact s24 _ _ eb
            · rw [upd_ne (Ne.symm lT)]
              exact at_T4
            · rw [upd_ne (Ne.symm lu)]
              exact at_u4
      · rintro σ' H2 ⟨y, v3, v4, v5, rfl, le, ry, s2, r2, at_T2, at_u2⟩
        rw [List.length_map, List.length_append] at le
        have p0 : post = [] := List.eq_nil_of_length_eq_zero (by omega)
        rw [List.length_map, List.take_of_length_le (by rw [List.length_append]; omega), rd] at ry
        injection ry with ry
        subst ry
        obtain ⟨l0, l1, l2, ev⟩ := aft p0
        have sqT := SqL.of (K := K) at_T2
        refine ⟨_, rfl, T, _, _, _, rfl, rfl, sqT, atI_nat (j := 0) rfl, _, rfl, T, _, _, _, rfl, rfl, sqT, atI_nat (j := 1) rfl, _, rfl, T, _, _, _, rfl, rfl, sqT, atI_nat (j := 2) rfl, ?_⟩
        intro x dx nx ndx ne
        have s3 : Same H2 (upd (upd H2 dx (.own x)) x (.ins C dx [])) := fun b o e => by
          rw [upd_ne (ne_of_none e nx), upd_ne (ne_of_none e ndx)]
          exact e
        have s03 := s2.trans s3
        obtain ⟨⟨w0, e0, q0⟩, ⟨w1, e1, q1⟩, w2, e2, q2⟩ := r2.same s3
        have nx0 := s2.free nx
        have back : ∀ {H'}, But x (upd (upd H2 dx (.own x)) x (.ins C dx [])) H' → Same H H' := fun {H'} b c o e => b c o (ne_of_none e nx0) (s03 _ _ e)
        refine ⟨x, dx, _, _, _, .sq z.p, .sq z.d, .sq z.c, rfl, upd_same, ⟨a0, w0, rfl, .inl e0, paired_mono (fun _ _ q => q.at) q0, l0⟩, ⟨a1, w1, rfl, .inl e1, paired_mono (fun _ _ q => q.at) q1, l1⟩, ⟨a2, w2, rfl, .inl e2, paired_mono (fun _ _ q => q.at) q2, l2⟩, ?_⟩
        rcases ev with ⟨i, hb, bad⟩ | ⟨h, ok, k⟩
        · refine .inl ⟨i, hb, fun H' d b nd e => bad H' d (back b) (s03.free nd) e⟩
        · exact .inr ⟨h, ok, fun H' b kd => ⟨rfl, k H' x (back b) nx0 kd⟩⟩
end
end K02

namespace K02
open PySem PySem.Spec PyProof.Rows L2
open Cal EnuT Sqx Exn Keys Gvx

theorem Box.fresh {H : Hp} {p a : Addr} (b : Box H p) (n : H a = none) (e : a = p) : False := by
  obtain ⟨b0, b1, b2, hb, _⟩ := b
  rw [e, hb] at n
  cases n
theorem flat_nil : ∀ x, x ∈ ([] : List V) → flatOk x = true := fun _ h => nomatch h
theorem flat_cons {v : V} {vs : List V} (h : flatOk v = true) (t : ∀ x, x ∈ vs → flatOk x = true) : ∀ x, x ∈ v :: vs → flatOk x = true := fun x hx => by
  rcases List.mem_cons.mp hx with z | z
  · rw [z]; exact h
  · exact t x z
theorem fl_of {vs : List V} (h : ∀ x, x ∈ vs → flatOk x = true) : ∀ x, x ∈ vs → flatOk x = true := h
theorem TvAt.butp {H H' : Hp} {p : Addr} {x : V} {t : Tv} (b : But p H H') (np : x ≠ .ref p) (h : TvAt H x t) : TvAt H' x t := by
  cases t with
  | fl u => exact h
  | sq xs =>
    obtain ⟨a, e, q, r⟩ := h
    have ne : a ≠ p := fun z => np (by rw [e, z])
    exact ⟨a, e, q.imp (b _ _ ne) (b _ _ ne), r⟩
/-- a value, not the box, told as this says -/
def Wv (p : Addr) (G : Tv → Prop) (H : Hp) (x : V) : Prop := ∃ t, TvAt H x t ∧ x ≠ .ref p ∧ G t
theorem stay_box (p : Addr) : Stay (fun H => Box H p) := fun _ _ s b => b.same s
theorem stay_wv (p : Addr) (G : Tv → Prop) : StayV (Wv p G) := fun _ _ _ s ⟨t, h, n, g⟩ => ⟨t, h.same s, n, g⟩
theorem Wv.but {p : Addr} {G : Tv → Prop} {H H' : Hp} {x : V} (b : But p H H') (w : Wv p G H x) : Wv p G H' x := by
  obtain ⟨t, h, n, g⟩ := w
  exact ⟨t, h.butp b n, n, g⟩
theorem door_n {ps : List Str} {a : Str} {x y z : V} (h : nameOk a = false) : doorB ps (.sq [.str a, x, y, z]) = false := by
  show (nameOk a && _) = false
  rw [h]; rfl
theorem door_eq {ps : List Str} (n x z : V) : doorB ps (.sq [n, x, x, z]) = false := by
  show (nmB n && (inV x (endsV ps) && (inV x (endsV ps) && (!decide (x = x) && isBl z)))) = false
  simp
theorem door_b {ps : List Str} {n x y z : V} (h : isBl z = false) : doorB ps (.sq [n, x, y, z]) = false := by
  show (nmB n && (inV x (endsV ps) && (inV y (endsV ps) && (!decide (x = y) && isBl z)))) = false
  simp [h]
theorem door_1 {ps : List Str} {n x y z : V} (h : inV x (endsV ps) = false) : doorB ps (.sq [n, x, y, z]) = false := by
  show (nmB n && (inV x (endsV ps) && (inV y (endsV ps) && (!decide (x = y) && isBl z)))) = false
  simp [h]
theorem door_2 {ps : List Str} {n x y z : V} (h : inV y (endsV ps) = false) : doorB ps (.sq [n, x, y, z]) = false := by
  show (nmB n && (inV x (endsV ps) && (inV y (endsV ps) && (!decide (x = y) && isBl z)))) = false
  simp [h]
theorem no_end {ps : List Str} {x : Str} (sub : ∀ y, y ∈ ps → y ∈ N16) (h : x ∉ N16) (ne : x ≠ "out") : inV (.str x) (endsV ps) = false := by
  rw [ends_strs, inV_strs]
  refine decide_eq_false fun z => ?_
  rcases List.mem_append.mp z with z | z
  · exact h (sub x z)
  · exact ne (List.mem_singleton.mp z)
theorem inV_nonS : ∀ ps : List Str, inV .non (ps.map V.str) = false
  | [] => rfl
  | p :: ps => by
    have := inV_nonS ps
    simpa [inV, eqV] using this
theorem inV_non (ps : List Str) : inV .non (endsV ps) = false := by
  rw [ends_strs]
  exact inV_nonS _
theorem cell_n {ps : List Str} {a : Str} {x y : V} (h : nameOk a = false) : cellB ps (.sq [.str a, x, y]) = false := by
  show (nameOk a && _) = false
  rw [h]; rfl
theorem cell_b {ps : List Str} {n x y : V} (h : isBl y = false) : cellB ps (.sq [n, x, y]) = false := by
  show (nmB n && (inV x (ps.map V.str) && isBl y)) = false
  simp [h]
theorem cell_1 {ps : List Str} {n x y : V} (h : inV x (ps.map V.str) = false) : cellB ps (.sq [n, x, y]) = false := by
  show (nmB n && (inV x (ps.map V.str) && isBl y)) = false
  simp [h]
theorem no_part {ps : List Str} {x : Str} (sub : ∀ y, y ∈ ps → y ∈ N16) (h : x ∉ N16) : inV (.str x) (ps.map V.str) = false := by
  rw [inV_strs]
  exact decide_eq_false fun z => h (sub x z)
def OddW (B : List Str → Tv → Bool) (ps met : List Str) (t : Tv) : Prop := B ps t = false ∨ ∃ n, nameT t = some n ∧ n ∈ met
def spWrong (B : List Str → Tv → Bool) : Sp := fun vs H Q _ => ∃ (p a m : Addr) (ps met : List Str), vs = [.ref p, .ref a, .ref m] ∧ Box H p ∧ a ≠ p ∧ m ≠ p ∧ H a = some (.lst (ps.map V.str)) ∧ H m = some (.lst (met.map V.str)) ∧ 1 ≤ ps.length ∧ ps.length ≤ 100 ∧ 1 ≤ met.length ∧ met.length ≤ 100 ∧
  (∀ y, y ∈ ps → y ∈ N16) ∧ (∀ y, y ∈ met → y ∈ N16) ∧ ∀ x H', But p H H' → Box H' p → Wv p (OddW B ps met) H' x → Q x H'
theorem n16_flat {x : Str} (h : x ∈ N16) : flatOk (.str x) = true := by
  have : N16.all (fun x => flatOk (.str x)) = true := by decide +kernel
  exact List.all_eq_true.mp this x h
section
variable {P : Program} {w : World} {K : W.Frag} {mg : Str → Option Value} {base : Heap}
abbrev NWD : List Str := ["box", "parts", "met", "part", "some"]
theorem scWD : FnScope NWD ["box", "parts", "met"] (defScope sWrongDoor) := ⟨rfl, rfl, rfl, by decide +kernel, rfl, by decide +kernel, by decide +kernel⟩
theorem ok__law_wrong_door {f : Addr} {fd : FuncData} (F : Fun K "_law_wrong_door" "_law_wrong_door" sWrongDoor f fd) (Pk : Callee P w K mg base "_law_pick" 2 ["box", "some"] spPick) : FnOk P w K mg base CX0 3 f fd ["box", "parts", "met"] (spWrong doorB) := by
  refine F.ok scWD (fun vs H Q E h => ?_) (fun cdv A outer s H vs Q E hr h => ?_)
  · obtain ⟨p, a, m, ps, met, rfl, _⟩ := h
    rfl
  · obtain ⟨p, a, m, ps, met, rfl, hB, ap, mp, ha, hm, p1, p100, m1, m100, sub, subm, k⟩ := h
    refine ⟨_, pss_cons (ps_set (i := 3) scWD.nd rfl (Or.inl rfl) (pe_callee Pk hr rfl (pa_cons (pv 0) (pa_cons (pv 1) pa_nil))))
      (pss_cons (ps_set (i := 4) scWD.nd rfl (Or.inl rfl) (pe_lst (pa_cons pe_non (pa_cons pe_int (pa_cons pe_str (pa_cons (pe_tup (pa_cons pe_str (pa_cons pe_str (pa_cons (pv 3) pa_nil)))) (pa_cons (pe_tup (pa_cons pe_str (pa_cons pe_str (pa_cons (pv 3) (pa_cons pe_bl (pa_cons pe_bl pa_nil)))))) (pa_cons (pe_tup (pa_cons pe_str (pa_cons pe_str (pa_cons (pv 3) (pa_cons pe_bl pa_nil))))) (pa_cons (pe_tup (pa_cons pe_str (pa_cons pe_str (pa_cons (pv 3) (pa_cons pe_bl pa_nil))))) pa_nil)))))))))
      (pss_cons (ps_set (i := 4) scWD.nd rfl (Or.inl rfl) (pe_op op_cat (pv 4) (pe_lst (pa_cons (pe_tup (pa_cons pe_str (pa_cons pe_str (pa_cons (pv 3) (pa_cons pe_bl pa_nil))))) (pa_cons (pe_tup (pa_cons pe_str (pa_cons pe_str (pa_cons (pv 3) (pa_cons pe_bl pa_nil))))) (pa_cons (pe_tup (pa_cons pe_str (pa_cons (pv 3) (pa_cons (pv 3) (pa_cons pe_bl pa_nil))))) (pa_cons (pe_tup (pa_cons pe_str (pa_cons pe_str (pa_cons pe_str (pa_cons pe_bl pa_nil))))) pa_nil)))))))
      (pss_cons (ps_set (i := 4) scWD.nd rfl (Or.inl rfl) (pe_op op_cat (pv 4) (pe_lst (pa_cons (pe_tup (pa_cons pe_str (pa_cons pe_str (pa_cons (pv 3) (pa_cons pe_int pa_nil))))) (pa_cons (pe_tup (pa_cons pe_str (pa_cons pe_str (pa_cons (pv 3) (pa_cons pe_non pa_nil))))) (pa_cons (pe_tup (pa_cons pe_str (pa_cons pe_str (pa_cons (pv 3) (pa_cons pe_bl pa_nil))))) (pa_cons (pe_tup (pa_cons pe_str (pa_cons pe_str (pa_cons pe_non (pa_cons pe_bl pa_nil))))) (pa_cons (pe_tup (pa_cons pe_int (pa_cons pe_str (pa_cons (pv 3) (pa_cons pe_bl pa_nil))))) pa_nil))))))))
      (pss_one (ps_ret (pe_callee Pk hr rfl (pa_cons (pv 0) (pa_cons (pe_op op_cat (pv 4) (pe_op op_rep (pe_lst (pa_cons (pe_tup (pa_cons (pe_callee Pk hr rfl (pa_cons (pv 0) (pa_cons (pv 2) pa_nil))) (pa_cons pe_str (pa_cons (pv 3) (pa_cons pe_bl pa_nil))))) pa_nil)) pe_int)) pa_nil)))))))), ?_⟩
    have line : (10000 : Nat) ≤ sizeLine := by decide
    refine ⟨_, rfl, _, rfl, p, a, _, rfl, Ne.symm ap, hB, ha, by rw [List.length_map]; omega, by rw [List.length_map]; omega, fun v1 H1 hv1 b1 x1 => ?_⟩
    obtain ⟨q, hq, rfl⟩ := List.mem_map.mp hv1
    have fp := n16_flat (sub q hq)
    have sI := stay_box p
    have sW := stay_wv p (OddW doorB ps met)
    refine seq_set (lst_gv (n := 7) sW (gvs_cons sI sW (gv_c (v := .non) (fun H i => ⟨.fl (.non), ⟨rfl, by decide +kernel⟩, (fun z => nomatch z), .inl rfl⟩)) (gvs_cons sI sW (gv_c (v := .int 7) (fun H i => ⟨.fl (.int 7), ⟨rfl, by decide +kernel⟩, (fun z => nomatch z), .inl rfl⟩)) (gvs_cons sI sW (gv_c (v := .str "door") (fun H i => ⟨.fl (.str "door"), ⟨rfl, by decide +kernel⟩, (fun z => nomatch z), .inl rfl⟩)) (gvs_cons sI sW (gv_tup (vals := [.str "n", .str "out", .str q]) (gx_c (gx_c (gx_v gx_nil rfl))) (by show 3 ≤ sizeLine; decide) (fun H a i n => ⟨.sq [.str "n", .str "out", .str q], ⟨a, rfl, .inr upd_same, by show 3 ≤ 20; decide, fl_of (flat_cons (by decide +kernel) (flat_cons (by decide +kernel) (flat_cons fp flat_nil)))⟩, fun z => i.fresh n (by injection z), .inl rfl⟩)) (gvs_cons sI sW (gv_tup (vals := [.str "n", .str "out", .str q, .bl true, .bl true]) (gx_c (gx_c (gx_v (gx_c (gx_c gx_nil)) rfl))) (by show 5 ≤ sizeLine; decide) (fun H a i n => ⟨.sq [.str "n", .str "out", .str q, .bl true, .bl true], ⟨a, rfl, .inr upd_same, by show 5 ≤ 20; decide, fl_of (flat_cons (by decide +kernel) (flat_cons (by decide +kernel) (flat_cons fp (flat_cons (by decide +kernel) (flat_cons (by decide +kernel) flat_nil)))))⟩, fun z => i.fresh n (by injection z), .inl rfl⟩)) (gvs_cons sI sW (gv_tup (vals := [.str "N", .str "out", .str q, .bl true]) (gx_c (gx_c (gx_v (gx_c gx_nil) rfl))) (by show 4 ≤ sizeLine; decide) (fun H a i n => ⟨.sq [.str "N", .str "out", .str q, .bl true], ⟨a, rfl, .inr upd_same, by show 4 ≤ 20; decide, fl_of (flat_cons (by decide +kernel) (flat_cons (by decide +kernel) (flat_cons fp (flat_cons (by decide +kernel) flat_nil))))⟩, fun z => i.fresh n (by injection z), .inl (door_n (by decide +kernel))⟩)) (gvs_cons sI sW (gv_tup (vals := [.str "out", .str "out", .str q, .bl true]) (gx_c (gx_c (gx_v (gx_c gx_nil) rfl))) (by show 4 ≤ sizeLine; decide) (fun H a i n => ⟨.sq [.str "out", .str "out", .str q, .bl true], ⟨a, rfl, .inr upd_same, by show 4 ≤ 20; decide, fl_of (flat_cons (by decide +kernel) (flat_cons (by decide +kernel) (flat_cons fp (flat_cons (by decide +kernel) flat_nil))))⟩, fun z => i.fresh n (by injection z), .inl (door_n (by decide +kernel))⟩)) gvs_nil))))))) x1 (by show 7 ≤ sizeLine; decide) fun xs0 H2 l0 s2 nl0 hl0 len0 all0 => ?_)
    have b2 := b1.trans (But.of_same s2)
    have x2 := x1.same s2
    refine seq_set (cat_gv (n := 4) (l := l0) sW rfl hl0 all0 (gvs_cons sI sW (gv_tup (vals := [.str "", .str "out", .str q, .bl true]) (gx_c (gx_c (gx_v (gx_c gx_nil) rfl))) (by show 4 ≤ sizeLine; decide) (fun H a i n => ⟨.sq [.str "", .str "out", .str q, .bl true], ⟨a, rfl, .inr upd_same, by show 4 ≤ 20; decide, fl_of (flat_cons (by decide +kernel) (flat_cons (by decide +kernel) (flat_cons fp (flat_cons (by decide +kernel) flat_nil))))⟩, fun z => i.fresh n (by injection z), .inl (door_n (by decide +kernel))⟩)) (gvs_cons sI sW (gv_tup (vals := [.str "nnnnnnnnn", .str "out", .str q, .bl true]) (gx_c (gx_c (gx_v (gx_c gx_nil) rfl))) (by show 4 ≤ sizeLine; decide) (fun H a i n => ⟨.sq [.str "nnnnnnnnn", .str "out", .str q, .bl true], ⟨a, rfl, .inr upd_same, by show 4 ≤ 20; decide, fl_of (flat_cons (by decide +kernel) (flat_cons (by decide +kernel) (flat_cons fp (flat_cons (by decide +kernel) flat_nil))))⟩, fun z => i.fresh n (by injection z), .inl (door_n (by decide +kernel))⟩)) (gvs_cons sI sW (gv_tup (vals := [.str "n", .str q, .str q, .bl true]) (gx_c (gx_v (gx_v (gx_c gx_nil) rfl) rfl)) (by show 4 ≤ sizeLine; decide) (fun H a i n => ⟨.sq [.str "n", .str q, .str q, .bl true], ⟨a, rfl, .inr upd_same, by show 4 ≤ 20; decide, fl_of (flat_cons (by decide +kernel) (flat_cons fp (flat_cons fp (flat_cons (by decide +kernel) flat_nil))))⟩, fun z => i.fresh n (by injection z), .inl (door_eq _ _ _)⟩)) (gvs_cons sI sW (gv_tup (vals := [.str "n", .str "out", .str "out", .bl false]) (gx_c (gx_c (gx_c (gx_c gx_nil)))) (by show 4 ≤ sizeLine; decide) (fun H a i n => ⟨.sq [.str "n", .str "out", .str "out", .bl false], ⟨a, rfl, .inr upd_same, by show 4 ≤ 20; decide, fl_of (flat_cons (by decide +kernel) (flat_cons (by decide +kernel) (flat_cons (by decide +kernel) (flat_cons (by decide +kernel) flat_nil))))⟩, fun z => i.fresh n (by injection z), .inl (door_eq _ _ _)⟩)) gvs_nil)))) x2 (by omega) fun xs1 H3 l1 s3 nl1 hl1 len1 all1 => ?_)
    have b3 := b2.trans (But.of_same s3)
    have x3 := x2.same s3
    refine seq_set (cat_gv (n := 5) (l := l1) sW rfl hl1 all1 (gvs_cons sI sW (gv_tup (vals := [.str "n", .str "out", .str q, .int 1]) (gx_c (gx_c (gx_v (gx_c gx_nil) rfl))) (by show 4 ≤ sizeLine; decide) (fun H a i n => ⟨.sq [.str "n", .str "out", .str q, .int 1], ⟨a, rfl, .inr upd_same, by show 4 ≤ 20; decide, fl_of (flat_cons (by decide +kernel) (flat_cons (by decide +kernel) (flat_cons fp (flat_cons (by decide +kernel) flat_nil))))⟩, fun z => i.fresh n (by injection z), .inl (door_b rfl)⟩)) (gvs_cons sI sW (gv_tup (vals := [.str "n", .str "out", .str q, .non]) (gx_c (gx_c (gx_v (gx_c gx_nil) rfl))) (by show 4 ≤ sizeLine; decide) (fun H a i n => ⟨.sq [.str "n", .str "out", .str q, .non], ⟨a, rfl, .inr upd_same, by show 4 ≤ 20; decide, fl_of (flat_cons (by decide +kernel) (flat_cons (by decide +kernel) (flat_cons fp (flat_cons (by decide +kernel) flat_nil))))⟩, fun z => i.fresh n (by injection z), .inl (door_b rfl)⟩)) (gvs_cons sI sW (gv_tup (vals := [.str "n", .str "none", .str q, .bl true]) (gx_c (gx_c (gx_v (gx_c gx_nil) rfl))) (by show 4 ≤ sizeLine; decide) (fun H a i n => ⟨.sq [.str "n", .str "none", .str q, .bl true], ⟨a, rfl, .inr upd_same, by show 4 ≤ 20; decide, fl_of (flat_cons (by decide +kernel) (flat_cons (by decide +kernel) (flat_cons fp (flat_cons (by decide +kernel) flat_nil))))⟩, fun z => i.fresh n (by injection z), .inl (door_1 (no_end sub (by decide +kernel) (by decide +kernel)))⟩)) (gvs_cons sI sW (gv_tup (vals := [.str "n", .str "out", .non, .bl true]) (gx_c (gx_c (gx_c (gx_c gx_nil)))) (by show 4 ≤ sizeLine; decide) (fun H a i n => ⟨.sq [.str "n", .str "out", .non, .bl true], ⟨a, rfl, .inr upd_same, by show 4 ≤ 20; decide, fl_of (flat_cons (by decide +kernel) (flat_cons (by decide +kernel) (flat_cons (by decide +kernel) (flat_cons (by decide +kernel) flat_nil))))⟩, fun z => i.fresh n (by injection z), .inl (door_2 (inV_non _))⟩)) (gvs_cons sI sW (gv_tup (vals := [.int 3, .str "out", .str q, .bl true]) (gx_c (gx_c (gx_v (gx_c gx_nil) rfl))) (by show 4 ≤ sizeLine; decide) (fun H a i n => ⟨.sq [.int 3, .str "out", .str q, .bl true], ⟨a, rfl, .inr upd_same, by show 4 ≤ 20; decide, fl_of (flat_cons (by decide +kernel) (flat_cons (by decide +kernel) (flat_cons fp (flat_cons (by decide +kernel) flat_nil))))⟩, fun z => i.fresh n (by injection z), .inl rfl⟩)) gvs_nil))))) x3 (by omega) fun xs2 H4 l2 s4 nl2 hl2 len2 all2 => ?_)
    have b4 := b3.trans (But.of_same s4)
    have x4 := x3.same s4
    have lp : l2 ≠ p := fun z => x3.fresh nl2 z
    refine ret_of ⟨_, rfl, _, rfl, _, rfl, _, rfl, p, m, _, rfl, Ne.symm mp, x4, b4 _ _ mp hm, by rw [List.length_map]; omega, by rw [List.length_map]; omega, fun v2 Ha hv2 ba xa => ?_⟩
    obtain ⟨nm, hnm, rfl⟩ := List.mem_map.mp hv2
    have fn := n16_flat (subm nm hnm)
    have alla : ∀ x, x ∈ xs2 → Wv p (OddW doorB ps met) Ha x := fun x hx => (all2 x hx).but ba
    have hla := ba _ _ lp hl2
    refine ⟨_, rfl, by show 4 ≤ sizeLine; decide, fun t nt => ⟨by show 1 ≤ sizeLine; decide, fun u nu => ⟨u, 4, [.ref t], rfl, rfl, upd_same, by decide, by decide, by show 4 ≤ sizeLine; decide, fun r nr => ?_⟩⟩⟩
    have sb := ((same_upd nt).trans (same_upd nu)).trans (same_upd (o := .lst (List.replicate (4 : Int).toNat [V.ref t]).flatten) nr)
    refine ⟨_, _, _, _, rfl, rfl, sb _ _ hla, upd_same, by rw [len2]; show _ + 4 ≤ sizeLine; omega, fun z nz => ?_⟩
    have sc := sb.trans (same_upd (o := .lst (xs2 ++ (List.replicate (4 : Int).toNat [V.ref t]).flatten)) nz)
    have zp : z ≠ p := fun e => (xa.same sb).fresh nz e
    have tH : upd (upd (upd (upd Ha t (.tup [.str nm, .str "out", .str q, .bl true])) u (.lst [.ref t])) r (.lst (List.replicate (4 : Int).toNat [V.ref t]).flatten)) z (.lst (xs2 ++ (List.replicate (4 : Int).toNat [V.ref t]).flatten)) t = some (.tup [.str nm, .str "out", .str q, .bl true]) := by
      exact (((same_upd nu).trans (same_upd nr)).trans (same_upd nz)) _ _ upd_same
    refine ⟨p, z, _, rfl, Ne.symm zp, xa.same sc, upd_same, by rw [List.length_append]; show 1 ≤ _ + 4; omega, by rw [List.length_append, len2]; show _ + 4 ≤ 1000; omega, fun x H' hx b' x' => ?_⟩
    refine k x H' (((b4.trans ba).trans (But.of_same sc)).trans b') x' (Wv.but b' ?_)
    rcases List.mem_append.mp hx with y | y
    · exact sW _ _ _ sc (alla x y)
    · have : x = V.ref t := by simpa [List.replicate] using y
      rw [this]
      exact ⟨.sq [.str nm, .str "out", .str q, .bl true], ⟨t, rfl, .inr tH, by show 4 ≤ 20; decide, fl_of (flat_cons fn (flat_cons (by decide +kernel) (flat_cons fp (flat_cons (by decide +kernel) flat_nil))))⟩, fun e => xa.fresh nt (by injection e), .inr ⟨nm, rfl, hnm⟩⟩
theorem scWC : FnScope NWD ["box", "parts", "met"] (defScope sWrongCell) := ⟨rfl, rfl, rfl, by decide +kernel, rfl, by decide +kernel, by decide +kernel⟩
theorem ok__law_wrong_cell {f : Addr} {fd : FuncData} (F : Fun K "_law_wrong_cell" "_law_wrong_cell" sWrongCell f fd) (Pk : Callee P w K mg base "_law_pick" 2 ["box", "some"] spPick) : FnOk P w K mg base CX0 3 f fd ["box", "parts", "met"] (spWrong cellB) := by
  refine F.ok scWC (fun vs H Q E h => ?_) (fun cdv A outer s H vs Q E hr h => ?_)
  · obtain ⟨p, a, m, ps, met, rfl, _⟩ := h
    rfl
  · obtain ⟨p, a, m, ps, met, rfl, hB, ap, mp, ha, hm, p1, p100, m1, m100, sub, subm, k⟩ := h
    refine ⟨_, pss_cons (ps_set (i := 3) scWC.nd rfl (Or.inl rfl) (pe_callee Pk hr rfl (pa_cons (pv 0) (pa_cons (pv 1) pa_nil))))
      (pss_cons (ps_set (i := 4) scWC.nd rfl (Or.inl rfl) (pe_lst (pa_cons pe_non (pa_cons pe_str (pa_cons (pe_tup (pa_cons pe_str (pa_cons (pv 3) pa_nil))) (pa_cons (pe_tup (pa_cons pe_str (pa_cons (pv 3) (pa_cons pe_bl (pa_cons pe_int pa_nil))))) (pa_cons (pe_tup (pa_cons pe_str (pa_cons pe_str (pa_cons pe_bl pa_nil)))) (pa_cons (pe_tup (pa_cons pe_str (pa_cons pe_str (pa_cons pe_bl pa_nil)))) (pa_cons (pe_tup (pa_cons pe_str (pa_cons (pv 3) (pa_cons pe_int pa_nil)))) (pa_cons (pe_tup (pa_cons pe_str (pa_cons pe_non (pa_cons pe_bl pa_nil)))) pa_nil))))))))))
      (pss_cons (ps_set (i := 4) scWC.nd rfl (Or.inl rfl) (pe_op op_cat (pv 4) (pe_lst (pa_cons (pe_tup (pa_cons pe_str (pa_cons (pv 3) (pa_cons pe_bl pa_nil)))) (pa_cons (pe_tup (pa_cons pe_str (pa_cons (pv 3) (pa_cons pe_bl pa_nil)))) (pa_cons (pe_tup (pa_cons pe_non (pa_cons (pv 3) (pa_cons pe_bl pa_nil)))) (pa_cons (pe_lst (pa_cons pe_str (pa_cons (pv 3) (pa_cons pe_str pa_nil)))) pa_nil)))))))
      (pss_one (ps_ret (pe_callee Pk hr rfl (pa_cons (pv 0) (pa_cons (pe_op op_cat (pv 4) (pe_op op_rep (pe_lst (pa_cons (pe_tup (pa_cons (pe_callee Pk hr rfl (pa_cons (pv 0) (pa_cons (pv 2) pa_nil))) (pa_cons (pv 3) (pa_cons pe_bl pa_nil)))) pa_nil)) pe_int)) pa_nil))))))), ?_⟩
    have line : (10000 : Nat) ≤ sizeLine := by decide
    refine ⟨_, rfl, _, rfl, p, a, _, rfl, Ne.symm ap, hB, ha, by rw [List.length_map]; omega, by rw [List.length_map]; omega, fun v1 H1 hv1 b1 x1 => ?_⟩
    obtain ⟨q, hq, rfl⟩ := List.mem_map.mp hv1
    have fp := n16_flat (sub q hq)
    have sI := stay_box p
    have sW := stay_wv p (OddW cellB ps met)
    refine seq_set (lst_gv (n := 8) sW (gvs_cons sI sW (gv_c (v := .non) (fun H i => ⟨.fl (.non), ⟨rfl, by decide +kernel⟩, (fun z => nomatch z), .inl rfl⟩)) (gvs_cons sI sW (gv_c (v := .str "cell") (fun H i => ⟨.fl (.str "cell"), ⟨rfl, by decide +kernel⟩, (fun z => nomatch z), .inl rfl⟩)) (gvs_cons sI sW (gv_tup (vals := [.str "n", .str q]) (gx_c (gx_v gx_nil rfl)) (by show 2 ≤ sizeLine; decide) (fun H a i n => ⟨.sq [.str "n", .str q], ⟨a, rfl, .inr upd_same, by show 2 ≤ 20; decide, fl_of (flat_cons (by decide +kernel) (flat_cons fp flat_nil))⟩, fun z => i.fresh n (by injection z), .inl rfl⟩)) (gvs_cons sI sW (gv_tup (vals := [.str "n", .str q, .bl true, .int 0]) (gx_c (gx_v (gx_c (gx_c gx_nil)) rfl)) (by show 4 ≤ sizeLine; decide) (fun H a i n => ⟨.sq [.str "n", .str q, .bl true, .int 0], ⟨a, rfl, .inr upd_same, by show 4 ≤ 20; decide, fl_of (flat_cons (by decide +kernel) (flat_cons fp (flat_cons (by decide +kernel) (flat_cons (by decide +kernel) flat_nil))))⟩, fun z => i.fresh n (by injection z), .inl rfl⟩)) (gvs_cons sI sW (gv_tup (vals := [.str "n", .str "out", .bl true]) (gx_c (gx_c (gx_c gx_nil))) (by show 3 ≤ sizeLine; decide) (fun H a i n => ⟨.sq [.str "n", .str "out", .bl true], ⟨a, rfl, .inr upd_same, by show 3 ≤ 20; decide, fl_of (flat_cons (by decide +kernel) (flat_cons (by decide +kernel) (flat_cons (by decide +kernel) flat_nil)))⟩, fun z => i.fresh n (by injection z), .inl (cell_1 (no_part sub (by decide +kernel)))⟩)) (gvs_cons sI sW (gv_tup (vals := [.str "n", .str "none", .bl false]) (gx_c (gx_c (gx_c gx_nil))) (by show 3 ≤ sizeLine; decide) (fun H a i n => ⟨.sq [.str "n", .str "none", .bl false], ⟨a, rfl, .inr upd_same, by show 3 ≤ 20; decide, fl_of (flat_cons (by decide +kernel) (flat_cons (by decide +kernel) (flat_cons (by decide +kernel) flat_nil)))⟩, fun z => i.fresh n (by injection z), .inl (cell_1 (no_part sub (by decide +kernel)))⟩)) (gvs_cons sI sW (gv_tup (vals := [.str "n", .str q, .int 0]) (gx_c (gx_v (gx_c gx_nil) rfl)) (by show 3 ≤ sizeLine; decide) (fun H a i n => ⟨.sq [.str "n", .str q, .int 0], ⟨a, rfl, .inr upd_same, by show 3 ≤ 20; decide, fl_of (flat_cons (by decide +kernel) (flat_cons fp (flat_cons (by decide +kernel) flat_nil)))⟩, fun z => i.fresh n (by injection z), .inl (cell_b rfl)⟩)) (gvs_cons sI sW (gv_tup (vals := [.str "n", .non, .bl true]) (gx_c (gx_c (gx_c gx_nil))) (by show 3 ≤ sizeLine; decide) (fun H a i n => ⟨.sq [.str "n", .non, .bl true], ⟨a, rfl, .inr upd_same, by show 3 ≤ 20; decide, fl_of (flat_cons (by decide +kernel) (flat_cons (by decide +kernel) (flat_cons (by decide +kernel) flat_nil)))⟩, fun z => i.fresh n (by injection z), .inl (cell_1 (inV_nonS _))⟩)) gvs_nil)))))))) x1 (by show 8 ≤ sizeLine; decide) fun xs0 H2 l0 s2 nl0 hl0 len0 all0 => ?_)
    have b2 := b1.trans (But.of_same s2)
    have x2 := x1.same s2
    refine seq_set (cat_gv (n := 4) (l := l0) sW rfl hl0 all0 (gvs_cons sI sW (gv_tup (vals := [.str "n2", .str q, .bl true]) (gx_c (gx_v (gx_c gx_nil) rfl)) (by show 3 ≤ sizeLine; decide) (fun H a i n => ⟨.sq [.str "n2", .str q, .bl true], ⟨a, rfl, .inr upd_same, by show 3 ≤ 20; decide, fl_of (flat_cons (by decide +kernel) (flat_cons fp (flat_cons (by decide +kernel) flat_nil)))⟩, fun z => i.fresh n (by injection z), .inl (cell_n (by decide +kernel))⟩)) (gvs_cons sI sW (gv_tup (vals := [.str "out", .str q, .bl true]) (gx_c (gx_v (gx_c gx_nil) rfl)) (by show 3 ≤ sizeLine; decide) (fun H a i n => ⟨.sq [.str "out", .str q, .bl true], ⟨a, rfl, .inr upd_same, by show 3 ≤ 20; decide, fl_of (flat_cons (by decide +kernel) (flat_cons fp (flat_cons (by decide +kernel) flat_nil)))⟩, fun z => i.fresh n (by injection z), .inl (cell_n (by decide +kernel))⟩)) (gvs_cons sI sW (gv_tup (vals := [.non, .str q, .bl false]) (gx_c (gx_v (gx_c gx_nil) rfl)) (by show 3 ≤ sizeLine; decide) (fun H a i n => ⟨.sq [.non, .str q, .bl false], ⟨a, rfl, .inr upd_same, by show 3 ≤ 20; decide, fl_of (flat_cons (by decide +kernel) (flat_cons fp (flat_cons (by decide +kernel) flat_nil)))⟩, fun z => i.fresh n (by injection z), .inl rfl⟩)) (gvs_cons sI sW (gv_lst (vals := [.str "n", .str q, .str "kept"]) (gx_c (gx_v (gx_c gx_nil) rfl)) (by show 3 ≤ sizeLine; decide) (fun H a i n => ⟨.sq [.str "n", .str q, .str "kept"], ⟨a, rfl, .inl upd_same, by show 3 ≤ 20; decide, fl_of (flat_cons (by decide +kernel) (flat_cons fp (flat_cons (by decide +kernel) flat_nil)))⟩, fun z => i.fresh n (by injection z), .inl (cell_b rfl)⟩)) gvs_nil)))) x2 (by omega) fun xs1 H3 l1 s3 nl1 hl1 len1 all1 => ?_)
    have b3 := b2.trans (But.of_same s3)
    have x3 := x2.same s3
    have lp : l1 ≠ p := fun z => x2.fresh nl1 z
    refine ret_of ⟨_, rfl, _, rfl, _, rfl, _, rfl, p, m, _, rfl, Ne.symm mp, x3, b3 _ _ mp hm, by rw [List.length_map]; omega, by rw [List.length_map]; omega, fun v2 Ha hv2 ba xa => ?_⟩
    obtain ⟨nm, hnm, rfl⟩ := List.mem_map.mp hv2
    have fn := n16_flat (subm nm hnm)
    have alla : ∀ x, x ∈ xs1 → Wv p (OddW cellB ps met) Ha x := fun x hx => (all1 x hx).but ba
    have hla := ba _ _ lp hl1
    refine ⟨_, rfl, by show 3 ≤ sizeLine; decide, fun t nt => ⟨by show 1 ≤ sizeLine; decide, fun u nu => ⟨u, 4, [.ref t], rfl, rfl, upd_same, by decide, by decide, by show 4 ≤ sizeLine; decide, fun r nr => ?_⟩⟩⟩
    have sb := ((same_upd nt).trans (same_upd nu)).trans (same_upd (o := .lst (List.replicate (4 : Int).toNat [V.ref t]).flatten) nr)
    refine ⟨_, _, _, _, rfl, rfl, sb _ _ hla, upd_same, by rw [len1]; show _ + 4 ≤ sizeLine; omega, fun z nz => ?_⟩
    have sc := sb.trans (same_upd (o := .lst (xs1 ++ (List.replicate (4 : Int).toNat [V.ref t]).flatten)) nz)
    have zp : z ≠ p := fun e => (xa.same sb).fresh nz e
    have tH : upd (upd (upd (upd Ha t (.tup [.str nm, .str q, .bl false])) u (.lst [.ref t])) r (.lst (List.replicate (4 : Int).toNat [V.ref t]).flatten)) z (.lst (xs1 ++ (List.replicate (4 : Int).toNat [V.ref t]).flatten)) t = some (.tup [.str nm, .str q, .bl false]) := by
      exact (((same_upd nu).trans (same_upd nr)).trans (same_upd nz)) _ _ upd_same
    refine ⟨p, z, _, rfl, Ne.symm zp, xa.same sc, upd_same, by rw [List.length_append]; show 1 ≤ _ + 4; omega, by rw [List.length_append, len1]; show _ + 4 ≤ 1000; omega, fun x H' hx b' x' => ?_⟩
    refine k x H' (((b3.trans ba).trans (But.of_same sc)).trans b') x' (Wv.but b' ?_)
    rcases List.mem_append.mp hx with y | y
    · exact sW _ _ _ sc (alla x y)
    · have : x = V.ref t := by simpa [List.replicate] using y
      rw [this]
      exact ⟨.sq [.str nm, .str q, .bl false], ⟨t, rfl, .inr tH, by show 3 ≤ 20; decide, fl_of (flat_cons fn (flat_cons fp (flat_cons (by decide +kernel) flat_nil)))⟩, fun e => xa.fresh nt (by injection e), .inr ⟨nm, rfl, hnm⟩⟩
end
end K02

namespace K02
open PySem PySem.Spec PyProof.Rows L2
open Cal EnuT Sqx Exn Keys Gvx

theorem HsAt.but {H H' : Hp} {h : Hs} {a b c p : Addr} (x : HsAt H h a b c) (bt : But p H H') (bx : Box H p) : HsAt H' h a b c := by
  obtain ⟨pa, ⟨vd, hd, pd⟩, vc, hc, pc⟩ := x
  have nt : ∀ {t xs}, H t = some (.tup xs) → t ≠ p := fun {t xs} e => bx.ne e (fun _ _ _ z => by cases z)
  exact ⟨bt _ _ (bx.ne pa (strs_box _)) pa, ⟨vd, bt _ _ (bx.ne hd (doors_box pd)) hd, paired_mono (fun _ _ r => r.mono fun t e => bt _ _ (nt e) e) pd⟩, vc, bt _ _ (bx.ne hc (cells_box pc)) hc, paired_mono (fun _ _ r => r.mono fun t e => bt _ _ (nt e) e) pc⟩
theorem HsAt.same {H H' : Hp} {h : Hs} {a b c : Addr} (x : HsAt H h a b c) (s : Same H H') : HsAt H' h a b c := by
  obtain ⟨pa, ⟨vd, hd, pd⟩, vc, hc, pc⟩ := x
  exact ⟨s _ _ pa, ⟨vd, s _ _ hd, paired_mono (fun _ _ r => r.mono fun t e => s _ _ e) pd⟩, vc, s _ _ hc, paired_mono (fun _ _ r => r.mono fun t e => s _ _ e) pc⟩
theorem n16_ok {x : Str} (h : x ∈ N16) : nameOk x = true := by
  have : N16.all nameOk = true := by decide +kernel
  exact List.all_eq_true.mp this x h
theorem Good.toH {h : Hs} (g : Good h) : GoodH h where
  p1 := g.p1
  p8 := by have := g.p4; omega
  d12 := by have := g.d5; omega
  c8 := by have := g.c3; omega
  nodup := g.nodup
  name := fun x hx => n16_ok (g.sub x hx)
  ends := g.ends
  cin := g.cin
theorem good_parts {h : Hs} (g : Good h) : ∀ x, x ∈ h.parts → x ∈ N16 := fun x hx => g.sub x (List.mem_append_left _ hx)
theorem good_doors {h : Hs} (g : Good h) : ∀ d, d ∈ h.doors → d.n ∈ N16 := fun d hd => g.sub _ (List.mem_append_right _ (List.mem_append_left _ (List.mem_map.mpr ⟨d, hd, rfl⟩)))
theorem good_cells {h : Hs} (g : Good h) : ∀ d, d ∈ h.cells → d.n ∈ N16 := fun d hd => g.sub _ (List.mem_append_right _ (List.mem_append_right _ (List.mem_map.mpr ⟨d, hd, rfl⟩)))
theorem paired_strs {H : Hp} : ∀ {ps : List Str}, (∀ x, x ∈ ps → flatOk (.str x) = true) → Paired (TvAt H) (ps.map V.str) (ps.map strT)
  | [], _ => .nil
  | p :: ps, h => .cons ⟨rfl, h p (List.mem_cons_self ..)⟩ (paired_strs fun x hx => h x (List.mem_cons_of_mem _ hx))
theorem av_strs {H : Hp} {a : Addr} {ps : List Str} (e : SeqAt H a (ps.map V.str)) (h : ∀ x, x ∈ ps → flatOk (.str x) = true) (l : ps.length ≤ 20) : AvAt H (.ref a) (.sq (ps.map strT)) :=
  ⟨a, _, rfl, e, paired_strs h, by rw [List.length_map]; exact l⟩
theorem end_flat {h : Hs} (g : Good h) {x : Str} (e : EndIn h.parts x) : flatOk (.str x) = true := by
  rcases e with rfl | e
  · decide +kernel
  · exact n16_flat (good_parts g x e)
theorem door_flat {h : Hs} (g : Good h) {d : Door} (hd : d ∈ h.doors) : ∀ x, x ∈ dvs d → flatOk x = true := by
  obtain ⟨e1, e2, _⟩ := g.ends d hd
  exact flat_cons (n16_flat (good_doors g d hd)) (flat_cons (end_flat g e1) (flat_cons (end_flat g e2) (flat_cons rfl flat_nil)))
theorem cell_flat {h : Hs} (g : Good h) {d : Cell} (hd : d ∈ h.cells) : ∀ x, x ∈ cvs d → flatOk x = true :=
  flat_cons (n16_flat (good_cells g d hd)) (flat_cons (n16_flat (good_parts g _ (g.cin d hd))) (flat_cons rfl flat_nil))
theorem paired_map' {α β γ : Type} {R : α → β → Prop} {S : α → γ → Prop} (f : β → γ) : ∀ {xs : List α} {ys : List β}, Paired R xs ys → (∀ a b, b ∈ ys → R a b → S a (f b)) → Paired S xs (ys.map f)
  | _, _, .nil, _ => .nil
  | _, _, .cons r t, k => .cons (k _ _ (List.mem_cons_self ..) r) (paired_map' f t fun a b hb => k a b (List.mem_cons_of_mem _ hb))
theorem tvs_doors {H : Hp} {h : Hs} (g : Good h) {vs : List V} (p : Paired (DoorAt H) vs h.doors) : Paired (TvAt H) vs (h.doors.map dT) := paired_map' dT p fun v d hd ⟨t, e, et⟩ => ⟨t, e, .inr et, by show 4 ≤ 20; decide, door_flat g hd⟩
theorem tvs_cells {H : Hp} {h : Hs} (g : Good h) {vs : List V} (p : Paired (CellAt H) vs h.cells) : Paired (TvAt H) vs (h.cells.map cT) := paired_map' cT p fun v d hd ⟨t, e, et⟩ => ⟨t, e, .inr et, by show 3 ≤ 20; decide, cell_flat g hd⟩
theorem av_doors {H : Hp} {h : Hs} {a b c : Addr} (g : Good h) (x : HsAt H h a b c) : AvAt H (.ref b) (.sq (h.doors.map dT)) := by
  obtain ⟨vd, hd, pd⟩ := x.da
  exact ⟨b, vd, rfl, .inl hd, tvs_doors g pd, by rw [List.length_map]; have := g.d5; omega⟩
theorem av_cells {H : Hp} {h : Hs} {a b c : Addr} (g : Good h) (x : HsAt H h a b c) : AvAt H (.ref c) (.sq (h.cells.map cT)) := by
  obtain ⟨vd, hd, pd⟩ := x.ca
  exact ⟨c, vd, rfl, .inl hd, tvs_cells g pd, by rw [List.length_map]; have := g.c3; omega⟩
theorem av_parts {H : Hp} {h : Hs} {a b c : Addr} (g : Good h) (x : HsAt H h a b c) : AvAt H (.ref a) (.sq (h.parts.map strT)) := av_strs (.inl x.pa) (fun y hy => n16_flat (good_parts g y hy)) (by have := g.p4; omega)
theorem okt_take {B : List Str → Tv → Bool} {ps tn ns : List Str} {m : Nat} {ts : List Tv} (o : OkThings B ps tn m ts ns) (j : Nat) : OkThings B ps tn m (ts.take j) (ns.take j) where
  ok := fun t ht => o.ok t (List.mem_of_mem_take ht)
  names := by rw [List.map_take, List.map_take, o.names]
  nodup := ((List.Sublist.refl tn).append (List.take_sublist j ns)).nodup o.nodup
  few := by have := o.few; rw [List.length_take]; omega
theorem cut_dropV (xs : List V) (k : Nat) (h : k ≤ xs.length) : cutV xs (some ((k : Nat) : Int)) none = xs.drop k := by
  unfold cutV HT.sIx
  dsimp only
  rw [if_neg (by omega), Int.toNat_natCast, Nat.min_eq_left h, List.take_of_length_le]
  simp
/-- a list with a thing put in -/
def insV (vs : List V) (j : Nat) (x : V) : List V := vs.take j ++ [x] ++ vs.drop j
theorem ins_ok {K : W.Frag} {σ : L2.St} {H : Hp} {Q : VK} {i m n j : Nat} {a : Addr} {vs : List V} {x : V} (ea : σ[i]? = some (some (.ref a))) (ha : H a = some (.lst vs)) (ej : σ[m]? = some (some (.int (j : Nat)))) (ex : σ[n]? = some (some x)) (le : j ≤ vs.length) (few : vs.length ≤ 1000)
    (k : ∀ H' l, Same H H' → H l = none → H' l = some (.lst (insV vs j x)) → Q (.ref l) H') :
    tOp rCat (tOp rCat (tSl (rSlL K) (tVar i) tNoPart (tPart (tVar m))) (tLst (tCons (tVar n) tNil))) (tSl (rSlL K) (tVar i) (tPart (tVar m)) tNoPart) σ H Q := by
  have line : (2000 : Nat) ≤ sizeLine := by decide
  refine ⟨_, ea, _, ej, _, rfl, a, _, rfl, SqL.of ha, fun q nq => ?_⟩
  rw [cut_takeV _ _ le]
  have s1 := same_upd (o := .lst (vs.take j)) nq
  refine ⟨_, ex, by show 1 ≤ sizeLine; decide, fun r nr => ?_⟩
  have s2 := same_upd (o := .lst [x]) nr
  refine ⟨_, _, _, _, rfl, rfl, s2 _ _ upd_same, upd_same, by rw [List.length_take]; show _ + 1 ≤ sizeLine; omega, fun u nu => ?_⟩
  have s3 := same_upd (o := .lst (vs.take j ++ [x])) nu
  have s13 := (s1.trans s2).trans s3
  refine ⟨_, ea, _, ej, _, rfl, a, _, rfl, SqL.of (s13 _ _ ha), fun y ny => ?_⟩
  rw [cut_dropV _ _ le]
  have s4 := same_upd (o := .lst (vs.drop j)) ny
  refine ⟨_, _, _, _, rfl, rfl, s4 _ _ upd_same, upd_same, by rw [List.length_append, List.length_take, List.length_drop]; show _ + 1 + _ ≤ sizeLine; omega, fun l nl => ?_⟩
  exact k _ l ((s13.trans s4).trans (same_upd nl)) ((s13.trans s4).free nl) upd_same
theorem av_ins {H' : Hp} {l : Addr} {vs : List V} {ts : List Tv} {j : Nat} {x : V} {t : Tv} (e : H' l = some (.lst (insV vs j x))) (p : Paired (TvAt H') vs ts) (xt : TvAt H' x t) (few : ts.length ≤ 19) (le : j ≤ vs.length) : AvAt H' (.ref l) (.sq (ts.take j ++ t :: ts.drop j)) := by
  refine ⟨l, _, rfl, .inl e, ?_, ?_⟩
  · have l1 := paired_len p
    have pt : ∀ {vs : List V} {ts : List Tv} (j : Nat), Paired (TvAt H') vs ts → Paired (TvAt H') (vs.take j) (ts.take j) ∧ Paired (TvAt H') (vs.drop j) (ts.drop j) := by
      intro vs ts j q
      induction q generalizing j with
      | nil => simp; exact .nil
      | cons r t ih =>
        cases j with
        | zero => exact ⟨.nil, .cons r t⟩
        | succ j => exact ⟨.cons r (ih j).1, (ih j).2⟩
    have cat : ∀ {as bs : List V} {ss us : List Tv}, Paired (TvAt H') as ss → Paired (TvAt H') bs us → Paired (TvAt H') (as ++ bs) (ss ++ us) := by
      intro as bs ss us q1 q2
      induction q1 with
      | nil => exact q2
      | cons r t ih => exact .cons r ih
    have := cat (pt j p).1 (.cons xt (pt j p).2)
    unfold insV
    rw [List.append_assoc]
    exact this
  · rw [List.length_append, List.length_cons, List.length_take, List.length_drop]
    omega
theorem comp_ixL {K K' : W.Frag} {te : TE} {σ : L2.St} {H : Hp} {Q : VK} {i : Nat} {j : Int} {ws ys : List V} (hte : ∀ R : VK, (∀ H1 td, Same H H1 → H1 td = some (.lst ws) → R (.ref td) H1) → te σ H R) (few : ws.length ≤ 50)
    (pw : Paired (fun v y => ∃ t xs, v = V.ref t ∧ H t = some (.tup xs) ∧ atI xs j = some y) ws ys)
    (hw : ∀ v, wipe ((wipe σ [i]).set i (some v)) [i] = wipe σ [i]) (hg : ∀ v : V, ((wipe σ [i]).set i (some v))[i]? = some (some v))
    (k : ∀ H' D, Same H H' → H D = none → H' D = some (.lst ys) → Q (.ref D) H') :
    tLc (iList K te) (gName i) tYes (tOp (rIxT K') (tVar i) (tC (.int j))) [i] σ H Q := by
  refine hte _ fun H0 td s0 htd => ⟨td, rfl, ⟨_, SqL.of htd⟩, fun D nD => ?_⟩
  refine lc_list (xs := ws) (fun n H' => (∀ b o, b ≠ D → H0 b = some o → H' b = some o) ∧ H' D = some (.lst (ys.take n))) ⟨fun b o ne e => by rw [upd_ne ne]; exact e, upd_same⟩
    (fun n H' _ z => SqL.of (z.1 _ _ (ne_of_none htd nD) htd)) ?_ ?_
  · rintro n x H1 hx ⟨keep, at_D⟩
    obtain ⟨y, hy, t, xs, rfl, et, ej⟩ := paired_get pw hx
    have et := s0 _ _ et
    obtain ⟨lt, rfl⟩ := List.getElem?_eq_some_iff.mp hy
    have ly := paired_len pw
    refine ⟨hw _, kept ⟨_, hg _, t, xs, _, _, rfl, rfl, SqT.of (keep _ _ (ne_of_none et nD) et), ej, _, at_D, ?_, fun b o ne e => by rw [upd_ne ne]; exact keep b o ne e, ?_⟩⟩
    · have : (100 : Nat) ≤ sizeLine := by decide
      rw [List.length_take]
      omega
    · rw [upd_same, List.take_succ_eq_append_getElem lt]
  · rintro H1 ⟨keep, at_D⟩
    rw [paired_len pw, List.take_length] at at_D
    exact k H1 D (fun b o e => keep b o (ne_of_none (s0 _ _ e) nD) (s0 _ _ e)) (s0.free nD) at_D
theorem op_of {r : R2} {ta tb : TE} {σ : L2.St} {H : Hp} {Q : VK} (h : ta σ H fun x H1 => tb σ H1 fun y H2 => r x y H2 Q) : tOp r ta tb σ H Q := h
theorem call2 {sp : Sp} {te tf : TE} {E : XK} {σ : L2.St} {H : Hp} {Q : VK} (h : te σ H fun x H1 => tf σ H1 fun y H2 => sp [x, y] H2 Q E) : tCall sp [] E (tCons te (tCons tf tNil)) σ H Q := h
theorem call3 {sp : Sp} {te tf tg : TE} {E : XK} {σ : L2.St} {H : Hp} {Q : VK} (h : te σ H fun x H1 => tf σ H1 fun y H2 => tg σ H2 fun z H3 => sp [x, y, z] H3 Q E) : tCall sp [] E (tCons te (tCons tf (tCons tg tNil))) σ H Q := h
/-- the result: three things and a number -/
theorem tup3 {t1 t2 t3 tn : TE} {σ : L2.St} {H : Hp} {Q : VK} (h : t1 σ H fun x1 H1 => t2 σ H1 fun x2 H2 => t3 σ H2 fun x3 H3 => 3 ≤ sizeLine ∧ ∀ T1, H3 T1 = none → tn σ (upd H3 T1 (.tup [x1, x2, x3])) fun n H4 => 2 ≤ sizeLine ∧ ∀ T, H4 T = none → Q (.ref T) (upd H4 T (.tup [.ref T1, n]))) :
    tTup (tCons (tTup (tCons t1 (tCons t2 (tCons t3 tNil)))) (tCons tn tNil)) σ H Q := h
end K02

namespace K02
open PySem PySem.Spec PyProof.Rows L2
open Cal EnuT Sqx Exn Keys Gvx

/-- a value, not the box, told as an argument so -/
def Wa (p : Addr) (G : Av → Prop) (H : Hp) (x : V) : Prop := ∃ t, AvAt H x t ∧ x ≠ .ref p ∧ G t
theorem stay_wa (p : Addr) (G : Av → Prop) : StayV (Wa p G) := fun _ _ _ s ⟨t, h, n, g⟩ => ⟨t, h.same s, n, g⟩
def NoSq (a : Av) : Prop := (∃ u, a = .fl u) ∨ a = .sq []
theorem Wa.but {p : Addr} {H H' : Hp} {x : V} (b : But p H H') (w : Wa p NoSq H x) : Wa p NoSq H' x := by
  obtain ⟨t, h, n, g⟩ := w
  refine ⟨t, ?_, n, g⟩
  rcases g with ⟨u, rfl⟩ | rfl
  · exact h
  · obtain ⟨a, vs, rfl, sq, pw, l⟩ := h
    cases pw
    have ne : a ≠ p := fun z => n (by rw [z])
    exact ⟨a, [], rfl, sq.imp (b _ _ ne) (b _ _ ne), .nil, l⟩
def IsFl (a : Av) : Prop := ∃ u, a = .fl u
theorem Wa.butF {p : Addr} {H H' : Hp} {x : V} (w : Wa p IsFl H x) : ∃ u, AvAt H' x (.fl u) := by
  obtain ⟨t, h, n, u, rfl⟩ := w
  exact ⟨u, h⟩
def sgn (z : Str) (i : Nat) : Str := z ++ ⟨#[97 + i]⟩
def sgns (z : Str) (n : Nat) : List Str := (List.range n).map (sgn z)
abbrev rAddStr : R2 := fun x y H Q => ∃ i j, x = .str i ∧ y = .str j ∧ i.length + j.length ≤ sizeLine ∧ Q (.str (i ++ j)) H
/-- 'p' + 'abc..'[at] -/
theorem sgn_te {z abc : Str} {m n k : Nat} {σ : L2.St} {H : Hp} {Q : VK} (habc : ∀ i, i < n → abc.cps.toList[i]? = some (97 + i)) (la : abc.length ≤ 100) (lz : z.length ≤ 100) (e : σ[m]? = some (some (.int (0 + (k : Nat))))) (lt : k < n) (q : Q (.str (sgn z k)) H) :
    tOp rAddStr (tC (.str z)) (tOp rIxS (tC (.str abc)) (tVar m)) σ H Q := by
  have line : (1000 : Nat) ≤ sizeLine := by decide
  refine ⟨_, e, abc, _, 97 + k, rfl, rfl, by omega, ?_, z, _, rfl, rfl, ?_, q⟩
  · rw [Int.zero_add]
    exact atI_nat (habc k lt)
  · show z.length + 1 ≤ sizeLine
    omega
theorem abc9 : ∀ i, i < 9 → ("abcdefghi" : Str).cps.toList[i]? = some (97 + i) := by decide +kernel
theorem abc13 : ∀ i, i < 13 → ("abcdefghijklm" : Str).cps.toList[i]? = some (97 + i) := by decide +kernel
theorem abc8 : ∀ i, i < 8 → ("abcdefgh" : Str).cps.toList[i]? = some (97 + i) := by decide +kernel
theorem range_snoc (n : Nat) : List.range (n + 1) = List.range n ++ [n] := List.range_succ
/-- a comprehension of texts over a range -/
theorem lc_sgn {z abc : Str} {m n : Nat} {σ : L2.St} {H : Hp} {Q : VK} (habc : ∀ i, i < n → abc.cps.toList[i]? = some (97 + i)) (la : abc.length ≤ 100) (lz : z.length ≤ 100) (n50 : n ≤ 50)
    (hw : ∀ v : V, wipe ((wipe σ [m]).set m (some v)) [m] = wipe σ [m]) (hg : ∀ v : V, ((wipe σ [m]).set m (some v))[m]? = some (some v))
    (k : ∀ H' D, Same H H' → H D = none → H' D = some (.lst ((sgns z n).map V.str)) → Q (.ref D) H') :
    tLc (iRng1 (tCons (tC (.int (n : Nat))) tNil)) (gName m) tYes (tOp rAddStr (tC (.str z)) (tOp rIxS (tC (.str abc)) (tVar m))) [m] σ H Q := by
  have line : (1000 : Nat) ≤ sizeLine := by decide
  refine ⟨n, rfl, by omega, by omega, fun D nD => ?_⟩
  refine lc_range (lo := 0) (n := n) (fun i H' => Same H H' ∧ H' D = some (.lst ((sgns z i).map V.str))) ⟨same_upd nD, upd_same⟩ ?_ ?_
  · rintro i H1 hi ⟨s1, at_D⟩
    refine ⟨hw _, kept (sgn_te habc la lz (hg _) hi ⟨_, at_D, ?_, fun b o e => ?_, ?_⟩)⟩
    · unfold sgns
      rw [List.length_map, List.length_map, List.length_range]
      omega
    · rw [upd_ne (ne_of_none e nD)]
      exact s1 _ _ e
    · rw [upd_same]
      unfold sgns
      rw [range_snoc, List.map_append, List.map_append]
      rfl
  · rintro H1 ⟨s1, at_D⟩
    exact k H1 D s1 nD at_D
/-- a comprehension over a range: what is known of each thing stays -/
theorem lc_rng {te : TE} {m n : Nat} {σ : L2.St} {H : Hp} {Q : VK} (R : Nat → Hp → V → Prop) (sR : ∀ i (H H' : Hp) x, (∀ t xs, H t = some (.tup xs) → H' t = some (.tup xs)) → R i H x → R i H' x) (n50 : n ≤ 50)
    (hw : ∀ v : V, wipe ((wipe σ [m]).set m (some v)) [m] = wipe σ [m])
    (el : ∀ i H1 (Q' : VK), i < n → Same H H1 → (∀ x H2, Same H1 H2 → R i H2 x → Q' x H2) → te ((wipe σ [m]).set m (some (.int (0 + (i : Nat))))) H1 Q')
    (k : ∀ H' D xs, Same H H' → H D = none → H' D = some (.lst xs) → xs.length = n → (∀ i x, xs[i]? = some x → R i H' x) → Q (.ref D) H') :
    tLc (iRng1 (tCons (tC (.int (n : Nat))) tNil)) (gName m) tYes te [m] σ H Q := by
  have line : (1000 : Nat) ≤ sizeLine := by decide
  refine ⟨n, rfl, by omega, by omega, fun D nD => ?_⟩
  refine lc_range (lo := 0) (n := n) (fun i H' => Same H H' ∧ ∃ xs, H' D = some (.lst xs) ∧ xs.length = i ∧ ∀ j x, xs[j]? = some x → R j H' x) ⟨same_upd nD, [], upd_same, rfl, fun j x h => nomatch h⟩ ?_ ?_
  · rintro i H1 hi ⟨s1, xs, at_D, lx, all⟩
    refine ⟨hw _, kept (el i H1 _ hi s1 fun x H2 s2 rx => ?_)⟩
    have at_D2 := s2 _ _ at_D
    refine ⟨xs, at_D2, by omega, fun b o e => ?_, xs ++ [x], upd_same, by rw [List.length_append, lx]; rfl, fun j y hy => ?_⟩
    · rw [upd_ne (ne_of_none e nD)]
      exact s2 _ _ (s1 _ _ e)
    · refine sR j H2 _ y (fun t zs e => by rw [upd_ne (ne_of e at_D2 (fun z => by cases z))]; exact e) ?_
      by_cases lt : j < xs.length
      · rw [List.getElem?_append_left lt] at hy
        exact sR j H1 _ y (fun t zs e => s2 _ _ e) (all j y hy)
      · rw [List.getElem?_append_right (by omega)] at hy
        have : j - xs.length = 0 := by
          have := (List.getElem?_eq_some_iff.mp hy).1
          simp at this
          omega
        rw [this] at hy
        have hy : some x = some y := hy
        injection hy with hy
        rw [← hy, show j = i by omega]
        exact rx
  · rintro H1 ⟨s1, xs, at_D, lx, all⟩
    exact k H1 D xs s1 nD at_D lx all
/-- cells and doors of a row of names -/
def cellN (q : Str) (i : Nat) : Cell := ⟨sgn "z" i, q, false⟩
def doorN (q : Str) (i : Nat) : Door := ⟨sgn "w" i, "out", q, true⟩
theorem paired_of {α : Type} {R : V → α → Prop} {xs : List V} {ys : List α} (l : xs.length = ys.length) (h : ∀ (i : Nat) (x : V) (y : α), xs[i]? = some x → ys[i]? = some y → R x y) : Paired R xs ys := by
  induction xs generalizing ys with
  | nil => cases ys with
    | nil => exact .nil
    | cons _ _ => simp at l
  | cons x xs ih => cases ys with
    | nil => simp at l
    | cons y ys => exact .cons (h 0 x y rfl rfl) (ih (by simpa using l) fun i a b ha hb => h (i + 1) a b ha hb)
theorem paired_take {α β : Type} {R : α → β → Prop} : ∀ {xs : List α} {ys : List β} (j : Nat), Paired R xs ys → Paired R (xs.take j) (ys.take j)
  | _, _, 0, _ => .nil
  | _, _, _ + 1, .nil => .nil
  | _, _, j + 1, .cons r t => .cons r (paired_take j t)
theorem z8_ok : (∀ x, x ∈ sgns "z" 8 → nameOk x = true ∧ x ∉ N16) ∧ (sgns "z" 8).Nodup := by decide +kernel
theorem w12_ok : (∀ x, x ∈ sgns "w" 12 → nameOk x = true ∧ x ∉ N16) ∧ (sgns "w" 12).Nodup := by decide +kernel
theorem p8_ok : (∀ x, x ∈ sgns "p" 8 → nameOk x = true) ∧ (sgns "p" 8).Nodup := by decide +kernel
theorem sgn_flat {z : Str} {i : Nat} (h : z.length ≤ 100) : flatOk (.str (sgn z i)) = true := by
  have : (sgn z i).length = z.length + 1 := by
    unfold sgn
    rw [Tx.len_L, Tx.L_append, List.length_append, Tx.len_L z]
    rfl
  show decide ((sgn z i).length ≤ 1000) = true
  exact decide_eq_true (by omega)
theorem bad9 {b c : Av} : HouseBad (.sq ((sgns "p" 9).map strT)) b c 8 := by
  refine .inl (.inr ⟨sgns "p" 8, strT (sgn "p" 8), [], ?_, ⟨by decide, p8_ok.2, p8_ok.1⟩, .inl rfl, rfl⟩)
  unfold sgns
  rw [show List.range 9 = List.range 8 ++ [8] from rfl, List.map_append, List.map_append]
  rfl
theorem nodup_new {as bs : List Str} (ha : as.Nodup) (hb : bs.Nodup) (sa : ∀ x, x ∈ as → x ∈ N16) (nb : ∀ x, x ∈ bs → x ∉ N16) : (as ++ bs).Nodup := by
  rw [List.nodup_append]
  exact ⟨ha, hb, fun x hx y hy e => nb y hy (e ▸ sa x hx)⟩
theorem badZ {h : Hs} (good : Good h) {q : Str} (hq : q ∈ h.parts) : HouseBad (.sq (h.parts.map strT)) (.sq (h.doors.map dT)) (.sq ((List.range 9).map fun i => cT (cellN q i))) (h.parts.length + h.doors.length + 8) := by
  have gH := good.toH
  refine .inr (.inr ⟨h.parts, h.doors.map dT, h.doors.map (·.n), ⟨rfl, good.p1, parts_good gH⟩, ⟨rfl, doors_good gH⟩, .inr ⟨(List.range 8).map fun i => cT (cellN q i), cT (cellN q 8), [], sgns "z" 8, rfl, ⟨fun t ht => ?_, ?_, ?_, by rw [List.length_map, List.length_range]; decide⟩, .inl rfl, ?_⟩⟩)
  · obtain ⟨i, hi, rfl⟩ := List.mem_map.mp ht
    show (nmB (.str (sgn "z" i)) && (inV (.str q) (h.parts.map V.str) && isBl (.bl false))) = true
    rw [inV_in hq, show nmB (.str (sgn "z" i)) = nameOk (sgn "z" i) from rfl, (z8_ok.1 _ (List.mem_map.mpr ⟨i, hi, rfl⟩)).1]
    rfl
  · unfold sgns
    rw [List.map_map, List.map_map]
    rfl
  · refine nodup_new ?_ z8_ok.2 (fun x hx => good.sub x ?_) fun x hx => (z8_ok.1 x hx).2
    · have : (h.parts ++ h.doors.map (·.n)).Sublist h.names := (List.Sublist.refl _).append (List.sublist_append_left _ _)
      exact this.nodup good.nodup
    · have : (h.parts ++ h.doors.map (·.n)).Sublist h.names := (List.Sublist.refl _).append (List.sublist_append_left _ _)
      exact this.subset hx
  · rw [List.length_append, List.length_map, List.length_map, List.length_range]
theorem badW {h : Hs} (good : Good h) {q : Str} (hq : q ∈ h.parts) {c : Av} : HouseBad (.sq (h.parts.map strT)) (.sq ((List.range 13).map fun i => dT (doorN q i))) c (h.parts.length + 12) := by
  have gH := good.toH
  refine .inr (.inl ⟨h.parts, ⟨rfl, good.p1, parts_good gH⟩, .inr ⟨(List.range 12).map fun i => dT (doorN q i), dT (doorN q 12), [], sgns "w" 12, rfl, ⟨fun t ht => ?_, ?_, ?_, by rw [List.length_map, List.length_range]; decide⟩, .inl rfl, ?_⟩⟩)
  · obtain ⟨i, hi, rfl⟩ := List.mem_map.mp ht
    have ie : ∀ {x : Str}, x ∈ h.parts ++ [("out" : Str)] → inV (.str x) (endsV h.parts) = true := fun {x} hx => by
      rw [ends_strs]
      exact inV_in hx
    have ne : ("out" : Str) ≠ q := fun z => out_not (z ▸ good_parts good q hq)
    show (nmB (.str (sgn "w" i)) && (inV (.str "out") (endsV h.parts) && (inV (.str q) (endsV h.parts) && (!decide (V.str "out" = V.str q) && isBl (.bl true))))) = true
    rw [ie (List.mem_append_right _ (List.mem_singleton.mpr rfl)), ie (List.mem_append_left _ hq), show nmB (.str (sgn "w" i)) = nameOk (sgn "w" i) from rfl, (w12_ok.1 _ (List.mem_map.mpr ⟨i, hi, rfl⟩)).1, decide_eq_false (fun z => ne (by injection z))]
    rfl
  · unfold sgns
    rw [List.map_map, List.map_map]
    rfl
  · exact nodup_new (parts_good gH).nodup w12_ok.2 (good_parts good) fun x hx => (w12_ok.1 x hx).2
  · rw [List.length_map, List.length_range]
end K02
namespace K02
open PySem PySem.Spec PyProof.Rows L2
theorem tup_of {t1 : TE} {ta : TA} {σ : L2.St} {H : Hp} {Q : VK} (h : t1 σ H fun x H1 => ta σ H1 fun xs H2 => (x :: xs).length ≤ sizeLine ∧ ∀ p, H2 p = none → Q (.ref p) (upd H2 p (.tup (x :: xs)))) : tTup (tCons t1 ta) σ H Q := h
theorem nm_no {s : Str} (h : nameOk s = false) : nmT (.fl (.str s)) = false := h
end K02

namespace K02
open PySem PySem.Spec PyProof.Rows L2
open Cal EnuT Sqx Exn Keys Gvx

def spBent : Sp := fun vs H Q _ => ∃ (p a b c : Addr) (h : Hs), vs = [.ref p, .ref a, .ref b, .ref c] ∧ Box H p ∧ HsAt H h a b c ∧ Good h ∧
  ∀ H' T1 T v1 v2 v3 A B C (i : Nat), But p H H' → Box H' p → H T = none → H' T = some (.tup [.ref T1, .int (i : Nat)]) → H' T1 = some (.tup [v1, v2, v3]) → AvAt H' v1 A → AvAt H' v2 B → AvAt H' v3 C → HouseBad A B C i → Q (.ref T) H'
section
variable {P : Program} {w : World} {K : W.Frag} {mg : Str → Option Value} {base : Heap}
abbrev NBe : List Str := ["box", "parts", "doors", "cells", "form", "begin", "at", "odd", "door", "cell"]
theorem scBe : FnScope NBe ["box", "parts", "doors", "cells"] (defScope sBent) := ⟨rfl, rfl, rfl, by decide +kernel, rfl, by decide +kernel, by decide +kernel⟩
theorem ok_bent {f : Addr} {fd : FuncData} (F : Fun K "_law_bent" "_law_bent" sBent f fd) (B : Bl mg) (T : Callee P w K mg base "_law_take" 1 ["box", "many"] spTake) (Pk : Callee P w K mg base "_law_pick" 2 ["box", "some"] spPick)
    (WD : Callee P w K mg base "_law_wrong_door" 3 ["box", "parts", "met"] (spWrong doorB)) (WC : Callee P w K mg base "_law_wrong_cell" 3 ["box", "parts", "met"] (spWrong cellB)) :
    FnOk P w K mg base CX0 4 f fd ["box", "parts", "doors", "cells"] spBent := by
  refine F.ok scBe (fun vs H Q E h => ?_) (fun cdv A outer s H vs Q E hr h => ?_)
  · obtain ⟨p, a, b, c, h, rfl, _⟩ := h
    rfl
  · obtain ⟨p, a, b, c, h, rfl, hB, at_h, good, k⟩ := h
    have hr1 := hr.mono (show 1 ≤ 3 by decide)
    have hr2 := hr.mono (show 2 ≤ 3 by decide)
    refine ⟨_, (pss_cons (ps_par (i := 4) (j := 5) (by rfl) scBe.nd rfl rfl (by decide) rfl rfl (pa_cons (pe_callee T hr1 rfl (pa_cons (pv 0) (pa_cons pe_int pa_nil))) (pa_cons (pe_op op_add (pe_callB call_len_seq (by rfl) B.nums.len PySem.boot_len (pa_cons (pv 1) pa_nil)) (pe_callB call_len_seq (by rfl) B.nums.len PySem.boot_len (pa_cons (pv 2) pa_nil))) pa_nil)) (by rfl))
        (pss_cons (ps_if (pt_cmpR op_eq (pv 4) pe_int (nomark _)) (pss_one (ps_ret (pe_tup (pa_cons (pe_tup (pa_cons (pe_callee Pk hr2 rfl (pa_cons (pv 0) (pa_cons (pe_lst (pa_cons pe_non (pa_cons pe_str (pa_cons pe_int (pa_cons (pe_lst pa_nil) (pa_cons (pe_tup pa_nil) (pa_cons pe_bl pa_nil))))))) pa_nil))) (pa_cons (pv 2) (pa_cons (pv 3) pa_nil)))) (pa_cons pe_int pa_nil))))) pss_nil)
        (pss_cons (ps_if (pt_cmpR op_eq (pv 4) pe_int (nomark _)) (pss_cons (ps_set (i := 6) scBe.nd rfl (Or.inl rfl) (pe_callee T hr1 rfl (pa_cons (pv 0) (pa_cons (pe_op op_add (pe_callB call_len_seq (by rfl) B.nums.len PySem.boot_len (pa_cons (pv 1) pa_nil)) pe_int) pa_nil))))
        (pss_cons (ps_set (i := 7) scBe.nd rfl (Or.inl rfl) (pe_callee Pk hr2 rfl (pa_cons (pv 0) (pa_cons (pe_op op_cat (pe_lst (pa_cons pe_non (pa_cons pe_str (pa_cons pe_str (pa_cons pe_str (pa_cons pe_str (pa_cons pe_str (pa_cons pe_int (pa_cons (pe_lst (pa_cons pe_str pa_nil)) (pa_cons (pe_tup (pa_cons pe_str pa_nil)) pa_nil)))))))))) (pe_slice sl_list (pv 1) po_none (po_some (pv 6)))) pa_nil))))
        (pss_one (ps_ret (pe_tup (pa_cons (pe_tup (pa_cons (pe_op op_cat (pe_op op_cat (pe_slice sl_list (pv 1) po_none (po_some (pv 6))) (pe_lst (pa_cons (pv 7) pa_nil))) (pe_slice sl_list (pv 1) (po_some (pv 6)) po_none)) (pa_cons (pv 2) (pa_cons (pv 3) pa_nil)))) (pa_cons (pv 6) pa_nil))))))) pss_nil)
        (pss_cons (ps_if (pt_cmpR op_eq (pv 4) pe_int (nomark _)) (pss_one (ps_ret (pe_tup (pa_cons (pe_tup (pa_cons (pe_lc (own := [("at", 6)]) (g := gName 6) (tt := tYes) (by rfl) scBe.nd (pi_range1 rfl B.range (pa_cons pe_int pa_nil))
          (blkOk_by (own := [("at", 6)]) (N := NBe) (sc := defScope sBent) (by decide +kernel))
          (fun _ _ _ _ _ => pg_name (i := 6) scBe.nd rfl (Or.inl rfl)) (fun _ _ _ _ _ => pts_nil) (fun _ _ _ _ _ => pe_op op_add_str pe_str (pe_ix ix_str pe_str (pv 6) (fun _ _ => rfl)))) (pa_cons (pe_lst pa_nil) (pa_cons (pe_lst pa_nil) pa_nil)))) (pa_cons pe_int pa_nil))))) pss_nil)
        (pss_cons (ps_if (pt_cmpR op_eq (pv 4) pe_int (nomark _)) (pss_one (ps_ret (pe_tup (pa_cons (pe_tup (pa_cons (pv 1) (pa_cons (pe_callee Pk hr2 rfl (pa_cons (pv 0) (pa_cons (pe_lst (pa_cons pe_non (pa_cons pe_str (pa_cons pe_int pa_nil)))) pa_nil))) (pa_cons (pv 3) pa_nil)))) (pa_cons (pe_callB call_len_seq (by rfl) B.nums.len PySem.boot_len (pa_cons (pv 1) pa_nil)) pa_nil))))) pss_nil)
        (pss_cons (ps_if (pt_cmpR op_lt (pv 4) pe_int (nomark _)) (pss_cons (ps_set (i := 6) scBe.nd rfl (Or.inl rfl) (pe_callee T hr1 rfl (pa_cons (pv 0) (pa_cons (pe_op op_add (pe_callB call_len_seq (by rfl) B.nums.len PySem.boot_len (pa_cons (pv 2) pa_nil)) pe_int) pa_nil))))
        (pss_cons (ps_set (i := 7) scBe.nd rfl (Or.inl rfl) (pe_callee WD hr rfl (pa_cons (pv 0) (pa_cons (pv 1) (pa_cons (pe_op op_cat (pv 1) (pe_lc (own := [("door", 8)]) (g := gName 8) (tt := tYes) (by rfl) scBe.nd (pi_list (pe_slice sl_list (pv 2) po_none (po_some (pv 6))))
          (blkOk_by (own := [("door", 8)]) (N := NBe) (sc := defScope sBent) (by decide +kernel))
          (fun _ _ _ _ _ => pg_name (i := 8) scBe.nd rfl (Or.inl rfl)) (fun _ _ _ _ _ => pts_nil) (fun _ _ _ _ _ => (show PE _ _ (tOp (rIxT K) (tVar 8) (tC (.int 0))) from pe_ix ix_tup (pv 8) pe_int (fun _ _ => rfl))))) pa_nil)))))
        (pss_one (ps_ret (pe_tup (pa_cons (pe_tup (pa_cons (pv 1) (pa_cons (pe_op op_cat (pe_op op_cat (pe_slice sl_list (pv 2) po_none (po_some (pv 6))) (pe_lst (pa_cons (pv 7) pa_nil))) (pe_slice sl_list (pv 2) (po_some (pv 6)) po_none)) (pa_cons (pv 3) pa_nil)))) (pa_cons (pe_op op_add (pe_callB call_len_seq (by rfl) B.nums.len PySem.boot_len (pa_cons (pv 1) pa_nil)) (pv 6)) pa_nil))))))) pss_nil)
        (pss_cons (ps_if (PW.pt (pw_and (pt_cmpR op_eq (pv 4) pe_int (nomark _)) (pw_and1 (pt_cmpR op_eq (pe_callee T hr1 rfl (pa_cons (pv 0) (pa_cons pe_int pa_nil))) pe_int (nomark _))))) (pss_one (ps_ret (pe_tup (pa_cons (pe_tup (pa_cons (pv 1) (pa_cons (pv 2) (pa_cons (pe_lc (own := [("at", 6)]) (g := gName 6) (tt := tYes) (by rfl) scBe.nd (pi_range1 rfl B.range (pa_cons pe_int pa_nil))
          (blkOk_by (own := [("at", 6)]) (N := NBe) (sc := defScope sBent) (by decide +kernel))
          (fun _ _ _ _ _ => pg_name (i := 6) scBe.nd rfl (Or.inl rfl)) (fun _ _ _ _ _ => pts_nil) (fun _ _ _ _ _ => pe_tup (pa_cons (pe_op op_add_str pe_str (pe_ix ix_str pe_str (pv 6) (fun _ _ => rfl))) (pa_cons (show PE _ _ (tOp (rIxL K) (tVar 1) (tC (.int 0))) from pe_ix ix_list (pv 1) pe_int (fun _ _ => rfl)) (pa_cons pe_bl pa_nil))))) pa_nil)))) (pa_cons (pe_op op_add (pv 5) pe_int) pa_nil))))) pss_nil)
        (pss_cons (ps_if (pt_cmpR op_eq (pv 4) pe_int (nomark _)) (pss_one (ps_ret (pe_tup (pa_cons (pe_tup (pa_cons (pv 1) (pa_cons (pe_lc (own := [("at", 6)]) (g := gName 6) (tt := tYes) (by rfl) scBe.nd (pi_range1 rfl B.range (pa_cons pe_int pa_nil))
          (blkOk_by (own := [("at", 6)]) (N := NBe) (sc := defScope sBent) (by decide +kernel))
          (fun _ _ _ _ _ => pg_name (i := 6) scBe.nd rfl (Or.inl rfl)) (fun _ _ _ _ _ => pts_nil) (fun _ _ _ _ _ => pe_tup (pa_cons (pe_op op_add_str pe_str (pe_ix ix_str pe_str (pv 6) (fun _ _ => rfl))) (pa_cons pe_str (pa_cons (show PE _ _ (tOp (rIxL K) (tVar 1) (tC (.int 0))) from pe_ix ix_list (pv 1) pe_int (fun _ _ => rfl)) (pa_cons pe_bl pa_nil)))))) (pa_cons (pv 3) pa_nil)))) (pa_cons (pe_op op_add (pe_callB call_len_seq (by rfl) B.nums.len PySem.boot_len (pa_cons (pv 1) pa_nil)) pe_int) pa_nil))))) pss_nil)
        (pss_cons (ps_if (pt_cmpR op_eq (pv 4) pe_int (nomark _)) (pss_one (ps_ret (pe_tup (pa_cons (pe_tup (pa_cons (pv 1) (pa_cons (pv 2) (pa_cons (pe_callee Pk hr2 rfl (pa_cons (pv 0) (pa_cons (pe_lst (pa_cons pe_non (pa_cons pe_str (pa_cons pe_int pa_nil)))) pa_nil))) pa_nil)))) (pa_cons (pv 5) pa_nil))))) pss_nil)
        (pss_cons (ps_set (i := 6) scBe.nd rfl (Or.inl rfl) (pe_callee T hr1 rfl (pa_cons (pv 0) (pa_cons (pe_op op_add (pe_callB call_len_seq (by rfl) B.nums.len PySem.boot_len (pa_cons (pv 3) pa_nil)) pe_int) pa_nil))))
        (pss_cons (ps_set (i := 7) scBe.nd rfl (Or.inl rfl) (pe_callee WC hr rfl (pa_cons (pv 0) (pa_cons (pv 1) (pa_cons (pe_op op_cat (pe_op op_cat (pv 1) (pe_lc (own := [("door", 8)]) (g := gName 8) (tt := tYes) (by rfl) scBe.nd (pi_list (pv 2))
          (blkOk_by (own := [("door", 8)]) (N := NBe) (sc := defScope sBent) (by decide +kernel))
          (fun _ _ _ _ _ => pg_name (i := 8) scBe.nd rfl (Or.inl rfl)) (fun _ _ _ _ _ => pts_nil) (fun _ _ _ _ _ => (show PE _ _ (tOp (rIxT K) (tVar 8) (tC (.int 0))) from pe_ix ix_tup (pv 8) pe_int (fun _ _ => rfl))))) (pe_lc (own := [("cell", 9)]) (g := gName 9) (tt := tYes) (by rfl) scBe.nd (pi_list (pe_slice sl_list (pv 3) po_none (po_some (pv 6))))
          (blkOk_by (own := [("cell", 9)]) (N := NBe) (sc := defScope sBent) (by decide +kernel))
          (fun _ _ _ _ _ => pg_name (i := 9) scBe.nd rfl (Or.inl rfl)) (fun _ _ _ _ _ => pts_nil) (fun _ _ _ _ _ => (show PE _ _ (tOp (rIxT K) (tVar 9) (tC (.int 0))) from pe_ix ix_tup (pv 9) pe_int (fun _ _ => rfl))))) pa_nil)))))
        (pss_one (ps_ret (pe_tup (pa_cons (pe_tup (pa_cons (pv 1) (pa_cons (pv 2) (pa_cons (pe_op op_cat (pe_op op_cat (pe_slice sl_list (pv 3) po_none (po_some (pv 6))) (pe_lst (pa_cons (pv 7) pa_nil))) (pe_slice sl_list (pv 3) (po_some (pv 6)) po_none)) pa_nil)))) (pa_cons (pe_op op_add (pv 5) (pv 6)) pa_nil)))))))))))))))), ?_⟩
    have line : (10000 : Nat) ≤ sizeLine := by decide
    have gH := good.toH
    have p4 := good.p4
    have p1 := good.p1
    have d5 := good.d5
    have c3 := good.c3
    have sI := stay_box p
    have sWa := stay_wa p NoSq
    have sWf := stay_wa p IsFl
    have p0 : 0 < h.parts.length := by omega
    have okP : OkParts (.sq (h.parts.map strT)) h.parts := ⟨rfl, p1, parts_good gH⟩
    have okD : OkDoors (.sq (h.doors.map dT)) h.parts (h.doors.map dT) (h.doors.map (·.n)) := ⟨rfl, doors_good gH⟩
    -- how each way ends
    have fin : ∀ {Hx : Hp} {T1 T : Addr} {v1 v2 v3 nv : V} {A B C : Av} {i : Nat}, But p H Hx → Box Hx p → AvAt Hx v1 A → AvAt Hx v2 B → AvAt Hx v3 C → HouseBad A B C i → nv = .int (i : Nat) → Hx T1 = none → upd Hx T1 (.tup [v1, v2, v3]) T = none →
        Q (.ref T) (upd (upd Hx T1 (.tup [v1, v2, v3])) T (.tup [.ref T1, nv])) := by
      intro Hx T1 T v1 v2 v3 nv A B C i bx xx a1 a2 a3 hb en n1 nT
      subst en
      have s1 := same_upd (o := .tup [v1, v2, v3]) n1
      have s2 := same_upd (o := .tup [.ref T1, .int (i : Nat)]) nT
      have s12 := s1.trans s2
      exact k _ T1 T v1 v2 v3 A B C i (bx.trans (But.of_same s12)) (xx.same s12) (bx.free xx (s1.free nT)) upd_same (s2 _ _ upd_same) (a1.same s12) (a2.same s12) (a3.same s12) hb
    refine ⟨_, rfl, p, _, rfl, hB, by decide, by decide, fun r H1 r0 r9 b1 x1 => ?_⟩
    have h1 := at_h.but b1 hB
    obtain ⟨vd1, hd1, pd1⟩ := h1.da
    obtain ⟨vc1, hc1, pc1⟩ := h1.ca
    have ld1 := paired_len pd1
    have lc1 := paired_len pc1
    obtain ⟨fo, rfl⟩ : ∃ j : Nat, r = (j : Int) := ⟨r.toNat, by omega⟩
    refine ⟨_, rfl, a, _, rfl, .inl (SqL.of h1.pa), _, rfl, b, _, rfl, .inl (SqL.of hd1), _, _, rfl, rfl, _, _, rfl, ?_⟩
    rw [List.length_map, ld1]
    have fq : ∀ {n : Nat}, fo ≠ n → decide (V.int (fo : Nat) = V.int (n : Nat)) = false := fun {n} e => by rw [dnum]; exact decide_eq_false e
    have ft : ∀ {n : Nat}, fo = n → decide (V.int (fo : Nat) = V.int (n : Nat)) = true := fun {n} e => by rw [dnum]; exact decide_eq_true e
    -- 0
    refine ⟨_, rfl, rfl, _, rfl, ?_⟩
    by_cases e0 : fo = 0
    · refine Eq.mpr (congrArg (fun b => ite (b = true) _ _) (ft (n := 0) e0)) (iteT ?_)
      refine ret_of (tup3 (call2 ⟨_, rfl, lst_gv (n := 6) sWa (gvs_cons sI sWa (gv_c (v := .non) (fun H i => ⟨.fl (.non), ⟨rfl, by decide +kernel⟩, (fun z => nomatch z), .inl ⟨_, rfl⟩⟩)) (gvs_cons sI sWa (gv_c (v := .str "ab") (fun H i => ⟨.fl (.str "ab"), ⟨rfl, by decide +kernel⟩, (fun z => nomatch z), .inl ⟨_, rfl⟩⟩)) (gvs_cons sI sWa (gv_c (v := .int 3) (fun H i => ⟨.fl (.int 3), ⟨rfl, by decide +kernel⟩, (fun z => nomatch z), .inl ⟨_, rfl⟩⟩)) (gvs_cons sI sWa (gv_lst (vals := []) gx_nil (by show 0 ≤ sizeLine; decide) (fun H a i n => ⟨.sq [], ⟨a, [], rfl, .inl upd_same, .nil, by decide⟩, fun z => i.fresh n (by injection z), .inr rfl⟩)) (gvs_cons sI sWa (gv_tup (vals := []) gx_nil (by show 0 ≤ sizeLine; decide) (fun H a i n => ⟨.sq [], ⟨a, [], rfl, .inr upd_same, .nil, by decide⟩, fun z => i.fresh n (by injection z), .inr rfl⟩)) (gvs_cons sI sWa (gv_c (v := .bl true) (fun H i => ⟨.fl (.bl true), ⟨rfl, by decide +kernel⟩, (fun z => nomatch z), .inl ⟨_, rfl⟩⟩)) gvs_nil)))))) x1 (by show 6 ≤ sizeLine; decide) fun xs Hl l sl nl hl ll all => ⟨p, l, xs, rfl, (fun z => x1.fresh nl z.symm), x1.same sl, hl, by omega, by omega, fun x H3 hx b3 x3 => ?_⟩⟩))
      have h3 := (h1.same sl).but b3 (x1.same sl)
      obtain ⟨A0, av0, _, ns⟩ := Wa.but b3 (all x hx)
      exact ⟨_, rfl, _, rfl, by show 3 ≤ sizeLine; decide, fun T1 n1 => ⟨by show 2 ≤ sizeLine; decide, fun T nT => fin ((b1.trans (But.of_same sl)).trans b3) x3 av0 (av_doors good h3) (av_cells good h3) (.inl (.inl ⟨ns, rfl⟩)) rfl n1 nT⟩⟩
    refine Eq.mpr (congrArg (fun b => ite (b = true) _ _) (fq (n := 0) e0)) (iteF ?_)
    refine ⟨_, rfl, rfl, _, rfl, ?_⟩
    by_cases e1 : fo = 1
    · refine Eq.mpr (congrArg (fun b => ite (b = true) _ _) (ft (n := 1) e1)) (iteT ?_)
      refine seq_set ⟨_, rfl, _, rfl, a, _, rfl, .inl (SqL.of h1.pa), _, _, rfl, rfl, p, _, rfl, x1, by rw [List.length_map]; omega, by rw [List.length_map]; omega, fun r2 H2 r20 r21 b2 x2 => ?_⟩
      rw [List.length_map] at r21
      have h2 := h1.but b2 x1
      obtain ⟨j, rfl⟩ : ∃ j : Nat, r2 = (j : Int) := ⟨r2.toNat, by omega⟩
      have hj : j ≤ h.parts.length := by omega
      have sW := stay_wv p (fun t => nmT t = false ∨ ∃ s, s ∈ h.parts.take j ∧ t = strT s)
      refine seq_set (call2 ⟨_, rfl, op_of (lst_gv (n := 9) sW (gvs_cons sI sW (gv_c (v := .non) (fun H i => ⟨.fl (.non), ⟨rfl, by decide +kernel⟩, (fun z => nomatch z), .inl rfl⟩)) (gvs_cons sI sW (gv_c (v := .str "") (fun H i => ⟨.fl (.str ""), ⟨rfl, by decide +kernel⟩, (fun z => nomatch z), .inl (nm_no (by decide +kernel))⟩)) (gvs_cons sI sW (gv_c (v := .str "Hall") (fun H i => ⟨.fl (.str "Hall"), ⟨rfl, by decide +kernel⟩, (fun z => nomatch z), .inl (nm_no (by decide +kernel))⟩)) (gvs_cons sI sW (gv_c (v := .str "out") (fun H i => ⟨.fl (.str "out"), ⟨rfl, by decide +kernel⟩, (fun z => nomatch z), .inl (nm_no (by decide +kernel))⟩)) (gvs_cons sI sW (gv_c (v := .str "ninesigns") (fun H i => ⟨.fl (.str "ninesigns"), ⟨rfl, by decide +kernel⟩, (fun z => nomatch z), .inl (nm_no (by decide +kernel))⟩)) (gvs_cons sI sW (gv_c (v := .str "a b") (fun H i => ⟨.fl (.str "a b"), ⟨rfl, by decide +kernel⟩, (fun z => nomatch z), .inl (nm_no (by decide +kernel))⟩)) (gvs_cons sI sW (gv_c (v := .int 5) (fun H i => ⟨.fl (.int 5), ⟨rfl, by decide +kernel⟩, (fun z => nomatch z), .inl rfl⟩)) (gvs_cons sI sW (gv_lst (vals := [.str "x"]) (gx_c gx_nil) (by show 1 ≤ sizeLine; decide) (fun H a i n => ⟨.sq [.str "x"], ⟨a, rfl, .inl upd_same, by show 1 ≤ 20; decide, fl_of (flat_cons (by decide +kernel) flat_nil)⟩, fun z => i.fresh n (by injection z), .inl rfl⟩)) (gvs_cons sI sW (gv_tup (vals := [.str "q"]) (gx_c gx_nil) (by show 1 ≤ sizeLine; decide) (fun H a i n => ⟨.sq [.str "q"], ⟨a, rfl, .inr upd_same, by show 1 ≤ 20; decide, fl_of (flat_cons (by decide +kernel) flat_nil)⟩, fun z => i.fresh n (by injection z), .inl rfl⟩)) gvs_nil))))))))) x2 (by show 9 ≤ sizeLine; decide) fun xs Hl l sl nl hl ll all => ?_)⟩)
      refine ⟨_, rfl, _, rfl, _, rfl, a, _, rfl, SqL.of (sl _ _ h2.pa), fun q nq => ?_⟩
      rw [cut_take _ _ hj]
      have sq := same_upd (o := .lst ((h.parts.take j).map V.str)) nq
      refine ⟨l, q, xs, _, rfl, rfl, sq _ _ hl, upd_same, by rw [List.length_map, List.length_take]; omega, fun z nz => ?_⟩
      have sz := same_upd (o := .lst (xs ++ (h.parts.take j).map V.str)) nz
      have slz := (sl.trans sq).trans sz
      have xz := x2.same slz
      refine ⟨p, z, _, rfl, (fun e => ((x2.same sl).same sq).fresh nz e.symm), xz, upd_same, by rw [List.length_append]; omega, by rw [List.length_append, List.length_map, List.length_take]; omega, fun x H3 hx b3 x3 => ?_⟩
      have h3 := (h2.same slz).but b3 xz
      obtain ⟨t, xt, _, gt⟩ : Wv p (fun t => nmT t = false ∨ ∃ s, s ∈ h.parts.take j ∧ t = strT s) H3 x := by
        refine Wv.but b3 ?_
        rcases List.mem_append.mp hx with y | y
        · exact sW _ _ _ (sq.trans sz) (all x y)
        · obtain ⟨s, hs, rfl⟩ := List.mem_map.mp y
          exact ⟨strT s, ⟨rfl, n16_flat (good_parts good s (List.mem_of_mem_take hs))⟩, (fun z => nomatch z), .inr ⟨s, hs, rfl⟩⟩
      refine ret_of (tup3 (ins_ok (a := a) (vs := h.parts.map V.str) (j := j) (x := x) rfl h3.pa rfl rfl (by rw [List.length_map]; exact hj) (by rw [List.length_map]; omega) fun H4 l4 s4 nl4 hl4 => ⟨_, rfl, _, rfl, by show 3 ≤ sizeLine; decide, fun T1 n1 => ⟨_, rfl, by show 2 ≤ sizeLine; decide, fun T nT => ?_⟩⟩))
      have h4 := h3.same s4
      have av4 := av_ins hl4 (paired_strs fun y hy => n16_flat (good_parts good y hy)) (xt.same s4) (by rw [List.length_map]; omega) (by rw [List.length_map]; exact hj)
      refine fin ((((b1.trans b2).trans (But.of_same slz)).trans b3).trans (But.of_same s4)) (x3.same s4) av4 (av_doors good h4) (av_cells good h4) (.inl (.inr ⟨h.parts.take j, t, _, by rw [List.map_take], ⟨by rw [List.length_take]; omega, (List.take_sublist j h.parts).nodup (parts_good gH).nodup, fun y hy => (parts_good gH).name y (List.mem_of_mem_take hy)⟩, .inr gt, rfl⟩)) (by rw [List.length_take, Nat.min_eq_left hj]) n1 nT
    refine Eq.mpr (congrArg (fun b => ite (b = true) _ _) (fq (n := 1) e1)) (iteF ?_)
    refine ⟨_, rfl, rfl, _, rfl, ?_⟩
    by_cases e2 : fo = 2
    · refine Eq.mpr (congrArg (fun b => ite (b = true) _ _) (ft (n := 2) e2)) (iteT ?_)
      refine ret_of (tup3 (lc_sgn (n := 9) abc9 (by decide) (by decide) (by decide) (by intro; rfl) (by intro; rfl) fun H2 D s2 nD hD => ⟨Nat.zero_le _, fun l1 n1 => ⟨Nat.zero_le _, fun l2 n2 => ⟨by show 3 ≤ sizeLine; decide, fun T1 nT1 => ⟨by show 2 ≤ sizeLine; decide, fun T nT => ?_⟩⟩⟩⟩))
      have sA := same_upd (o := .lst []) n1
      have sB := same_upd (o := .lst []) n2
      have sAB := (s2.trans sA).trans sB
      exact fin (B := .sq []) (C := .sq []) (b1.trans (But.of_same sAB)) (x1.same sAB) (av_strs (.inl ((sA.trans sB) _ _ hD)) (fun y hy => by obtain ⟨i, _, rfl⟩ := List.mem_map.mp hy; exact sgn_flat (by decide)) (by decide)) ⟨l1, [], rfl, .inl (sB _ _ upd_same), .nil, by decide⟩ ⟨l2, [], rfl, .inl upd_same, .nil, by decide⟩ bad9 rfl nT1 nT
    refine Eq.mpr (congrArg (fun b => ite (b = true) _ _) (fq (n := 2) e2)) (iteF ?_)
    refine ⟨_, rfl, rfl, _, rfl, ?_⟩
    by_cases e3 : fo = 3
    · refine Eq.mpr (congrArg (fun b => ite (b = true) _ _) (ft (n := 3) e3)) (iteT ?_)
      refine ret_of (tup3 ⟨_, rfl, call2 ⟨_, rfl, lst_gv (n := 3) sWf (gvs_cons sI sWf (gv_c (v := .non) (fun H i => ⟨.fl (.non), ⟨rfl, by decide +kernel⟩, (fun z => nomatch z), ⟨_, rfl⟩⟩)) (gvs_cons sI sWf (gv_c (v := .str "") (fun H i => ⟨.fl (.str ""), ⟨rfl, by decide +kernel⟩, (fun z => nomatch z), ⟨_, rfl⟩⟩)) (gvs_cons sI sWf (gv_c (v := .int 7) (fun H i => ⟨.fl (.int 7), ⟨rfl, by decide +kernel⟩, (fun z => nomatch z), ⟨_, rfl⟩⟩)) gvs_nil))) x1 (by show 3 ≤ sizeLine; decide) fun xs Hl l sl nl hl ll all => ⟨p, l, xs, rfl, (fun z => x1.fresh nl z.symm), x1.same sl, hl, by omega, by omega, fun x H3 hx b3 x3 => ?_⟩⟩⟩)
      have h3 := (h1.same sl).but b3 (x1.same sl)
      obtain ⟨u, av0⟩ := Wa.butF (H' := H3) (all x hx)
      refine ⟨_, rfl, by show 3 ≤ sizeLine; decide, fun T1 n1 => ⟨_, rfl, a, _, rfl, .inl (SqL.of (same_upd n1 _ _ h3.pa)), by show 2 ≤ sizeLine; decide, fun T nT => ?_⟩⟩
      exact fin ((b1.trans (But.of_same sl)).trans b3) x3 (av_parts good h3) av0 (av_cells good h3) (.inr (.inl ⟨h.parts, okP, .inl ⟨⟨u, rfl⟩, rfl⟩⟩)) (by rw [List.length_map]) n1 nT
    refine Eq.mpr (congrArg (fun b => ite (b = true) _ _) (fq (n := 3) e3)) (iteF ?_)
    refine ⟨_, rfl, _, _, rfl, rfl, _, rfl, ?_⟩
    by_cases e4 : fo < 6
    · rw [decide_eq_true (show ((fo : Nat) : Int) < 6 by omega)]
      refine iteT ?_
      refine seq_set ⟨_, rfl, _, rfl, b, _, rfl, .inl (SqL.of hd1), _, _, rfl, rfl, p, _, rfl, x1, by rw [ld1]; omega, by rw [ld1]; omega, fun r2 H2 r20 r21 b2 x2 => ?_⟩
      rw [ld1] at r21
      have h2 := h1.but b2 x1
      obtain ⟨j, rfl⟩ : ∃ j : Nat, r2 = (j : Int) := ⟨r2.toNat, by omega⟩
      have hj : j ≤ h.doors.length := by omega
      obtain ⟨vd2, hd2, pd2⟩ := h2.da
      have ld2 := paired_len pd2
      refine seq_set (call3 ⟨_, rfl, _, rfl, op_of ⟨_, rfl, comp_ixL (j := 0) (ws := vd2.take j) (ys := ((h.doors.take j).map (·.n)).map V.str) (fun R k => ⟨_, rfl, _, rfl, _, rfl, b, _, rfl, SqL.of hd2, fun q nq => by rw [cut_takeV _ _ (by omega)]; exact k _ q (same_upd nq) upd_same⟩) (by rw [List.length_take]; omega) ?_ (by intro; rfl) (by intro; rfl) fun H3 D s3 nD hD => ?_⟩⟩)
      · rw [List.map_map]
        refine paired_map _ (paired_mono (fun v d ⟨t, e, et⟩ => ⟨t, _, e, et, atI_nat (j := 0) rfl⟩) (paired_take j pd2))
      have h3 := h2.same s3
      refine ⟨a, D, _, _, rfl, rfl, h3.pa, hD, by rw [List.length_map, List.length_map, List.length_map, List.length_take]; omega, fun z nz => ?_⟩
      have sz := same_upd (o := .lst (h.parts.map V.str ++ ((h.doors.take j).map (·.n)).map V.str)) nz
      have s3z := s3.trans sz
      have xz := x2.same s3z
      have h4 := h3.same sz
      refine ⟨p, a, z, h.parts, h.parts ++ (h.doors.take j).map (·.n), rfl, xz, (xz.ne h4.pa (strs_box _)), (fun e => (x2.same s3).fresh nz e), h4.pa, by rw [upd_same, List.map_append], p1, by omega, by rw [List.length_append]; omega, by rw [List.length_append, List.length_map, List.length_take]; omega, good_parts good, fun y hy => ?_, fun x H5 b5 x5 wx => ?_⟩
      · rcases List.mem_append.mp hy with y1 | y1
        · exact good_parts good y y1
        · obtain ⟨d, hd, rfl⟩ := List.mem_map.mp y1
          exact good_doors good d (List.mem_of_mem_take hd)
      have h5 := h4.but b5 xz
      obtain ⟨t, xt, _, gt⟩ := wx
      obtain ⟨vd5, hd5, pd5⟩ := h5.da
      have ld5 := paired_len pd5
      refine ret_of (tup3 ⟨_, rfl, ins_ok (a := b) (vs := vd5) (j := j) (x := x) rfl hd5 rfl rfl (by omega) (by omega) fun H6 l6 s6 nl6 hl6 => ⟨_, rfl, by show 3 ≤ sizeLine; decide, fun T1 n1 => ⟨_, rfl, a, _, rfl, .inl (SqL.of (same_upd n1 _ _ (s6 _ _ h5.pa))), _, rfl, _, _, rfl, rfl, by show 2 ≤ sizeLine; decide, fun T nT => ?_⟩⟩⟩)
      have h6 := h5.same s6
      have av6 := av_ins hl6 (paired_mono (fun _ _ q => q.same s6) (tvs_doors good pd5)) (xt.same s6) (by rw [List.length_map]; omega) (by omega)
      have odd : OddThing doorB h.parts h.parts 12 ((h.doors.map dT).take j) ((h.doors.map (·.n)).take j) t := .inr (gt.imp id fun ⟨n, e, m⟩ => ⟨n, e, by rw [← List.map_take]; exact m⟩)
      refine fin ((((b1.trans b2).trans (But.of_same s3z)).trans b5).trans (But.of_same s6)) (x5.same s6) (av_parts good h6) av6 (av_cells good h6) (.inr (.inl ⟨h.parts, okP, .inr ⟨_, t, _, _, rfl, okt_take okD.2 j, odd, rfl⟩⟩)) ?_ n1 nT
      rw [List.length_take, List.length_map, List.length_map, Nat.min_eq_left (by omega)]
      rfl
    rw [decide_eq_false (show ¬ ((fo : Nat) : Int) < 6 by omega)]
    refine iteF ⟨_, rfl, rfl, _, rfl, ?_⟩
    have pair_z : ∀ {Hx : Hp} {xs : List V} {g : String} {n : Nat} {q : Str} {X : Nat → Tv} {vs : Nat → List V}, (∀ i, X i = .sq (vs i)) → (∀ i, (vs i).length ≤ 20 ∧ ∀ x, x ∈ vs i → flatOk x = true) → xs.length = n → (∀ i x, xs[i]? = some x → ∃ t, x = .ref t ∧ Hx t = some (.tup (vs i))) → Paired (TvAt Hx) xs ((List.range n).map X) := by
      intro Hx xs g n q X vs hX fl lx all
      refine paired_of (by rw [List.length_map, List.length_range, lx]) fun i x y hx hy => ?_
      obtain ⟨t, rfl, et⟩ := all i x hx
      rw [List.getElem?_map] at hy
      obtain ⟨m, hm, rfl⟩ := Option.map_eq_some_iff.mp hy
      obtain ⟨hi, rfl⟩ := List.getElem?_eq_some_iff.mp hm
      rw [List.getElem_range, hX]
      exact ⟨t, rfl, .inr et, (fl i).1, (fl i).2⟩
    obtain ⟨q0, rest0, eps⟩ : ∃ q0 rest0, h.parts = q0 :: rest0 := by
      cases e : h.parts with
      | nil => rw [e] at p1; simp at p1
      | cons x y => exact ⟨x, y, rfl⟩
    have hq0 : q0 ∈ h.parts := by rw [eps]; exact List.mem_cons_self ..
    have fq0 := n16_flat (good_parts good q0 hq0)
    by_cases e6 : fo = 6
    · refine Eq.mpr (congrArg (fun b => ite (b = true) _ _) (ft (n := 6) e6)) (iteT ?_)
      refine ⟨_, rfl, p, _, rfl, x1, by decide, by decide, fun r2 H2 r20 r21 b2 x2 => ⟨rfl, _, rfl, ?_⟩⟩
      have h2 := h1.but b2 x1
      refine ite2 (fun _ => ?_) (fun _ => ?_)
      · refine ret_of (tup3 ⟨_, rfl, _, rfl, lc_rng (n := 9) (fun i H x => ∃ t, x = .ref t ∧ H t = some (.tup [.str (sgn "z" i), .str q0, .bl false])) (fun i H H' x s ⟨t, e, et⟩ => ⟨t, e, s _ _ et⟩) (by decide) (by intro; rfl) ?_ fun H3 D xs s3 nD hD lx all => ?_⟩)
        · intro i H3 Q' hi s3 k'
          refine tup_of (sgn_te (n := 9) abc9 (by decide) (by decide) rfl hi ⟨_, rfl, a, _, _, _, rfl, rfl, SqL.of (s3 _ _ h2.pa), atI_nat (j := 0) (by rw [eps]; rfl), by show 3 ≤ sizeLine; decide, fun t nt => ?_⟩)
          exact k' _ _ (same_upd nt) ⟨t, rfl, upd_same⟩
        · refine ⟨by show 3 ≤ sizeLine; decide, fun T1 n1 => ⟨_, rfl, _, _, rfl, rfl, by show 2 ≤ sizeLine; decide, fun T nT => ?_⟩⟩
          have h3 := h2.same s3
          refine fin ((b1.trans b2).trans (But.of_same s3)) (x2.same s3) (av_parts good h3) (av_doors good h3) (C := .sq ((List.range 9).map fun i => cT (cellN q0 i))) ⟨D, xs, rfl, .inl hD, pair_z (g := "") (q := q0) (fun i => rfl) (fun i => ⟨by show 3 ≤ 20; decide, flat_cons (sgn_flat (by decide)) (flat_cons fq0 (flat_cons rfl flat_nil))⟩) lx all, by rw [List.length_map, List.length_range]; decide⟩ (badZ good hq0) rfl n1 nT
      · refine ⟨_, rfl, rfl, _, rfl, ?_⟩
        refine Eq.mpr (congrArg (fun b => ite (b = true) _ _) (ft (n := 6) e6)) (iteT ?_)
        refine ret_of (tup3 ⟨_, rfl, lc_rng (n := 13) (fun i H x => ∃ t, x = .ref t ∧ H t = some (.tup [.str (sgn "w" i), .str "out", .str q0, .bl true])) (fun i H H' x s ⟨t, e, et⟩ => ⟨t, e, s _ _ et⟩) (by decide) (by intro; rfl) ?_ fun H3 D xs s3 nD hD lx all => ?_⟩)
        · intro i H3 Q' hi s3 k'
          refine tup_of (sgn_te (n := 13) abc13 (by decide) (by decide) rfl hi ⟨_, rfl, a, _, _, _, rfl, rfl, SqL.of (s3 _ _ h2.pa), atI_nat (j := 0) (by rw [eps]; rfl), by show 4 ≤ sizeLine; decide, fun t nt => ?_⟩)
          exact k' _ _ (same_upd nt) ⟨t, rfl, upd_same⟩
        · have h3 := h2.same s3
          refine ⟨_, rfl, by show 3 ≤ sizeLine; decide, fun T1 n1 => ⟨_, rfl, a, _, rfl, .inl (SqL.of (same_upd n1 _ _ h3.pa)), _, _, rfl, rfl, by show 2 ≤ sizeLine; decide, fun T nT => ?_⟩⟩
          refine fin ((b1.trans b2).trans (But.of_same s3)) (x2.same s3) (av_parts good h3) (B := .sq ((List.range 13).map fun i => dT (doorN q0 i))) ⟨D, xs, rfl, .inl hD, pair_z (g := "") (q := q0) (fun i => rfl) (fun i => ⟨by show 4 ≤ 20; decide, flat_cons (sgn_flat (by decide)) (flat_cons (show flatOk (.str "out") = true from by decide +kernel) (flat_cons fq0 (flat_cons rfl flat_nil)))⟩) lx all, by rw [List.length_map, List.length_range]; decide⟩ (av_cells good h3) (badW good hq0) (by rw [List.length_map]; rfl) n1 nT
    refine Eq.mpr (congrArg (fun b => ite (b = true) _ _) (fq (n := 6) e6)) (iteF (iteF ?_))
    refine ⟨_, rfl, rfl, _, rfl, ?_⟩
    refine Eq.mpr (congrArg (fun b => ite (b = true) _ _) (fq (n := 6) e6)) (iteF ?_)
    refine ⟨_, rfl, rfl, _, rfl, ?_⟩
    by_cases e7 : fo = 7
    · refine Eq.mpr (congrArg (fun b => ite (b = true) _ _) (ft (n := 7) e7)) (iteT ?_)
      refine ret_of (tup3 ⟨_, rfl, _, rfl, call2 ⟨_, rfl, lst_gv (n := 3) sWf (gvs_cons sI sWf (gv_c (v := .non) (fun H i => ⟨.fl (.non), ⟨rfl, by decide +kernel⟩, (fun z => nomatch z), ⟨_, rfl⟩⟩)) (gvs_cons sI sWf (gv_c (v := .str "c") (fun H i => ⟨.fl (.str "c"), ⟨rfl, by decide +kernel⟩, (fun z => nomatch z), ⟨_, rfl⟩⟩)) (gvs_cons sI sWf (gv_c (v := .int 0) (fun H i => ⟨.fl (.int 0), ⟨rfl, by decide +kernel⟩, (fun z => nomatch z), ⟨_, rfl⟩⟩)) gvs_nil))) x1 (by show 3 ≤ sizeLine; decide) fun xs Hl l sl nl hl ll all => ⟨p, l, xs, rfl, (fun z => x1.fresh nl z.symm), x1.same sl, hl, by omega, by omega, fun x H3 hx b3 x3 => ?_⟩⟩⟩)
      have h3 := (h1.same sl).but b3 (x1.same sl)
      obtain ⟨u, av0⟩ := Wa.butF (H' := H3) (all x hx)
      refine ⟨by show 3 ≤ sizeLine; decide, fun T1 n1 => ⟨_, rfl, by show 2 ≤ sizeLine; decide, fun T nT => ?_⟩⟩
      exact fin ((b1.trans (But.of_same sl)).trans b3) x3 (av_parts good h3) (av_doors good h3) av0 (.inr (.inr ⟨h.parts, _, _, okP, okD, .inl ⟨⟨u, rfl⟩, rfl⟩⟩)) (by rw [List.length_append, List.length_map]; rfl) n1 nT
    refine Eq.mpr (congrArg (fun b => ite (b = true) _ _) (fq (n := 7) e7)) (iteF ?_)
    refine ⟨_, rfl, _, rfl, c, _, rfl, .inl (SqL.of hc1), _, _, rfl, rfl, p, _, rfl, x1, by rw [lc1]; omega, by rw [lc1]; omega, fun r2 H2 r20 r21 b2 x2 => ?_⟩
    rw [lc1] at r21
    have h2 := h1.but b2 x1
    obtain ⟨j, rfl⟩ : ∃ j : Nat, r2 = (j : Int) := ⟨r2.toNat, by omega⟩
    have hj : j ≤ h.cells.length := by omega
    obtain ⟨vd2, hd2, pd2⟩ := h2.da
    obtain ⟨vc2, hc2, pc2⟩ := h2.ca
    have ld2 := paired_len pd2
    have lc2 := paired_len pc2
    dsimp only
    refine seq_set (call3 ⟨_, rfl, _, rfl, op_of (op_of ⟨_, rfl, comp_ixL (j := 0) (ws := vd2) (ys := (h.doors.map (·.n)).map V.str) (fun R k => ⟨_, rfl, k _ b (Same.refl _) hd2⟩) (by omega) ?_ (by intro; rfl) (by intro; rfl) fun H3 D s3 nD hD => ?_⟩)⟩)
    · rw [List.map_map]
      refine paired_map _ (paired_mono (fun v d ⟨t, e, et⟩ => ⟨t, _, e, et, atI_nat (j := 0) rfl⟩) pd2)
    have h3 := h2.same s3
    refine ⟨a, D, _, _, rfl, rfl, h3.pa, hD, by rw [List.length_map, List.length_map, List.length_map]; omega, fun y ny => ?_⟩
    have sy := same_upd (o := .lst (h.parts.map V.str ++ (h.doors.map (·.n)).map V.str)) ny
    have s3y := s3.trans sy
    show tLc (iList _ (tSl (rSlL _) (tVar 3) tNoPart (tPart (tVar 6)))) (gName 9) tYes (tOp (rIxT K) (tVar 9) (tC (.int 0))) [9] _ _ _
    refine comp_ixL (j := 0) (ws := vc2.take j) (ys := ((h.cells.take j).map (·.n)).map V.str) (fun R k => ⟨_, rfl, _, rfl, _, rfl, c, _, rfl, SqL.of (s3y _ _ hc2), fun q nq => by rw [cut_takeV _ _ (by omega)]; exact k _ q (same_upd nq) upd_same⟩) (by rw [List.length_take]; omega) ?_ (by intro; rfl) (by intro; rfl) fun H4 D2 s4 nD2 hD2 => ?_
    · rw [List.map_map (l := h.cells.take j)]
      refine paired_map (V.str ∘ fun x : Cell => x.n) (paired_mono (R := CellAt H2) (fun v d ⟨t, e, et⟩ => ⟨t, _, e, s3y _ _ et, atI_nat (j := 0) rfl⟩) (paired_take j pc2))
    refine ⟨y, D2, _, _, rfl, rfl, s4 _ _ upd_same, hD2, by rw [List.length_append, List.length_map, List.length_map, List.length_map, List.length_map, List.length_map, List.length_take]; omega, fun z nz => ?_⟩
    have sz := same_upd (o := .lst ((h.parts.map V.str ++ (h.doors.map (·.n)).map V.str) ++ ((h.cells.take j).map (·.n)).map V.str)) nz
    have s2z := (s3y.trans s4).trans sz
    have xz := x2.same s2z
    have h5 := h2.same s2z
    refine ⟨p, a, z, h.parts, h.parts ++ h.doors.map (·.n) ++ (h.cells.take j).map (·.n), rfl, xz, (xz.ne h5.pa (strs_box _)), (fun e => ((x2.same s3y).same s4).fresh nz e), h5.pa, by rw [upd_same, List.map_append, List.map_append], p1, by omega, by rw [List.length_append, List.length_append]; omega, by rw [List.length_append, List.length_append, List.length_map, List.length_map, List.length_take]; omega, good_parts good, fun y hy => ?_, fun x H6 b6 x6 wx => ?_⟩
    · rcases List.mem_append.mp hy with y1 | y1
      · rcases List.mem_append.mp y1 with y1 | y1
        · exact good_parts good y y1
        · obtain ⟨d, hd, rfl⟩ := List.mem_map.mp y1
          exact good_doors good d hd
      · obtain ⟨d, hd, rfl⟩ := List.mem_map.mp y1
        exact good_cells good d (List.mem_of_mem_take hd)
    have h6 := h5.but b6 xz
    obtain ⟨t, xt, _, gt⟩ := wx
    obtain ⟨vc6, hc6, pc6⟩ := h6.ca
    have lc6 := paired_len pc6
    refine ret_of (tup3 ⟨_, rfl, _, rfl, ins_ok (a := c) (vs := vc6) (j := j) (x := x) rfl hc6 rfl rfl (by omega) (by omega) fun H7 l7 s7 nl7 hl7 => ⟨by show 3 ≤ sizeLine; decide, fun T1 n1 => ⟨_, rfl, _, rfl, _, _, rfl, rfl, by show 2 ≤ sizeLine; decide, fun T nT => ?_⟩⟩⟩)
    have h7 := h6.same s7
    have av7 := av_ins hl7 (paired_mono (fun _ _ q => q.same s7) (tvs_cells good pc6)) (xt.same s7) (by rw [List.length_map]; omega) (by omega)
    have okC := cells_good gH
    have odd : OddThing cellB h.parts (h.parts ++ h.doors.map (·.n)) 8 ((h.cells.map cT).take j) ((h.cells.map (·.n)).take j) t := .inr (gt.imp id fun ⟨n, e, m⟩ => ⟨n, e, by rw [← List.map_take]; exact m⟩)
    refine fin ((((b1.trans b2).trans (But.of_same s2z)).trans b6).trans (But.of_same s7)) (x6.same s7) (av_parts good h7) (av_doors good h7) av7 (.inr (.inr ⟨h.parts, _, _, okP, okD, .inr ⟨_, t, _, _, rfl, okt_take okC j, odd, rfl⟩⟩)) ?_ n1 nT
    rw [List.length_append, List.length_map, List.length_take, List.length_map, Nat.min_eq_left (by omega)]
    rfl
end
end K02

namespace K02
open PySem PySem.Spec PyProof.Rows L2
open Cal EnuT Sqx Exn Keys LamX Trt
/-- what _law_heard makes of the work it is given -/
def TTheard (CH CT : Addr) : (XK → Hp → VK → Prop) → Hp → VK → Prop := fun tl H Q =>
  tl (fun cls d H' => ∃ dd v, d = some dd ∧ H' dd = some (.xd [("at", v)]) ∧ ((cls = .ref CH ∧ ∀ p, H' p = none → Q (.ref p) (upd H' p (.tup [.str "house", v]))) ∨ (cls = .ref CT ∧ ∀ p, H' p = none → Q (.ref p) (upd H' p (.tup [.str "text", v]))))) H (fun _ H' => ∃ v, (some (some V.non) : Option (Option V)) = some (some v) ∧ Q v H')
/-- what of the classes is known -/
structure Two (P : Program) (w : World) (K : W.Frag) (mg : Str → Option Value) (base : Heap) (CH CT CL : Addr) : Prop where
  p : CE P w K mg base "InvalidHouse" CH "at"
  t : CE P w K mg base "InvalidText" CT "at"
  g : ClsGet K
  ep : W.exmAny K (.ref CH) [.ref CH] = some true
  en : W.exmAny K (.ref CT) [.ref CH] = some false
  et : W.exmAny K (.ref CT) [.ref CT] = some true
  l : mg "LightError" = some (.ref CL)
  kp : W.kitOne K (.ref CH) (.ref CL) = some true
  kt : W.kitOne K (.ref CT) (.ref CL) = some true
abbrev NW : List Str := ["work", "found", "error"]
theorem scWg : FnScope NW ["work"] (defScope sHeard) := ⟨rfl, rfl, rfl, by decide +kernel, rfl, by decide +kernel, by decide +kernel⟩
theorem heard_gives {X : Cx} {q : Str} {g CH CT CL : Addr} {cdg : Value} (W2 : Two X.prog X.w X.K X.mg X.base CH CT CL) (B : Bl X.mg) :
    GivesTo X NW "_law_heard" (defScope sHeard) g cdg (defBody sHeard) "work" q (TTheard CH CT) := by
  intro f c' s H Q tl act hc h
  refine ⟨_, pss_cons (ps_set (i := 1) scWg.nd rfl (Or.inl rfl) pe_non) (pss_cons (ps_try_manyA (X := (cxOf C8.CX0 X.prog X.w X.K X.mg X.base NW "_law_heard" (defScope sHeard) g cdg X.A X.stack s H C8.E0).nox)
      (tb := fun W D σ H => ∃ Ech : XK, (∀ cls d σ' H', σ'.length = 3 → Ech cls d H' → W cls d σ' H') ∧ σ[0]? = some (some (.ref f)) ∧ H c' = some (CodeO c' q) ∧ tl Ech H (fun _ H1 => D.nx σ H1))
      rfl rfl scWg.nd LamX.takes0 (fun W pn xe tk _ => ?_)
      (.cons (tst_one ⟨rfl, by decide, .inl W2.p.m⟩) (i := 2) rfl rfl (fun a oe cls d pn hz hf => pss_one (ps_set (i := 1) scWg.nd rfl (Or.inl rfl) (pe_ifExp (pt_val (pe_callB (call_isF W2.g hz hf) (by rfl) B.isi (by decide +kernel) (pa_cons (pv 2) (pa_cons (pe_glob (v := .ref CL) rfl W2.l rfl) pa_nil))))
        (pe_tup (pa_cons pe_str (pa_cons (pe_errF hz hf (pv 2)) pa_nil))) pe_non)))
      (.cons (tst_one ⟨rfl, by decide, .inl W2.t.m⟩) (i := 2) rfl rfl (fun a oe cls d pn hz hf => pss_one (ps_set (i := 1) scWg.nd rfl (Or.inl rfl) (pe_ifExp (pt_val (pe_callB (call_isF W2.g hz hf) (by rfl) B.isi (by decide +kernel) (pa_cons (pv 2) (pa_cons (pe_glob (v := .ref CL) rfl W2.l rfl) pa_nil))))
        (pe_tup (pa_cons pe_str (pa_cons (pe_errF hz hf (pv 2)) pa_nil))) pe_non))) .nil))) (pss_one (ps_ret (pv 1)))), ?_⟩
  · refine ⟨fun pins s' σ H D I h' => ?_⟩
    obtain ⟨Ech, hW, h1, h2, h3⟩ := h'
    exact (pss_one (ps_expr (act _ pn xe Ech _ _ (takes_len tk) (fun cls d σ' H' e l => hW cls d σ' H' l e)))).run pins s' σ H D I ⟨h1, h2, h3⟩
  · refine ⟨_, fun cls d σ' H' hl z => ?_, rfl, hc, h⟩
    obtain ⟨dd, v, rfl, hd, z⟩ := z
    match σ', hl with
    | [w0, w1, w2], _ =>
      rcases z with ⟨rfl, z⟩ | ⟨rfl, z⟩
      · refine ⟨true, W2.ep, fun _ a na => ?_, fun z => nomatch z⟩
        refine ⟨_, rfl, _, _, _, _, _, W2.p.T, _, _, _, dd, _, rfl, .own CL, rfl, rfl, hd, W2.kp, _, rfl, iteT ?_⟩
        exact ⟨⟨CH, rfl, W2.p.T.xf, W2.p.no⟩, _, rfl, rfl, dd, _, v, rfl, hd, rfl, by show 2 ≤ sizeLine; decide, fun p np => ⟨_, rfl, z p np⟩⟩
      · refine ⟨false, W2.en, (fun z => nomatch z), fun _ => ⟨true, W2.et, fun _ a na => ?_, fun z => nomatch z⟩⟩
        refine ⟨_, rfl, _, _, _, _, _, W2.t.T, _, _, _, dd, _, rfl, .own CL, rfl, rfl, hd, W2.kt, _, rfl, iteT ?_⟩
        exact ⟨⟨CT, rfl, W2.t.T.xf, W2.t.no⟩, _, rfl, rfl, dd, _, v, rfl, hd, rfl, by show 2 ≤ sizeLine; decide, fun p np => ⟨_, rfl, z p np⟩⟩
/-- _law_heard, by its name in the module -/
structure Refd (P : Program) (w : World) (K : W.Frag) (mg : Str → Option Value) (base : Heap) (CH CT CL : Addr) : Prop where
  two : Two P w K mg base CH CT CL
  bl : Bl mg
  ex : ∃ (g : Addr) (oc : Value) (od : Option Addr) (kV doc pm : Value) (an : Option Addr) (cdv ct : Value) (osl : Array (Option Value)), mg "_law_heard" = some (.ref g) ∧ W.keepIn K (.ref g) = true ∧
    K.lookup g = some ⟨oc, od, .func (W.fnOf "_law_heard" "_law_heard" (defArgs sHeard) (defBody sHeard) (defScope sHeard) .none kV doc pm an cdv ct), osl⟩ ∧ W.codeIn K cdv "_law_heard" = true
theorem pe_heard {X : Cx} {CH CT CL c P : Addr} {T : List (Addr × Str)} {k : Nat} {params : Arguments} {body : Expr} {scope : Scope} {t : XK → TE} {p lpos pos : Pos} (R : Refd X.prog X.w X.K X.mg X.base CH CT CL) (hg : Gl X "_law_heard")
    (TB : TabB X.base X.mg c P) (hcode : X.env.code = .ref c) (hmT : (P, X.env.qual ++ "<lambda>") ∈ T) (hu : ∀ p ∈ T, p.1 = P → p.2 = X.env.qual ++ "<lambda>") (hr : Room (k + 2) X.A) (L : LamS X.env.scope scope) (hdef : defaultsOf params X.env = ([], []))
    (hbind : ∀ (q : Str) (cl : List (Str × Addr)) (pm cv ctv : Value), bindArgs (W.kla_fn "<lambda>" q params body scope cl pm cv ctv) ⟨[], []⟩ = pure [])
    (hbody : ∀ (A : Around) (outer : List Env) (s : Shared) (H : Hp) (E : XK) (f c' : Addr), Room k (A.deeper (lamEnv X scope s.heap.objs.size f c')) → PE (lamCx X A outer s H E scope f c') body (t E)) :
    PE X (.Call (.Name "_law_heard" p) [.Lambda params body scope lpos] [] pos) (tLam T (TTheard CH CT) t) := by
  obtain ⟨g, oc, od, kV, doc, pm, an, cdv, ct, osl, m, kp, lk, hcd⟩ := R.ex
  exact pe_lamcall (a := "work") hg m kp lk hcd (.all fun us hl => match us, hl with | [_], _ => rfl) scWg rfl (.inl rfl) (heard_gives R.two R.bl) TB hcode hmT hu hr L hdef hbind hbody (by decide) (by decide) (by decide)
theorem tabs_butB {p : Addr} {H H' : Hp} {T : List (Addr × Str)} (d : Box H p) (s : But p H H') (t : Tabs T H) : Tabs T H' := fun x hx => by
  obtain ⟨ps, h1, h2, h3⟩ := t x hx
  obtain ⟨b0, b1, b2, hp, _⟩ := d
  refine ⟨ps, s _ _ (ne_of h1 hp (fun z => by cases z)) h1, h2, fun pos cv hc => ?_⟩
  obtain ⟨c, e1, e2⟩ := h3 pos cv hc
  exact ⟨c, e1, s _ _ (ne_of e2 hp (fun z => by cases z)) e2⟩
theorem Box.ext {H H' : Hp} {p : Addr} (d : Box H p) (s : ExtN H H') : Box H' p := by
  obtain ⟨b0, b1, b2, e, h⟩ := d
  exact ⟨b0, b1, b2, s _ _ e (fun _ z => nomatch z), h⟩
end K02

namespace K02
open PySem PySem.Spec PyProof.Rows L2
open Cal EnuT Sqx Exn Keys LamX

/-! ### texts of houses, read -/
def plainW (s : Str) : Bool := (!s.cps.toList.contains 32) && (!s.cps.toList.contains 10) && decide (s.length ≤ 8)
def N20 : List Str := N16 ++ [("out" : Str), "zz", "X", "", "part", "door", "cell", "open", "shut", "kept"]
theorem n20_plain : ∀ x, x ∈ N20 → plainW x = true := by
  have h : N20.all plainW = true := by decide +kernel
  exact fun x hx => List.all_eq_true.mp h x hx
theorem n16_20 {x : Str} (h : x ∈ N16) : x ∈ N20 := List.mem_append_left _ h
structure Plain (ws : List Str) : Prop where
  ne : ws ≠ []
  all : ∀ x, x ∈ ws → x ∈ N20
  few : ws.length ≤ 5
theorem no32 {x : Str} (h : x ∈ N20) : 32 ∉ Tx.L x := by
  have := n20_plain x h
  unfold plainW at this
  simp only [Bool.and_eq_true, Bool.not_eq_true'] at this
  intro z
  have := this.1.1
  rw [List.contains_iff_mem.mpr z] at this
  cases this
theorem no10 {x : Str} (h : x ∈ N20) : 10 ∉ Tx.L x := by
  have := n20_plain x h
  unfold plainW at this
  simp only [Bool.and_eq_true, Bool.not_eq_true'] at this
  intro z
  have := this.1.2
  rw [List.contains_iff_mem.mpr z] at this
  cases this
theorem len8 {x : Str} (h : x ∈ N20) : x.length ≤ 8 := by
  have := n20_plain x h
  unfold plainW at this
  simp only [Bool.and_eq_true, decide_eq_true_eq] at this
  exact this.2
def rowW (ws : List Str) : Str := Txt.join " " ws
theorem words_row {ws : List Str} (p : Plain ws) : wordsOf (rowW ws) = ws := Tx.split_join (c := 32) p.ne fun x hx => no32 (p.all x hx)
theorem mem_join {c : Nat} {sep : Str} : ∀ {xs : List Str}, c ∈ Tx.L (Str.join sep xs) → c ∈ Tx.L sep ∨ ∃ x, x ∈ xs ∧ c ∈ Tx.L x
  | [], h => by
    have : c ∈ ([] : List Nat) := h
    cases this
  | [x], h => .inr ⟨x, List.mem_cons_self .., h⟩
  | x :: y :: r, h => by
    rw [Tx.L_join] at h
    rcases List.mem_append.mp h with z | z
    · exact .inr ⟨x, List.mem_cons_self .., z⟩
    · rcases List.mem_append.mp z with z | z
      · exact .inl z
      · rcases mem_join z with z | ⟨w, hw, z⟩
        · exact .inl z
        · exact .inr ⟨w, List.mem_cons_of_mem _ hw, z⟩
theorem row_nl {ws : List Str} (p : Plain ws) : 10 ∉ Tx.L (rowW ws) := fun z => by
  have e : rowW ws = Str.join " " ws := StrLaws.glued_eq_join _ _
  rw [e] at z
  rcases mem_join z with z | ⟨w, hw, z⟩
  · have : (10 : Nat) ∉ Tx.L (" " : Str) := by decide
    exact this z
  · exact no10 (p.all w hw) z
theorem row_len60 {ws : List Str} (p : Plain ws) : (rowW ws).length ≤ 60 := by
  have h := join_len " " ws
  have := sum_le (ws.map fun x => x.length) 8 (fun x hx => by
    obtain ⟨y, hy, rfl⟩ := List.mem_map.mp hx
    exact len8 (p.all y hy))
  rw [List.length_map] at this
  have e1 : (" " : Str).length = 1 := rfl
  rw [e1] at h
  have := p.few
  show (Txt.join " " ws).length ≤ 60
  omega
theorem row_short {ws : List Str} (p : Plain ws) : ShortR (rowW ws) := by
  refine ⟨by have := row_len60 p; omega, ?_⟩
  rw [words_row p]
  have := p.few
  omega
def partW (n : Str) : List Str := ["part", n]
def doorW (d : Door) : List Str := ["door", d.n, d.one, d.two, if d.op = true then "open" else "shut"]
def cellW (c : Cell) : List Str := [("cell" : Str), c.n, c.p] ++ if c.k = true then [("kept" : Str)] else []
theorem partRow_eq (n : Str) : partRow n = rowW (partW n) := by
  show ("part " ++ n : Str) = Txt.join " " ["part", n]
  rw [show Txt.join " " ["part", n] = Str.join " " ["part", n] from StrLaws.glued_eq_join _ _]
  rfl
theorem doorRow_eq (d : Door) : doorRow d = rowW (doorW d) := rfl
theorem cellRow_eq (d : Cell) : cellRow d = rowW (cellW d) := rfl
/-- a house whose names are all plain -/
structure Pl (h : Hs) : Prop where
  p : ∀ x, x ∈ h.parts → x ∈ N20
  d : ∀ d, d ∈ h.doors → d.n ∈ N20 ∧ d.one ∈ N20 ∧ d.two ∈ N20
  c : ∀ c, c ∈ h.cells → c.n ∈ N20 ∧ c.p ∈ N20
theorem out20 : ("out" : Str) ∈ N20 := by decide +kernel
theorem mem20 {x : Str} (h : N20.contains x = true) : x ∈ N20 := List.contains_iff_mem.mp h
theorem Good.pl {h : Hs} (g : Good h) : Pl h where
  p := fun x hx => n16_20 (good_parts g x hx)
  d := fun d hd => by
    obtain ⟨e1, e2, _⟩ := g.ends d hd
    have ie : ∀ {x : Str}, EndIn h.parts x → x ∈ N20 := fun {x} e => by
      rcases e with rfl | e
      · exact out20
      · exact n16_20 (good_parts g x e)
    exact ⟨n16_20 (good_doors g d hd), ie e1, ie e2⟩
  c := fun d hd => ⟨n16_20 (good_cells g d hd), n16_20 (good_parts g _ (g.cin d hd))⟩
theorem pl_part {x : Str} (h : x ∈ N20) : Plain (partW x) := by
  refine ⟨List.cons_ne_nil _ _, fun y hy => ?_, by show 2 ≤ 5; decide⟩
  simp only [partW, List.mem_cons, List.not_mem_nil, or_false] at hy
  rcases hy with rfl | rfl
  · exact mem20 (by decide +kernel)
  · exact h
theorem pl_door {d : Door} (h : d.n ∈ N20 ∧ d.one ∈ N20 ∧ d.two ∈ N20) : Plain (doorW d) := by
  refine ⟨List.cons_ne_nil _ _, fun y hy => ?_, by show 5 ≤ 5; decide⟩
  simp only [doorW, List.mem_cons, List.not_mem_nil, or_false] at hy
  rcases hy with rfl | rfl | rfl | rfl | rfl
  · exact mem20 (by decide +kernel)
  · exact h.1
  · exact h.2.1
  · exact h.2.2
  · cases d.op
    · exact (show ("shut" : Str) ∈ N20 from mem20 (by decide +kernel))
    · exact (show ("open" : Str) ∈ N20 from mem20 (by decide +kernel))
theorem pl_cell {c : Cell} (h : c.n ∈ N20 ∧ c.p ∈ N20) : Plain (cellW c) := by
  refine ⟨List.cons_ne_nil _ _, fun y hy => ?_, ?_⟩
  · unfold cellW at hy
    rcases List.mem_append.mp hy with hy | hy
    · simp only [List.mem_cons, List.not_mem_nil, or_false] at hy
      rcases hy with rfl | rfl | rfl
      · exact mem20 (by decide +kernel)
      · exact h.1
      · exact h.2
    · cases ek : c.k with
      | true =>
        rw [ek, if_pos rfl] at hy
        obtain rfl := List.mem_singleton.mp hy
        exact mem20 (by decide +kernel)
      | false =>
        rw [ek, if_neg (by decide)] at hy
        exact absurd hy (List.not_mem_nil)
  · unfold cellW
    cases c.k
    · show 3 ≤ 5; decide
    · show 4 ≤ 5; decide
theorem thing_part (x : Str) : thingP (partW x) = some (0, strT x) := (tq1 ..).trans (if_pos rfl)
theorem thing_door (d : Door) : thingP (doorW d) = some (1, dT d) := by
  unfold doorW
  cases eo : d.op with
  | true =>
    rw [if_pos rfl]
    refine (tq4 ..).trans ((if_pos ⟨rfl, .inl rfl⟩).trans ?_)
    unfold dT dvs
    rw [eo]
    rfl
  | false =>
    rw [if_neg (by decide)]
    refine (tq4 ..).trans ((if_pos ⟨rfl, .inr rfl⟩).trans ?_)
    unfold dT dvs
    rw [eo]
    rfl
theorem thing_cell (c : Cell) : thingP (cellW c) = some (2, cT c) := by
  unfold cellW
  cases ek : c.k with
  | true =>
    rw [if_pos rfl]
    refine (tq3 ..).trans ((if_pos ⟨rfl, rfl⟩).trans ?_)
    unfold cT cvs
    rw [ek]
  | false =>
    rw [if_neg (by decide)]
    refine (tq2 ..).trans ((if_pos rfl).trans ?_)
    unfold cT cvs
    rw [ek]
theorem readN_app : ∀ {z y : Rd} {as bs : List Str}, readN z as = some y → readN z (as ++ bs) = readN y bs
  | z, y, [], bs, h => by
    have h : some z = some y := h
    injection h with h
    rw [h]
    rfl
  | z, y, a :: as, bs, h => by
    have h : (match step1 z a with
      | none => none
      | some z' => readN z' as) = some y := h
    show (match step1 z a with
      | none => none
      | some z' => readN z' (as ++ bs)) = _
    cases e : step1 z a with
    | none => rw [e] at h; cases h
    | some w =>
      rw [e] at h
      exact readN_app h
theorem readN_cons {z w : Rd} {a : Str} {as : List Str} (e : step1 z a = some w) : readN z (a :: as) = readN w as := by
  show (match step1 z a with
      | none => none
      | some z' => readN z' as) = _
  rw [e]
theorem step_of {z : Rd} {ws : List Str} {k : Nat} {t : Tv} (p : Plain ws) (e : thingP ws = some (k, t)) (le : z.last ≤ k) : step1 z (rowW ws) = some (put z k t) := by
  unfold step1
  rw [words_row p, e]
  exact if_neg (by omega)
theorem step_no {z : Rd} {ws : List Str} {k : Nat} {t : Tv} (p : Plain ws) (e : thingP ws = some (k, t)) (lt : k < z.last) : step1 z (rowW ws) = none := by
  unfold step1
  rw [words_row p, e]
  exact if_pos lt
theorem read_parts : ∀ (qs : List Str) (ps : List Tv), (∀ x, x ∈ qs → x ∈ N20) → readN ⟨0, ps, [], []⟩ (qs.map partRow) = some ⟨0, ps ++ qs.map strT, [], []⟩
  | [], ps, _ => by
    rw [List.map_nil, List.map_nil, List.append_nil]
    rfl
  | q :: qs, ps, h => by
    rw [List.map_cons, partRow_eq, readN_cons (step_of (pl_part (h q (List.mem_cons_self ..))) (thing_part q) (Nat.le_refl 0))]
    have := read_parts qs (ps ++ [strT q]) fun x hx => h x (List.mem_cons_of_mem _ hx)
    rw [List.append_assoc] at this
    exact this
theorem read_doors : ∀ (ds : List Door) (z : Rd), z.last ≤ 1 → (∀ d, d ∈ ds → d.n ∈ N20 ∧ d.one ∈ N20 ∧ d.two ∈ N20) → ∃ l, l ≤ 1 ∧ readN z (ds.map doorRow) = some ⟨l, z.p, z.d ++ ds.map dT, z.c⟩
  | [], z, h, _ => ⟨z.last, h, by rw [List.map_nil, List.map_nil, List.append_nil]; rfl⟩
  | q :: qs, z, h, hp => by
    obtain ⟨l, hl, e⟩ := read_doors qs (put z 1 (dT q)) (Nat.le_refl 1) fun x hx => hp x (List.mem_cons_of_mem _ hx)
    refine ⟨l, hl, ?_⟩
    rw [List.map_cons, doorRow_eq, readN_cons (step_of (pl_door (hp q (List.mem_cons_self ..))) (thing_door q) h), e]
    show some (Rd.mk l z.p ((z.d ++ [dT q]) ++ qs.map dT) z.c) = _
    rw [List.append_assoc]
    rfl
theorem read_cells : ∀ (ds : List Cell) (z : Rd), z.last ≤ 2 → (∀ d, d ∈ ds → d.n ∈ N20 ∧ d.p ∈ N20) → ∃ l, l ≤ 2 ∧ readN z (ds.map cellRow) = some ⟨l, z.p, z.d, z.c ++ ds.map cT⟩
  | [], z, h, _ => ⟨z.last, h, by rw [List.map_nil, List.map_nil, List.append_nil]; rfl⟩
  | q :: qs, z, h, hp => by
    obtain ⟨l, hl, e⟩ := read_cells qs (put z 2 (cT q)) (Nat.le_refl 2) fun x hx => hp x (List.mem_cons_of_mem _ hx)
    refine ⟨l, hl, ?_⟩
    rw [List.map_cons, cellRow_eq, readN_cons (step_of (pl_cell (hp q (List.mem_cons_self ..))) (thing_cell q) h), e]
    show some (Rd.mk l z.p z.d ((z.c ++ [cT q]) ++ qs.map cT)) = _
    rw [List.append_assoc]
    rfl
/-- what is read of a house's rows -/
theorem read_rows {h : Hs} (p : Pl h) : ∃ l, readN z0 (rowsOf h) = some ⟨l, h.parts.map strT, h.doors.map dT, h.cells.map cT⟩ := by
  have e1 := read_parts h.parts [] p.p
  obtain ⟨l1, h1, e2⟩ := read_doors h.doors ⟨0, [] ++ h.parts.map strT, [], []⟩ (Nat.zero_le 1) p.d
  obtain ⟨l2, h2, e3⟩ := read_cells h.cells ⟨l1, [] ++ h.parts.map strT, [] ++ h.doors.map dT, []⟩ (by show l1 ≤ 2; omega) p.c
  refine ⟨l2, ?_⟩
  unfold rowsOf
  rw [readN_app (z := z0) e1, readN_app e2, e3]
  rfl
theorem last_mono : ∀ {z y : Rd} {rs : List Str}, readN z rs = some y → z.last ≤ y.last ∧ ∀ r k t, r ∈ rs → thingP (wordsOf r) = some (k, t) → k ≤ y.last
  | z, y, [], h => by
    have h : some z = some y := h
    injection h with h
    rw [h]
    exact ⟨Nat.le_refl _, fun r k t hr => nomatch hr⟩
  | z, y, a :: as, h => by
    have h : (match step1 z a with
      | none => none
      | some z' => readN z' as) = some y := h
    cases e : step1 z a with
    | none => rw [e] at h; cases h
    | some w =>
      rw [e] at h
      obtain ⟨i1, i2⟩ := last_mono h
      unfold step1 at e
      split at e
      · cases e
      · rename_i k0 t0 ht
        split at e
        · cases e
        · rename_i nlt
          injection e with e
          have hw : w.last = k0 := by rw [← e]; rfl
          refine ⟨by omega, fun r k t hr hk => ?_⟩
          rcases List.mem_cons.mp hr with rfl | z
          · rw [ht] at hk
            injection hk with hk
            injection hk with hk _
            omega
          · exact i2 r k t z hk
end K02

namespace K02
open PySem PySem.Spec PyProof.Rows L2
open Cal EnuT Sqx Exn Keys LamX

def FineR (r : Str) : Prop := ShortR r ∧ 10 ∉ Tx.L r ∧ r.length ≤ 60
theorem fine_row {ws : List Str} (p : Plain ws) : FineR (rowW ws) := ⟨row_short p, row_nl p, row_len60 p⟩
theorem fine_rows {h : Hs} (p : Pl h) : ∀ r, r ∈ rowsOf h → FineR r := fun r hr => by
  rcases List.mem_append.mp hr with z | z
  · obtain ⟨n, hn, rfl⟩ := List.mem_map.mp z
    rw [partRow_eq]
    exact fine_row (pl_part (p.p n hn))
  · rcases List.mem_append.mp z with z | z
    · obtain ⟨d, hd, rfl⟩ := List.mem_map.mp z
      exact fine_row (pl_door (p.d d hd))
    · obtain ⟨d, hd, rfl⟩ := List.mem_map.mp z
      exact fine_row (pl_cell (p.c d hd))
theorem join_le {xs : List Str} (f : ∀ r, r ∈ xs → FineR r) (few : xs.length ≤ 60) : (xs.map fun x => x.length).sum + xs.length * ("\n" : Str).length ≤ 9000 := by
  have := sum_le (xs.map fun x => x.length) 60 (fun x hx => by
    obtain ⟨y, hy, rfl⟩ := List.mem_map.mp hx
    exact (f y hy).2.2)
  rw [List.length_map] at this
  have e1 : ("\n" : Str).length = 1 := rfl
  rw [e1]
  omega
theorem spRead_of {C CH CT : Addr} {H : Hp} {Q : VK} {E : XK} {xs pre post : List Str} {z : Rd} (f : ∀ r, r ∈ xs → FineR r) (few : xs.length ≤ 60) (ne : xs ≠ []) (e : xs = pre ++ post) (rd : readN z0 pre = some z)
    (odd : ∀ r p, post = r :: p → step1 z r = none ∧ Bad CT H E pre.length) (aft : post = [] → After C CH H Q E z) : spRead C CH CT [.str (Txt.join "\n" xs)] H Q E := by
  refine ⟨_, rfl, .inr ⟨_, pre, post, z, rfl, ?_, ?_, ?_, fun r hr => (f r (by rw [e]; exact hr)).1, rd, odd, aft⟩⟩
  · have := join_len "\n" xs
    have := join_le f few
    omega
  · rw [← e]
    exact Tx.split_join (c := 10) ne fun x hx => (f x hx).2.1
  · rw [← e]
    omega
/-! the rows that are no rows -/
def odds (q : Str) : List Str := ["", "parts", "part a b", "door n out", ("door n out " ++ q) ++ " ajar", "door n out " ++ q, "cells n", "cell n a held", "Part x", " part x", "part x ", "cell n a kept kept", "hall", "door  n out a open"]
def oddOk (r : Str) : Bool := (thingP (wordsOf r)).isNone && (decide (r.length ≤ 60) && (decide ((wordsOf r).length ≤ 1000) && !r.cps.toList.contains 10))
theorem odds_ok : ∀ q, q ∈ N16 → ∀ r, r ∈ odds q → oddOk r = true := by
  have h : (N16.all fun q => (odds q).all oddOk) = true := by decide +kernel
  exact fun q hq r hr => List.all_eq_true.mp (List.all_eq_true.mp h q hq) r hr
theorem odd_fine {r : Str} (h : oddOk r = true) : FineR r ∧ thingP (wordsOf r) = none := by
  unfold oddOk at h
  simp only [Bool.and_eq_true, decide_eq_true_eq, Bool.not_eq_true'] at h
  obtain ⟨h1, h2, h3, h4⟩ := h
  refine ⟨⟨⟨by omega, h3⟩, fun z => ?_, h2⟩, ?_⟩
  · rw [List.contains_iff_mem.mpr z] at h4
    cases h4
  · cases e : thingP (wordsOf r) with
    | none => rfl
    | some _ => rw [e] at h1; cases h1
theorem step_odd {z : Rd} {r : Str} (h : thingP (wordsOf r) = none) : step1 z r = none := by
  unfold step1
  rw [h]
def insR (xs : List Str) (j : Nat) (r : Str) : List Str := xs.take j ++ [r] ++ xs.drop j
theorem insR_fine {xs : List Str} {j : Nat} {r : Str} (f : ∀ r, r ∈ xs → FineR r) (fr : FineR r) : ∀ q, q ∈ insR xs j r → FineR q := fun q hq => by
  unfold insR at hq
  simp only [List.mem_append, List.mem_singleton] at hq
  rcases hq with (z | rfl) | z
  · exact f q (List.mem_of_mem_take z)
  · exact fr
  · exact f q (List.mem_of_mem_drop z)
theorem insR_len {xs : List Str} {j : Nat} {r : Str} : (insR xs j r).length = xs.length + 1 := by
  unfold insR
  simp only [List.length_append, List.length_take, List.length_drop, List.length_singleton]
  omega
theorem insR_ne {xs : List Str} {j : Nat} {r : Str} : insR xs j r ≠ [] := fun z => by
  have := insR_len (xs := xs) (j := j) (r := r)
  rw [z] at this
  cases this
/-- a row that is none of the rows that may stand there -/
theorem read_bad {C CH CT : Addr} {H : Hp} {Q : VK} {E : XK} {h : Hs} (g : GoodH h) (p : Pl h) {j : Nat} {r : Str} (hj : j ≤ (rowsOf h).length) (fr : FineR r) (no : ∀ y, readN z0 ((rowsOf h).take j) = some y → step1 y r = none) (bad : Bad CT H E j) :
    spRead C CH CT [.str (Txt.join "\n" (insR (rowsOf h) j r))] H Q E := by
  obtain ⟨l, e⟩ := read_rows p
  obtain ⟨y, ey⟩ := readN_take j e
  have := rows_len g
  refine spRead_of (pre := (rowsOf h).take j) (post := r :: (rowsOf h).drop j) (insR_fine (fine_rows p) fr) (by rw [insR_len]; omega) insR_ne (by unfold insR; rw [List.append_assoc]; rfl) ey (fun r' p' e' => ?_) (fun e' => nomatch e')
  cases e'
  refine ⟨no y ey, ?_⟩
  rw [List.length_take, Nat.min_eq_left hj]
  exact bad
/-- a text that tells a house -/
theorem read_good {C CH CT : Addr} {H : Hp} {Q : VK} {E : XK} {h : Hs} (g : GoodH h) (p : Pl h) (k : ∀ H' o, Same H H' → H o = none → HouseIns H' C o h → Q (.ref o) H') : spRead C CH CT [.str (Txt.join "\n" (rowsOf h))] H Q E := by
  obtain ⟨l, e⟩ := read_rows p
  have := rows_len g
  have p1 := g.p1
  have p8 := g.p8
  have d12 := g.d12
  have c8 := g.c8
  refine spRead_of (pre := rowsOf h) (post := []) (fine_rows p) (by omega) (fun z => ?_) (List.append_nil _).symm e (fun r' p' e' => nomatch e') (fun _ => ⟨by rw [List.length_map]; omega, by rw [List.length_map]; omega, by rw [List.length_map]; omega, .inr ⟨h, ⟨g, rfl, rfl, rfl⟩, k⟩⟩)
  have : (rowsOf h).length = 0 := by rw [z]; rfl
  unfold rowsOf at this
  rw [List.length_append, List.length_map] at this
  omega
/-! rows that stand late -/
def hPart (h : Hs) : Hs := { h with parts := h.parts ++ [("zz" : Str)] }
def zzDoor (q : Str) : Door := ⟨"zz", "out", q, true⟩
def hDoor (h : Hs) (q : Str) : Hs := { h with doors := h.doors ++ [zzDoor q] }
theorem zz_ok : nameOk "zz" = true ∧ ("zz" : Str) ∉ N16 ∧ ("zz" : Str) ∈ N20 := by decide +kernel
theorem good_hPart {h : Hs} (g : Good h) : GoodH (hPart h) ∧ Pl (hPart h) := by
  have gH := g.toH
  have p4 := g.p4
  have pl := g.pl
  refine ⟨⟨by show 1 ≤ (h.parts ++ _).length; rw [List.length_append]; have := g.p1; omega, by show (h.parts ++ _).length ≤ 8; rw [List.length_append]; show _ + 1 ≤ 8; omega, gH.d12, gH.c8, ?_, fun x hx => ?_, fun d hd => ?_, fun c hc => List.mem_append_left _ (g.cin c hc)⟩, ⟨fun x hx => ?_, pl.d, pl.c⟩⟩
  · show (h.parts ++ [("zz" : Str)] ++ (h.doors.map (·.n) ++ h.cells.map (·.n))).Nodup
    have e : (h.parts ++ [("zz" : Str)] ++ (h.doors.map (·.n) ++ h.cells.map (·.n))).Perm ("zz" :: h.names) := by
      rw [List.append_assoc]
      exact List.perm_middle
    rw [e.nodup_iff, List.nodup_cons]
    exact ⟨fun z => zz_ok.2.1 (g.sub _ z), g.nodup⟩
  · have hx : x ∈ h.parts ++ [("zz" : Str)] ++ (h.doors.map (·.n) ++ h.cells.map (·.n)) := hx
    rcases List.mem_append.mp hx with z | z
    · rcases List.mem_append.mp z with z | z
      · exact gH.name x (List.mem_append_left _ z)
      · obtain rfl := List.mem_singleton.mp z
        exact zz_ok.1
    · exact gH.name x (List.mem_append_right _ z)
  · obtain ⟨e1, e2, e3⟩ := g.ends d hd
    exact ⟨e1.imp id (List.mem_append_left _), e2.imp id (List.mem_append_left _), e3⟩
  · rcases List.mem_append.mp hx with z | z
    · exact pl.p x z
    · obtain rfl := List.mem_singleton.mp z
      exact zz_ok.2.2
theorem good_hDoor {h : Hs} (g : Good h) {q : Str} (hq : q ∈ h.parts) : GoodH (hDoor h q) ∧ Pl (hDoor h q) := by
  have gH := g.toH
  have d5 := g.d5
  have pl := g.pl
  have q20 := n16_20 (good_parts g q hq)
  refine ⟨⟨gH.p1, gH.p8, by show (h.doors ++ _).length ≤ 12; rw [List.length_append]; show _ + 1 ≤ 12; omega, gH.c8, ?_, fun x hx => ?_, fun d hd => ?_, g.cin⟩, ⟨pl.p, fun d hd => ?_, pl.c⟩⟩
  · show (h.parts ++ ((h.doors ++ [zzDoor q]).map (·.n) ++ h.cells.map (·.n))).Nodup
    have e : (h.parts ++ ((h.doors ++ [zzDoor q]).map (·.n) ++ h.cells.map (·.n))).Perm ("zz" :: h.names) := by
      rw [List.map_append, List.append_assoc, ← List.append_assoc]
      refine List.perm_middle.trans ?_
      rw [List.append_assoc]
      exact .refl _
    rw [e.nodup_iff, List.nodup_cons]
    exact ⟨fun z => zz_ok.2.1 (g.sub _ z), g.nodup⟩
  · have hx : x ∈ h.parts ++ ((h.doors ++ [zzDoor q]).map (·.n) ++ h.cells.map (·.n)) := hx
    rw [List.map_append] at hx
    simp only [List.mem_append, List.map_cons, List.map_nil, List.mem_singleton] at hx
    rcases hx with z | (z | rfl) | z
    · exact gH.name x (List.mem_append_left _ z)
    · exact gH.name x (List.mem_append_right _ (List.mem_append_left _ z))
    · exact zz_ok.1
    · exact gH.name x (List.mem_append_right _ (List.mem_append_right _ z))
  · rcases List.mem_append.mp hd with z | z
    · exact g.ends d z
    · obtain rfl := List.mem_singleton.mp z
      exact ⟨.inl rfl, .inr hq, fun z => out_not (show ("out" : Str) ∈ N16 from (show ("out" : Str) = q from z) ▸ good_parts g q hq)⟩
  · rcases List.mem_append.mp hd with z | z
    · exact pl.d d z
    · obtain rfl := List.mem_singleton.mp z
      exact ⟨zz_ok.2.2, out20, q20⟩
theorem rows_hPart (h : Hs) : rowsOf (hPart h) = insR (rowsOf h) h.parts.length (partRow "zz") := by
  unfold insR rowsOf hPart
  have l : (h.parts.map partRow).length = h.parts.length := List.length_map ..
  rw [List.take_append_of_le_length (by omega), List.drop_append_of_le_length (by omega), ← l, List.take_length, List.drop_length]
  simp
theorem rows_hDoor (h : Hs) (q : Str) : rowsOf (hDoor h q) = insR (rowsOf h) (h.parts.length + h.doors.length) (doorRow (zzDoor q)) := by
  have l : (h.parts.map partRow ++ h.doors.map doorRow).length = h.parts.length + h.doors.length := by rw [List.length_append, List.length_map, List.length_map]
  have e : rowsOf h = (h.parts.map partRow ++ h.doors.map doorRow) ++ h.cells.map cellRow := by
    unfold rowsOf
    rw [List.append_assoc]
  unfold insR
  rw [e, List.take_append_of_le_length (by omega), List.drop_append_of_le_length (by omega), ← l, List.take_length, List.drop_length]
  unfold rowsOf hDoor
  simp
theorem late_part {h : Hs} (p : Pl h) {j : Nat} (lt : h.parts.length < j) (le : j ≤ (rowsOf h).length) : ∀ y, readN z0 ((rowsOf h).take j) = some y → step1 y (partRow "zz") = none := fun y ey => by
  rw [partRow_eq]
  refine step_no (pl_part zz_ok.2.2) (thing_part _) ?_
  have lr : h.parts.length < (rowsOf h).length := by omega
  have mem : (rowsOf h)[h.parts.length] ∈ (rowsOf h).take j := by
    refine List.mem_iff_getElem?.mpr ⟨h.parts.length, ?_⟩
    rw [List.getElem?_take_of_lt lt, List.getElem?_eq_getElem lr]
  have e : (rowsOf h)[h.parts.length] ∈ h.doors.map doorRow ++ h.cells.map cellRow := by
    have : (rowsOf h)[h.parts.length]? = (h.doors.map doorRow ++ h.cells.map cellRow)[0]? := by
      unfold rowsOf
      rw [List.getElem?_append_right (by rw [List.length_map]; omega), List.length_map, Nat.sub_self]
    rw [List.getElem?_eq_getElem lr] at this
    exact List.mem_of_getElem? this.symm
  rcases List.mem_append.mp e with z | z
  · obtain ⟨d, hd, ed⟩ := List.mem_map.mp z
    have := (last_mono ey).2 _ 1 (dT d) mem (by rw [← ed, doorRow_eq, words_row (pl_door (p.d d hd))]; exact thing_door d)
    omega
  · obtain ⟨d, hd, ed⟩ := List.mem_map.mp z
    have := (last_mono ey).2 _ 2 (cT d) mem (by rw [← ed, cellRow_eq, words_row (pl_cell (p.c d hd))]; exact thing_cell d)
    omega
theorem late_door {h : Hs} (p : Pl h) {q : Str} (q20 : q ∈ N20) {j : Nat} (lt : h.parts.length + h.doors.length < j) (le : j ≤ (rowsOf h).length) : ∀ y, readN z0 ((rowsOf h).take j) = some y → step1 y (doorRow (zzDoor q)) = none := fun y ey => by
  rw [doorRow_eq]
  refine step_no (pl_door ⟨zz_ok.2.2, out20, q20⟩) (thing_door _) ?_
  have lr : h.parts.length + h.doors.length < (rowsOf h).length := by omega
  have mem : (rowsOf h)[h.parts.length + h.doors.length] ∈ (rowsOf h).take j := by
    refine List.mem_iff_getElem?.mpr ⟨h.parts.length + h.doors.length, ?_⟩
    rw [List.getElem?_take_of_lt lt, List.getElem?_eq_getElem lr]
  have e : (rowsOf h)[h.parts.length + h.doors.length] ∈ h.cells.map cellRow := by
    have : (rowsOf h)[h.parts.length + h.doors.length]? = (h.cells.map cellRow)[0]? := by
      unfold rowsOf
      rw [← List.append_assoc, List.getElem?_append_right (by rw [List.length_append, List.length_map, List.length_map]; omega), List.length_append, List.length_map, List.length_map, Nat.sub_self]
    rw [List.getElem?_eq_getElem lr] at this
    exact List.mem_of_getElem? this.symm
  obtain ⟨d, hd, ed⟩ := List.mem_map.mp e
  have := (last_mono ey).2 _ 2 (cT d) mem (by rw [← ed, cellRow_eq, words_row (pl_cell (p.c d hd))]; exact thing_cell d)
  omega
/-! a part with a wrong name -/
theorem read_name {C CH CT : Addr} {H : Hp} {Q : VK} {E : XK} {h : Hs} (g : Good h) {x : Str} (x20 : x ∈ N20) (odd : nameOk x = false ∨ x ∈ h.parts) (bad : Bad CH H E h.parts.length) :
    spRead C CH CT [.str (Txt.join "\n" (insR (rowsOf h) h.parts.length (partRow x)))] H Q E := by
  have p := g.pl
  have gH := g.toH
  have p4 := g.p4
  have d5 := g.d5
  have c3 := g.c3
  have l : (h.parts.map partRow).length = h.parts.length := List.length_map ..
  have er : insR (rowsOf h) h.parts.length (partRow x) = (h.parts ++ [x]).map partRow ++ (h.doors.map doorRow ++ h.cells.map cellRow) := by
    unfold insR rowsOf
    rw [List.take_append_of_le_length (by omega), List.drop_append_of_le_length (by omega), ← l, List.take_length, List.drop_length]
    simp
  have e1 := read_parts (h.parts ++ [x]) [] (fun y hy => by
    rcases List.mem_append.mp hy with z | z
    · exact p.p y z
    · obtain rfl := List.mem_singleton.mp z
      exact x20)
  obtain ⟨l1, h1, e2⟩ := read_doors h.doors ⟨0, [] ++ (h.parts ++ [x]).map strT, [], []⟩ (Nat.zero_le 1) p.d
  obtain ⟨l2, h2, e3⟩ := read_cells h.cells ⟨l1, [] ++ (h.parts ++ [x]).map strT, [] ++ h.doors.map dT, []⟩ (by show l1 ≤ 2; omega) p.c
  have rl := rows_len gH
  have fr : FineR (partRow x) := by rw [partRow_eq]; exact fine_row (pl_part x20)
  refine spRead_of (pre := insR (rowsOf h) h.parts.length (partRow x)) (post := []) (z := ⟨l2, (h.parts ++ [x]).map strT, h.doors.map dT, h.cells.map cT⟩) (insR_fine (fine_rows p) fr) (by rw [insR_len]; omega) insR_ne (List.append_nil _).symm ?_ (fun r' p' e' => nomatch e') (fun _ => ⟨?_, ?_, ?_, .inl ⟨h.parts.length, .inl (.inr ⟨h.parts, strT x, [], ?_, parts_good gH, .inr (odd.imp id fun z => ⟨x, z, rfl⟩), rfl⟩), bad⟩⟩)
  · rw [er, readN_app (z := z0) e1, readN_app e2, e3]
    rfl
  · show ((h.parts ++ [x]).map strT).length ≤ 20
    rw [List.length_map, List.length_append]; show _ + 1 ≤ 20; omega
  · show (h.doors.map dT).length ≤ 20
    rw [List.length_map]; omega
  · show (h.cells.map cT).length ≤ 20
    rw [List.length_map]; omega
  · show Av.sq ((h.parts ++ [x]).map strT) = _
    rw [List.map_append]
    rfl
end K02

namespace K02
open PySem PySem.Spec PyProof.Rows L2
open Cal EnuT Sqx Exn Keys LamX Stc Gvx

/-- all but the box and the tables is as it was -/
def BN (p : Addr) (H H' : Hp) : Prop := ∀ b o, b ≠ p → H b = some o → (∀ ps, o ≠ .tbl ps) → H' b = some o
theorem BN.trans {p : Addr} {H H1 H2 : Hp} (a : BN p H H1) (b : BN p H1 H2) : BN p H H2 := fun c o n e t => b c o n (a c o n e t) t
theorem BN.of {p : Addr} {H H' : Hp} (s : Same H H') : BN p H H' := fun c o _ e _ => s _ _ e
theorem BN.but {p : Addr} {H H' : Hp} (s : But p H H') : BN p H H' := fun c o n e _ => s _ _ n e
theorem BN.ext {p : Addr} {H H' : Hp} (s : ExtN H H') : BN p H H' := fun c o _ e t => s _ _ e t
theorem HsAt.bn {H H' : Hp} {h : Hs} {a b c p : Addr} (x : HsAt H h a b c) (bt : BN p H H') (bx : Box H p) : HsAt H' h a b c := by
  obtain ⟨pa, ⟨vd, hd, pd⟩, vc, hc, pc⟩ := x
  have nt : ∀ {t xs}, H t = some (.tup xs) → t ≠ p := fun {t xs} e => bx.ne e (fun _ _ _ z => by cases z)
  exact ⟨bt _ _ (bx.ne pa (strs_box _)) pa (fun _ z => nomatch z), ⟨vd, bt _ _ (bx.ne hd (doors_box pd)) hd (fun _ z => nomatch z), paired_mono (fun _ _ r => r.mono fun t e => bt _ _ (nt e) e (fun _ z => nomatch z)) pd⟩, vc, bt _ _ (bx.ne hc (cells_box pc)) hc (fun _ z => nomatch z), paired_mono (fun _ _ r => r.mono fun t e => bt _ _ (nt e) e (fun _ z => nomatch z)) pc⟩
/-- where the law stands: the box, the tables, the rows at D -/
structure At (p D : Addr) (rows : List Str) (T : List (Addr × Str)) (H0 H : Hp) : Prop where
  bn : BN p H0 H
  box : Box H p
  tb : Tabs T H
  d : H D = some (.lst (rows.map V.str))
theorem At.same {p D : Addr} {rows : List Str} {T : List (Addr × Str)} {H0 H H' : Hp} (x : At p D rows T H0 H) (s : Same H H') : At p D rows T H0 H' := ⟨x.bn.trans (.of s), x.box.same s, x.tb.ext s, s _ _ x.d⟩
theorem At.but {p D : Addr} {rows : List Str} {T : List (Addr × Str)} {H0 H H' : Hp} (x : At p D rows T H0 H) (s : But p H H') (b : Box H' p) : At p D rows T H0 H' := ⟨x.bn.trans (.but s), b, tabs_butB x.box s x.tb, s _ _ (x.box.ne x.d (strs_box _)) x.d⟩
theorem At.ext {p D : Addr} {rows : List Str} {T : List (Addr × Str)} {H0 H H' : Hp} (x : At p D rows T H0 H) (s : ExtN H H') (t : Tabs T H') : At p D rows T H0 H' := ⟨x.bn.trans (.ext s), x.box.ext s, t, s _ _ x.d (fun _ z => nomatch z)⟩
def resD (s : Str) (i : Int) : PyData := .tuple [.str s, .int i]
theorem res_dp {K : W.Frag} {H : Hp} {p : Addr} {s : Str} {i : Int} (e : H p = some (.tup [.str s, .int i])) : Dp K H (.ref p) (resD s i) := .tup (SqT.of e) (.cons (.str _) (.cons (.int _) .nil))
theorem res_shaped (s : Str) (i : Int) (h : PyData.strOk s = true) : SeqAt.shaped (resD s i) = true := by
  simp [h, resD, SeqAt.shaped, PyData.canLay0, PyData.canLayAll0, PyData.depth, PyData.depthAll]
theorem res_eqv (s : Str) (i : Int) : PyData.eqv (resD s i) (resD s i) = true := by
  simp [resD, PyData.eqv, PyData.eqvAll]
theorem ok_text_ : PyData.strOk "text" = true := by decide +kernel
theorem ok_house_ : PyData.strOk "house" = true := by decide +kernel
theorem ins_map (xs : List Str) (j : Nat) (r : Str) : insV (xs.map V.str) j (.str r) = (insR xs j r).map V.str := by
  unfold insV insR
  rw [List.map_append, List.map_append, List.map_take, List.map_drop]
  rfl
/-- House, its class and what its methods promise -/
structure HouseC (P : Program) (w : World) (K : W.Frag) (mg : Str → Option Value) (base : Heap) (C CH CT : Addr) : Prop where
  m : mg "House" = some (.ref C)
  init : ∃ fI fdI, Mk K C fI ∧ Binds K fdI ["self", "parts", "doors", "cells"] [] ∧ FnOk P w K mg base (L2.CX P w) 4 fI fdI ["self", "parts", "doors", "cells"] (spInit C CH)
  read : ∃ mc r g fd, ClX.CRead K C mc ∧ SMet K C mc "read" r g ∧ Binds K fd ["text"] [] ∧ FnOk P w K mg base (L2.CX P w) 6 g fd ["text"] (spRead C CH CT)
  text : ∃ fT fd, Meth K C "text" fT ∧ Binds K fd ["self"] [] ∧ FnOk P w K mg base CX0 1 fT fd ["self"] (spText C)
  cl : Cls K C
def spTexts (C : Addr) (T : List (Addr × Str)) : Sp := fun vs H Q _ => ∃ (p o a b c : Addr) (h : Hs), vs = [.ref p, .ref o, .ref a, .ref b, .ref c] ∧ Box H p ∧ HouseIns H C o h ∧ HsAt H h a b c ∧ Good h ∧ Tabs T H ∧
  ∀ H', BN p H H' → Box H' p → Tabs T H' → Q (.bl true) H'
abbrev NT : List Str := ["box", "house", "parts", "doors", "cells", "rows", "at", "some", "odd", "late", "row", "first", "last", "due"]
theorem scTr : FnScope NT ["box", "house", "parts", "doors", "cells"] (defScope sTexts) := ⟨rfl, rfl, rfl, by decide +kernel, rfl, by decide +kernel, by decide +kernel⟩
abbrev qT : Str := "_law_texts_right.<locals>.<lambda>"
abbrev tJn (K : W.Frag) (te : TE) : TE := tM1 (fun x xs H Q => ∃ a p ys, x = V.str a ∧ xs = [V.ref p] ∧ (SqL K H p (List.map V.str ys) ∨ SqT K H p (List.map V.str ys)) ∧ (List.map (fun x => x.length) ys).sum + ys.length * a.length ≤ 16777216 ∧ Q (V.str (Txt.join a ys)) H) (tC (.str "\n")) te
abbrev tInsV (K : W.Frag) (i j n : Nat) : TE := tOp rCat (tOp rCat (tSl (rSlL K) (tVar i) tNoPart (tPart (tVar j))) (tLst (tCons (tVar n) tNil))) (tSl (rSlL K) (tVar i) (tPart (tVar j)) tNoPart)
abbrev tLen (K : W.Frag) (i : Nat) : TE := tCB (fun xs H Q => ∃ p ys, xs = [V.ref p] ∧ (SqL K H p ys ∨ SqT K H p ys) ∧ Q (.int (ys.length : Nat)) H) (tCons (tVar i) tNil)
abbrev tInsL (K : W.Frag) (i j n : Nat) : TE := tOp rCat (tOp rCat (tSl (rSlL K) (tVar i) tNoPart (tPart (tLen K j))) (tLst (tCons (tVar n) tNil))) (tSl (rSlL K) (tVar i) (tPart (tLen K j)) tNoPart)
theorem split_text {h : Hs} (g : GoodH h) (p : Pl h) : Txt.split (textOf h) "\n" = rowsOf h := by
  refine Tx.split_join (c := 10) (fun z => ?_) fun x hx => (fine_rows p x hx).2.1
  have p1 := g.p1
  have : (rowsOf h).length = 0 := by rw [z]; rfl
  unfold rowsOf at this
  rw [List.length_append, List.length_map] at this
  omega
theorem text_len {h : Hs} (g : GoodH h) (p : Pl h) : (textOf h).length ≤ 10000 := by
  have := join_len "\n" (rowsOf h)
  have := join_le (fine_rows p) (by have := rows_len g; omega)
  show (Txt.join "\n" (rowsOf h)).length ≤ 10000
  omega
theorem insL_ok {K : W.Frag} {σ : L2.St} {H : Hp} {Q : VK} {i m n j : Nat} {a b : Addr} {vs us : List V} {x : V} (ea : σ[i]? = some (some (.ref a))) (ha : H a = some (.lst vs)) (ej : σ[m]? = some (some (.ref b))) (hb : H b = some (.lst us)) (lj : us.length = j) (ex : σ[n]? = some (some x)) (le : j ≤ vs.length) (few : vs.length ≤ 1000)
    (k : ∀ H' l, Same H H' → H l = none → H' l = some (.lst (insV vs j x)) → Q (.ref l) H') : tInsL K i m n σ H Q := by
  subst lj
  have line : (2000 : Nat) ≤ sizeLine := by decide
  refine ⟨_, ea, _, ej, b, _, rfl, .inl (SqL.of hb), _, rfl, a, _, rfl, SqL.of ha, fun q nq => ?_⟩
  rw [cut_takeV _ _ le]
  have s1 := same_upd (o := .lst (vs.take us.length)) nq
  refine ⟨_, ex, by show 1 ≤ sizeLine; decide, fun r nr => ?_⟩
  have s2 := same_upd (o := .lst [x]) nr
  refine ⟨_, _, _, _, rfl, rfl, s2 _ _ upd_same, upd_same, by rw [List.length_take]; show _ + 1 ≤ sizeLine; omega, fun u nu => ?_⟩
  have s3 := same_upd (o := .lst (vs.take us.length ++ [x])) nu
  have s13 := (s1.trans s2).trans s3
  refine ⟨_, ea, _, ej, b, _, rfl, .inl (SqL.of (s13 _ _ hb)), _, rfl, a, _, rfl, SqL.of (s13 _ _ ha), fun y ny => ?_⟩
  rw [cut_dropV _ _ le]
  have s4 := same_upd (o := .lst (vs.drop us.length)) ny
  refine ⟨_, _, _, _, rfl, rfl, s4 _ _ upd_same, upd_same, by rw [List.length_append, List.length_take, List.length_drop]; show _ + 1 + _ ≤ sizeLine; omega, fun l nl => ?_⟩
  exact k _ l ((s13.trans s4).trans (same_upd nl)) ((s13.trans s4).free nl) upd_same
theorem names4 : ∀ q, q ∈ N16 → ∀ r, r ∈ ([V.str "part out", .str "part X", .str "part ", .str (("part " : Str) ++ q)] : List V) → ∃ x, r = .str (partRow x) ∧ x ∈ N20 ∧ (nameOk x = false ∨ x = q) := by
  intro q hq r hr
  simp only [List.mem_cons, List.not_mem_nil, or_false] at hr
  rcases hr with rfl | rfl | rfl | rfl
  · exact ⟨"out", by decide +kernel, out20, .inl (by decide +kernel)⟩
  · exact ⟨"X", by decide +kernel, mem20 (by decide +kernel), .inl (by decide +kernel)⟩
  · exact ⟨"", by decide +kernel, mem20 (by decide +kernel), .inl (by decide +kernel)⟩
  · exact ⟨q, rfl, n16_20 hq, .inr rfl⟩
theorem door_zz : ∀ q, q ∈ N16 → (("door zz out " : Str) ++ q) ++ " open" = doorRow (zzDoor q) := by
  have h : (N16.all fun q => decide ((("door zz out " : Str) ++ q) ++ " open" = doorRow (zzDoor q))) = true := by decide +kernel
  exact fun q hq => of_decide_eq_true (List.all_eq_true.mp h q hq)
theorem part_zz : ("part zz" : Str) = partRow "zz" := by decide +kernel
/-- a row that may stand at f, and nowhere behind -/
structure Late (h : Hs) (r : Str) (f : Nat) : Prop where
  le : f ≤ (rowsOf h).length
  fine : FineR r
  here : ∃ h', GoodH h' ∧ Pl h' ∧ rowsOf h' = insR (rowsOf h) f r
  late : ∀ j, f < j → j ≤ (rowsOf h).length → ∀ y, readN z0 ((rowsOf h).take j) = some y → step1 y r = none
theorem late1 {h : Hs} (g : Good h) : Late h (partRow "zz") h.parts.length where
  le := by unfold rowsOf; rw [List.length_append, List.length_map]; omega
  fine := by rw [partRow_eq]; exact fine_row (pl_part zz_ok.2.2)
  here := ⟨hPart h, (good_hPart g).1, (good_hPart g).2, rows_hPart h⟩
  late := fun j lt le => late_part g.pl lt le
theorem late2 {h : Hs} (g : Good h) {q : Str} (hq : q ∈ h.parts) : Late h (doorRow (zzDoor q)) (h.parts.length + h.doors.length) where
  le := by unfold rowsOf; rw [List.length_append, List.length_append, List.length_map, List.length_map]; omega
  fine := by rw [doorRow_eq]; exact fine_row (pl_door ⟨zz_ok.2.2, out20, n16_20 (good_parts g q hq)⟩)
  here := ⟨hDoor h q, (good_hDoor g hq).1, (good_hDoor g hq).2, rows_hDoor h q⟩
  late := fun j lt le => late_door g.pl (n16_20 (good_parts g q hq)) lt le
theorem sum_ok {xs : List Str} (f : ∀ r, r ∈ xs → FineR r) (few : xs.length ≤ 60) : (xs.map fun x => x.length).sum + xs.length * ("\n" : Str).length ≤ 16777216 := by
  have := join_le f few
  omega
section
variable {P : Program} {w : World} {K : W.Frag} {mg : Str → Option Value} {base : Heap}
theorem ok_texts {f c Pt C CH CT CL : Addr} {fd : FuncData} {T : List (Addr × Str)} (F : Fun K "_law_texts_right" "_law_texts_right" sTexts f fd) (hc : fd.code = .ref c) (TB : TabB base mg c Pt) (hmT : (Pt, qT) ∈ T) (hu : ∀ p ∈ T, p.1 = Pt → p.2 = qT) (B : Bl mg)
    (R : Refd P w K mg base CH CT CL) (HC : HouseC P w K mg base C CH CT)
    (Tk : Callee P w K mg base "_law_take" 1 ["box", "many"] spTake) (Pk : Callee P w K mg base "_law_pick" 2 ["box", "some"] spPick) :
    FnOk P w K mg base CX0 9 f fd ["box", "house", "parts", "doors", "cells"] (spTexts C T) := by
  refine okC F hc scTr (fun vs H Q E h => ?_) (fun A outer s H vs Q E hr h => ?_)
  · obtain ⟨p, o, a, b, c, h, rfl, _⟩ := h
    rfl
  · obtain ⟨p, o, a, b, c', h, rfl, hB, hins, at_h, good, tb, k⟩ := h
    have hr1 := hr.mono (show 1 ≤ 8 by decide)
    have hr2 := hr.mono (show 2 ≤ 8 by decide)
    have un := hr.units
    obtain ⟨mc, r, g, fdr, rd, sm, br, FR⟩ := HC.read
    obtain ⟨fT, fdT, mT, bT, FT⟩ := HC.text
    have gH := good.toH
    have pl := good.pl
    have p4 := good.p4
    have p1 := good.p1
    have d5 := good.d5
    have c3 := good.c3
    have rl := rows_len gH
    have line : (20000 : Nat) ≤ sizeLine := by decide
    obtain ⟨q0, rest0, eps⟩ : ∃ q0 rest0, h.parts = q0 :: rest0 := by
      cases e : h.parts with
      | nil => rw [e] at p1; simp at p1
      | cons x y => exact ⟨x, y, rfl⟩
    have hq0 : q0 ∈ h.parts := by rw [eps]; exact List.mem_cons_self ..
    have q16 := good_parts good q0 hq0
    have lq := len8 (n16_20 q16)
    have at0 : atI (h.parts.map V.str) 0 = some (.str q0) := atI_nat (j := 0) (by rw [eps]; rfl)
    obtain ⟨t2, ht2, hq2⟩ : ∃ t, PSs (cxOf CX0 P w K mg base NT "_law_texts_right" (defScope sTexts) f (.ref c) A outer s H E).nox ((defBody sTexts).drop 10) t ∧
        ∀ (D : Addr) (Hx : Hp) (v6 v7 v8 v9 v10 v11 v12 v13 : Option V), At p D (rowsOf h) T H Hx → t { nx := fun _ H' => Q .non H', rt := Q } [some (.ref p), some (.ref o), some (.ref a), some (.ref b), some (.ref c'), some (.ref D), v6, v7, v8, v9, v10, v11, v12, v13] Hx := by
      refine ⟨_, pss_cons (ps_set (i := 8) scTr.nd rfl (Or.inr rfl) (pe_callee Pk hr2 rfl (pa_cons (pv 0) (pa_cons (pe_lst (pa_cons pe_str (pa_cons pe_str (pa_cons pe_str (pa_cons (pe_op op_add_str pe_str (pe_ix ix_list (pv 2) pe_int (fun _ _ => rfl))) pa_nil))))) pa_nil))))
      (pss_cons (ps_if (pt_cmpR (op_neD un) (pe_heard R rfl TB rfl hmT hu hr (lamS_by (sc := defScope sTexts) (by decide +kernel)) rfl (fun _ _ _ _ _ => rfl) (fun A outer s H E f' c' hr' => pe_smeth (pe_glob (v := .ref C) rfl HC.m rfl) rd sm FR hr' br (passes_call (takes_of rfl rfl rfl rfl) (fun _ _ _ _ h => h))
          (pa_cons (show PE _ _ (tJn K (tInsL K 5 2 8)) from pe_join pe_str (pe_op op_cat (pe_op op_cat (pe_slice sl_list (pv 5) po_none (po_some (pe_callB call_len_seq (by rfl) B.nums.len PySem.boot_len (pa_cons (pv 2) pa_nil)))) (pe_lst (pa_cons (pv 8) pa_nil))) (pe_slice sl_list (pv 5) (po_some (pe_callB call_len_seq (by rfl) B.nums.len PySem.boot_len (pa_cons (pv 2) pa_nil))) po_none))) pa_nil)))
          (pe_tup (pa_cons pe_str (pa_cons (pe_callB call_len_seq (by rfl) B.nums.len PySem.boot_len (pa_cons (pv 2) pa_nil)) pa_nil))) (nomark _)) (pss_one ps_never) pss_nil)
      (pss_one (ps_ret (pe_cmpR (op_eqD un) (pe_heard R rfl TB rfl hmT hu hr (lamS_by (sc := defScope sTexts) (by decide +kernel)) rfl (fun _ _ _ _ _ => rfl) (fun A outer s H E f' c' hr' => pe_smeth (pe_glob (v := .ref C) rfl HC.m rfl) rd sm FR hr' br (passes_call (takes_of rfl rfl rfl rfl) (fun _ _ _ _ h => h))
          (pa_cons (pe_callee Pk (hr'.mono (show 2 ≤ 6 by decide)) rfl (pa_cons (pv 0) (pa_cons (pe_lst (pa_cons pe_non (pa_cons pe_int (pa_cons (pv 5) pa_nil)))) pa_nil))) pa_nil)))
          (pe_tup (pa_cons pe_str (pa_cons pe_int pa_nil))) (nomark _))))), fun D Hx v6 v7 v8 v9 v10 v11 v12 v13 A1 => ?_⟩
      have hA1 := (at_h.bn A1.bn hB).pa
      have e5 : ("part " : Str).length = 5 := rfl
      refine ⟨_, rfl, _, rfl, a, _, _, _, rfl, rfl, SqL.of hA1, at0, _, _, rfl, rfl, by omega, by show 4 ≤ sizeLine; decide, fun m nm => ⟨p, m, _, rfl, (fun z => A1.box.fresh nm z.symm), A1.box.same (same_upd nm), upd_same, by show 1 ≤ 4; decide, by show 4 ≤ 1000; decide, fun x H2 hx b2 x2 => ?_⟩⟩
      have A2 := (A1.same (same_upd nm)).but b2 x2
      obtain ⟨xn, rfl, x20, odd⟩ := names4 q0 q16 x hx
      have odd : nameOk xn = false ∨ xn ∈ h.parts := odd.imp id (fun z => by rw [z]; exact hq0)
      have fr : FineR (partRow xn) := by rw [partRow_eq]; exact fine_row (pl_part x20)
      have lp : h.parts.length ≤ (rowsOf h).length := (late1 good).le
      refine ⟨A2.tb, fun K1 x1 t1 => ⟨rfl, ⟨_, rfl⟩, insL_ok (i := 5) (m := 2) (n := 8) (a := D) (b := a) (vs := (rowsOf h).map V.str) (us := h.parts.map V.str) (j := h.parts.length) (x := .str (partRow xn)) rfl (A2.ext x1 t1).d rfl (at_h.bn (A2.ext x1 t1).bn hB).pa (List.length_map ..) rfl (by rw [List.length_map]; exact lp) (by rw [List.length_map]; omega) fun H3 l s3 nl hl => ?_⟩⟩
      have A3 := (A2.ext x1 t1).same s3
      refine ⟨_, l, insR (rowsOf h) h.parts.length (partRow xn), rfl, rfl, .inl (SqL.of (by rw [← ins_map]; exact hl)), sum_ok (insR_fine (fine_rows pl) fr) (by rw [insR_len]; omega), read_name good x20 odd (fun H4 d s4 nd ed => ⟨d, _, rfl, ed, .inl ⟨rfl, fun p7 np7 => ?_⟩⟩)⟩
      have s47 := s4.trans (same_upd (o := .tup [.str "house", .int (h.parts.length : Nat)]) np7)
      have A4 := A3.same s47
      refine ⟨_, rfl, a, _, rfl, .inl (SqL.of (at_h.bn A4.bn hB).pa), by show 2 ≤ sizeLine; decide, fun p8 np8 => ?_⟩
      rw [List.length_map]
      have z8 := same_upd (o := .tup [.str "house", .int (h.parts.length : Nat)]) np8
      refine ⟨_, _, res_dp (z8 _ _ upd_same), res_dp upd_same, res_shaped _ _ ok_house_, res_shaped _ _ ok_house_, _, rfl, ?_⟩
      rw [res_eqv]
      refine iteF ?_
      have A5 := A4.same z8
      refine ⟨A5.tb, fun K5 x5 t5 => ⟨rfl, _, rfl, _, rfl, by show 3 ≤ sizeLine; decide, fun m6 nm6 => ?_⟩⟩
      have A6 := A5.ext x5 t5
      refine ⟨p, m6, _, rfl, (fun z => A6.box.fresh nm6 z.symm), A6.box.same (same_upd nm6), upd_same, by show 1 ≤ 3; decide, by show 3 ≤ 1000; decide, fun x H7 hx b7 x7 => ?_⟩
      have A7 := (A6.same (same_upd nm6)).but b7 x7
      have ev : ∃ o, SqOf H7 x o ∧ (o = none → isStr x = false) := by
        simp only [List.mem_cons, List.not_mem_nil, or_false] at hx
        rcases hx with rfl | rfl | rfl
        · exact ⟨none, rfl, fun _ => rfl⟩
        · exact ⟨none, rfl, fun _ => rfl⟩
        · exact ⟨some _, ⟨D, rfl, .inl A7.d⟩, fun z => nomatch z⟩
      obtain ⟨oo, o1, o2⟩ := ev
      refine ⟨x, rfl, .inl ⟨oo, o1, o2, fun H8 d s8 nd ed => ⟨d, _, rfl, ed, .inr ⟨rfl, fun p9 np9 => ⟨by show 2 ≤ sizeLine; decide, fun pa npa => ?_⟩⟩⟩⟩⟩
      have z9 := same_upd (o := .tup [.str "text", .int ((0 : Nat) : Int)]) np9
      have za := same_upd (o := .tup [.str "text", .int 0]) npa
      refine ⟨_, _, res_dp (za _ _ upd_same), res_dp upd_same, res_shaped _ _ ok_text_, res_shaped _ _ ok_text_, ?_⟩
      have e0 : PyData.eqv (resD "text" ((0 : Nat) : Int)) (resD "text" 0) = true := res_eqv "text" 0
      rw [e0]
      have A9 := A7.same ((s8.trans z9).trans za)
      exact k _ A9.bn A9.box A9.tb
    refine ⟨_, pss_cons (ps_set (i := 5) scTr.nd rfl (Or.inr rfl) (pe_split (pe_meth0 (pv 1) HC.cl mT FT hr1 bT .nil pass0) pe_str))
      (pss_cons (ps_set (i := 6) scTr.nd rfl (Or.inr rfl) (pe_callee Tk hr1 rfl (pa_cons (pv 0) (pa_cons (pe_op op_add (pe_callB call_len_seq (by rfl) B.nums.len PySem.boot_len (pa_cons (pv 5) pa_nil)) pe_int) pa_nil))))
      (pss_cons (ps_set (i := 7) scTr.nd rfl (Or.inl rfl) (pe_lst (pa_cons pe_str (pa_cons pe_str (pa_cons pe_str (pa_cons pe_str (pa_cons (pe_op op_add_str (pe_op op_add_str pe_str (pe_ix ix_list (pv 2) pe_int (fun _ _ => rfl))) pe_str) (pa_cons (pe_op op_add_str pe_str (pe_ix ix_list (pv 2) pe_int (fun _ _ => rfl))) (pa_cons pe_str (pa_cons pe_str pa_nil))))))))))
      (pss_cons (ps_set (i := 8) scTr.nd rfl (Or.inr rfl) (pe_callee Pk hr2 rfl (pa_cons (pv 0) (pa_cons (pe_op op_cat (pv 7) (pe_lst (pa_cons pe_str (pa_cons pe_str (pa_cons pe_str (pa_cons pe_str (pa_cons pe_str (pa_cons pe_str pa_nil)))))))) pa_nil))))
      (pss_cons (ps_if (pt_cmpR (op_neD un) (pe_heard R rfl TB rfl hmT hu hr (lamS_by (sc := defScope sTexts) (by decide +kernel)) rfl (fun _ _ _ _ _ => rfl) (fun A outer s H E f' c' hr' => pe_smeth (pe_glob (v := .ref C) rfl HC.m rfl) rd sm FR hr' br (passes_call (takes_of rfl rfl rfl rfl) (fun _ _ _ _ h => h))
          (pa_cons (show PE _ _ (tJn K (tInsV K 5 6 8)) from pe_join pe_str (pe_op op_cat (pe_op op_cat (pe_slice sl_list (pv 5) po_none (po_some (pv 6))) (pe_lst (pa_cons (pv 8) pa_nil))) (pe_slice sl_list (pv 5) (po_some (pv 6)) po_none))) pa_nil)))
          (pe_tup (pa_cons pe_str (pa_cons (pv 6) pa_nil))) (nomark _)) (pss_one ps_never) pss_nil)
      (pss_cons (ps_set (i := 9) scTr.nd rfl (Or.inl rfl) (pe_lst (pa_cons (pe_tup (pa_cons pe_str (pa_cons (pe_callB call_len_seq (by rfl) B.nums.len PySem.boot_len (pa_cons (pv 2) pa_nil)) (pa_cons (pe_callB call_len_seq (by rfl) B.nums.len PySem.boot_len (pa_cons (pv 5) pa_nil)) pa_nil))))
          (pa_cons (pe_tup (pa_cons (pe_op op_add_str (pe_op op_add_str pe_str (pe_ix ix_list (pv 2) pe_int (fun _ _ => rfl))) pe_str) (pa_cons (pe_op op_add (pe_callB call_len_seq (by rfl) B.nums.len PySem.boot_len (pa_cons (pv 2) pa_nil)) (pe_callB call_len_seq (by rfl) B.nums.len PySem.boot_len (pa_cons (pv 3) pa_nil))) (pa_cons (pe_callB call_len_seq (by rfl) B.nums.len PySem.boot_len (pa_cons (pv 5) pa_nil)) pa_nil)))) pa_nil))))
      (pss_cons (ps_asg (pe_callee Pk hr2 rfl (pa_cons (pv 0) (pa_cons (pv 9) pa_nil))) (pg_tup (by rfl) (pgs_cons (pg_name (i := 10) scTr.nd rfl (Or.inr rfl)) (pgs_cons (pg_name (i := 11) scTr.nd rfl (Or.inl rfl)) (pgs_cons (pg_name (i := 12) scTr.nd rfl (Or.inl rfl)) pgs_nil)))))
      (pss_cons (ps_set (i := 6) scTr.nd rfl (Or.inr rfl) (pe_op op_add (pv 11) (pe_callee Tk hr1 rfl (pa_cons (pv 0) (pa_cons (pe_op op_add (pe_op op_sub (pv 12) (pv 11)) pe_int) pa_nil)))))
      (pss_cons (ps_set (i := 13) scTr.nd rfl (Or.inl rfl) (pe_ifExp (pt_cmpR op_eq (pv 6) (pv 11) (nomark _)) pe_non (pe_tup (pa_cons pe_str (pa_cons (pv 6) pa_nil)))))
      (pss_cons (ps_if (pt_cmpR (op_neD un) (pe_heard R rfl TB rfl hmT hu hr (lamS_by (sc := defScope sTexts) (by decide +kernel)) rfl (fun _ _ _ _ _ => rfl) (fun A outer s H E f' c' hr' => pe_smeth (pe_glob (v := .ref C) rfl HC.m rfl) rd sm FR hr' br (passes_call (takes_of rfl rfl rfl rfl) (fun _ _ _ _ h => h))
          (pa_cons (show PE _ _ (tJn K (tInsV K 5 6 10)) from pe_join pe_str (pe_op op_cat (pe_op op_cat (pe_slice sl_list (pv 5) po_none (po_some (pv 6))) (pe_lst (pa_cons (pv 10) pa_nil))) (pe_slice sl_list (pv 5) (po_some (pv 6)) po_none))) pa_nil)))
          (pv 13) (nomark _)) (pss_one ps_never) pss_nil) ht2))))))))), ?_⟩
    obtain ⟨dx, fs, tp, td, tc, vd, vc, ho, l1, l2, l3, l4, r5⟩ := id hins
    refine ⟨_, rfl, o, dx, fs, rfl, ho, l4, o, h, rfl, hins, gH, fun H1 s1 => ⟨⟨_, rfl⟩, _, _, rfl, rfl, rfl, by have := text_len gH pl; omega, fun D nD => ?_⟩⟩
    rw [split_text gH pl]
    have sD := same_upd (o := .lst ((rowsOf h).map V.str)) nD
    have A0 : At p D (rowsOf h) T H (upd H1 D (.lst ((rowsOf h).map V.str))) := ⟨.of (s1.trans sD), hB.same (s1.trans sD), tb.ext (s1.trans sD), upd_same⟩
    show Ends.nx _ _ (upd H1 D (.lst ((rowsOf h).map V.str)))
    revert A0
    generalize upd H1 D (.lst ((rowsOf h).map V.str)) = G0
    intro A0
    refine ⟨_, rfl, _, rfl, D, _, rfl, .inl (SqL.of A0.d), _, _, rfl, rfl, p, _, rfl, A0.box, by rw [List.length_map]; omega, by rw [List.length_map]; omega, fun r0 H2 ra rb b2 x2 => ?_⟩
    rw [List.length_map] at rb
    have A2 := A0.but b2 x2
    obtain ⟨j, rfl⟩ : ∃ j : Nat, r0 = (j : Int) := ⟨r0.toNat, by omega⟩
    have hj : j ≤ (rowsOf h).length := by omega
    have hA2 := (at_h.bn A2.bn hB).pa
    have e11 : ("door n out " : Str).length = 11 := rfl
    have e5 : (" ajar" : Str).length = 5 := rfl
    have e16 : (("door n out " : Str) ++ q0).length = 11 + q0.length := by rw [Str.length_append, e11]
    refine ⟨_, rfl, a, _, _, _, rfl, rfl, SqL.of hA2, at0, _, _, rfl, rfl, by omega, _, _, rfl, rfl, by omega, _, rfl, a, _, _, _, rfl, rfl, SqL.of hA2, at0, _, _, rfl, rfl, by omega, by show 8 ≤ sizeLine; decide, fun m nm => ?_⟩
    have sm := same_upd (o := .lst [V.str "", .str "parts", .str "part a b", .str "door n out", .str ((("door n out " : Str) ++ q0) ++ " ajar"), .str (("door n out " : Str) ++ q0), .str "cells n", .str "cell n a held"]) nm
    have A3 := A2.same sm
    refine ⟨_, rfl, _, rfl, by show 6 ≤ sizeLine; decide, fun m2 nm2 => ?_⟩
    have sm2 := same_upd (o := .lst [V.str "Part x", .str " part x", .str "part x ", .str "cell n a kept kept", .str "hall", .str "door  n out a open"]) nm2
    refine ⟨m, m2, _, _, rfl, rfl, sm2 _ _ upd_same, upd_same, by show 14 ≤ sizeLine; decide, fun m3 nm3 => ?_⟩
    have A4 := A3.same sm2
    refine ⟨p, m3, _, rfl, (fun z => A4.box.fresh nm3 z.symm), A4.box.same (same_upd nm3), upd_same, by show 1 ≤ 14; decide, by show 14 ≤ 1000; decide, fun x H4 hx b4 x4 => ?_⟩
    have A5 := (A4.same (same_upd nm3)).but b4 x4
    obtain ⟨r1, hr1, rfl⟩ : ∃ r1, r1 ∈ odds q0 ∧ x = .str r1 := by
      have hx : x ∈ (odds q0).map V.str := hx
      obtain ⟨r1, h1, h2⟩ := List.mem_map.mp hx
      exact ⟨r1, h1, h2.symm⟩
    obtain ⟨fr1, no1⟩ := odd_fine (odds_ok q0 q16 r1 hr1)
    -- the first text
    refine ⟨A5.tb, fun K1 x1 t1 => ⟨rfl, ⟨_, rfl⟩, ins_ok (i := 5) (m := 6) (n := 8) (a := D) (vs := (rowsOf h).map V.str) (j := j) (x := .str r1) rfl (A5.ext x1 t1).d rfl rfl (by rw [List.length_map]; exact hj) (by rw [List.length_map]; omega) fun H5 l s5 nl hl => ?_⟩⟩
    have A6 := (A5.ext x1 t1).same s5
    refine ⟨_, l, insR (rowsOf h) j r1, rfl, rfl, .inl (SqL.of (by rw [← ins_map]; exact hl)), sum_ok (insR_fine (fine_rows pl) fr1) (by rw [insR_len]; omega), read_bad gH pl hj fr1 (fun y _ => step_odd no1) (fun H6 d s6 nd ed => ⟨d, _, rfl, ed, .inr ⟨rfl, fun p7 np7 => ?_⟩⟩)⟩
    have A7 := A6.same (s6.trans (same_upd (o := .tup [.str "text", .int (j : Nat)]) np7))
    refine ⟨_, rfl, by show 2 ≤ sizeLine; decide, fun p8 np8 => ?_⟩
    have z8 := same_upd (o := .tup [.str "text", .int (j : Nat)]) np8
    refine ⟨_, _, res_dp (z8 _ _ upd_same), res_dp upd_same, res_shaped _ _ ok_text_, res_shaped _ _ ok_text_, _, rfl, ?_⟩
    rw [res_eqv]
    refine iteF ?_
    have A8 := A7.same z8
    show Ends.nx _ _ (upd (upd H6 p7 _) p8 _)
    revert A8
    generalize upd (upd H6 p7 (.tup [.str "text", .int (j : Nat)])) p8 (.tup [.str "text", .int (j : Nat)]) = G8
    intro A8
    have h8 := at_h.bn A8.bn hB
    obtain ⟨vd8, hd8, pd8⟩ := h8.da
    have ld8 := paired_len pd8
    have e12 : ("door zz out " : Str).length = 12 := rfl
    have e5o : (" open" : Str).length = 5 := rfl
    have e20 : (("door zz out " : Str) ++ q0).length = 12 + q0.length := by rw [Str.length_append, e12]
    refine ⟨_, rfl, a, _, rfl, .inl (SqL.of h8.pa), _, rfl, D, _, rfl, .inl (SqL.of A8.d), by show 3 ≤ sizeLine; decide, fun y1 ny1 => ?_⟩
    rw [List.length_map, List.length_map]
    have sy1 := same_upd (o := .tup [.str "part zz", .int (h.parts.length : Nat), .int ((rowsOf h).length : Nat)]) ny1
    refine ⟨_, rfl, a, _, _, _, rfl, rfl, SqL.of (sy1 _ _ h8.pa), at0, _, _, rfl, rfl, by omega, _, _, rfl, rfl, by omega, _, rfl, a, _, rfl, .inl (SqL.of (sy1 _ _ h8.pa)), _, rfl, b, _, rfl, .inl (SqL.of (sy1 _ _ hd8)), _, _, rfl, rfl, _, rfl, D, _, rfl, .inl (SqL.of (sy1 _ _ A8.d)), by show 3 ≤ sizeLine; decide, fun y2 ny2 => ?_⟩
    rw [List.length_map, List.length_map, ld8]
    have sy2 := same_upd (o := .tup [.str ((("door zz out " : Str) ++ q0) ++ " open"), .int ((h.parts.length : Nat) + (h.doors.length : Nat)), .int ((rowsOf h).length : Nat)]) ny2
    refine ⟨by show 2 ≤ sizeLine; decide, fun y3 ny3 => ?_⟩
    have sy3 := same_upd (o := .lst [.ref y1, .ref y2]) ny3
    have A9 := ((A8.same sy1).same sy2).same sy3
    have ht1 := (sy2.trans sy3) _ _ (upd_same (H := G8) (a := y1) (o := .tup [.str "part zz", .int (h.parts.length : Nat), .int ((rowsOf h).length : Nat)]))
    have ht2 := sy3 _ _ (upd_same (a := y2) (o := .tup [.str ((("door zz out " : Str) ++ q0) ++ " open"), .int ((h.parts.length : Nat) + (h.doors.length : Nat)), .int ((rowsOf h).length : Nat)]))
    have ht3 := upd_same (H := upd (upd G8 y1 (.tup [.str "part zz", .int (h.parts.length : Nat), .int ((rowsOf h).length : Nat)])) y2 (.tup [.str ((("door zz out " : Str) ++ q0) ++ " open"), .int ((h.parts.length : Nat) + (h.doors.length : Nat)), .int ((rowsOf h).length : Nat)])) (a := y3) (o := .lst [.ref y1, .ref y2])
    have np3 : p ≠ y3 := fun z => ((A8.same sy1).same sy2).box.fresh ny3 z.symm
    show Ends.nx _ _ (upd (upd (upd G8 y1 _) y2 _) y3 _)
    revert A9 ht1 ht2 ht3
    generalize upd (upd (upd G8 y1 (.tup [.str "part zz", .int (h.parts.length : Nat), .int ((rowsOf h).length : Nat)])) y2 (.tup [.str ((("door zz out " : Str) ++ q0) ++ " open"), .int ((h.parts.length : Nat) + (h.doors.length : Nat)), .int ((rowsOf h).length : Nat)])) y3 (.lst [.ref y1, .ref y2]) = G9
    intro A9 ht1 ht2 ht3
    refine ⟨_, rfl, _, rfl, p, y3, _, rfl, np3, A9.box, ht3, by show 1 ≤ 2; decide, by show 2 ≤ 1000; decide, fun x H10 hx b10 x10 => ?_⟩
    have A10 := A9.but b10 x10
    have nt : ∀ {t xs}, G9 t = some (.tup xs) → H10 t = some (.tup xs) := fun {t xs} e => b10 _ _ (A9.box.ne e (fun _ _ _ z => by cases z)) e
    obtain ⟨t, r2, f2, rfl, ht, lt⟩ : ∃ (t : Addr) (r2 : Str) (f2 : Nat), x = .ref t ∧ H10 t = some (.tup [.str r2, .int (f2 : Nat), .int ((rowsOf h).length : Nat)]) ∧ Late h r2 f2 := by
      simp only [List.mem_cons, List.not_mem_nil, or_false] at hx
      rcases hx with rfl | rfl
      · exact ⟨y1, _, _, rfl, by rw [← part_zz]; exact nt ht1, late1 good⟩
      · exact ⟨y2, _, h.parts.length + h.doors.length, rfl, by rw [← door_zz q0 q16]; exact nt ht2, late2 good hq0⟩
    have lle := lt.le
    refine ⟨t, _, rfl, SqT.of ht, rfl, _, _, rfl, _, _, rfl, _, _, rfl, rfl, ?_⟩
    refine ⟨_, rfl, _, rfl, _, rfl, _, rfl, _, _, rfl, rfl, _, _, rfl, rfl, p, _, rfl, A10.box, by omega, by omega, fun r0' H11 ra' rb' b11 x11 => ?_⟩
    have A11 := A10.but b11 x11
    obtain ⟨i, rfl⟩ : ∃ j : Nat, r0' = (j : Int) := ⟨r0'.toNat, by omega⟩
    have hi : f2 + i ≤ (rowsOf h).length := by omega
    refine ⟨_, _, rfl, rfl, ?_⟩
    refine ⟨_, rfl, _, rfl, rfl, _, rfl, ?_⟩
    show ite (decide (V.int ((f2 + i : Nat) : Int) = V.int (f2 : Nat)) = true) _ _
    rw [dnum]
    by_cases i0 : i = 0
    · subst i0
      rw [decide_eq_true (Nat.add_zero f2)]
      refine iteT ?_
      refine ⟨A11.tb, fun K1 x1 t1 => ⟨rfl, ⟨_, rfl⟩, ins_ok (i := 5) (m := 6) (n := 10) (a := D) (vs := (rowsOf h).map V.str) (j := f2 + 0) (x := .str r2) rfl (A11.ext x1 t1).d rfl rfl (by rw [List.length_map]; exact hi) (by rw [List.length_map]; omega) fun H12 l s12 nl hl => ?_⟩⟩
      have A12 := (A11.ext x1 t1).same s12
      obtain ⟨h', g', p', e'⟩ := lt.here
      refine ⟨_, l, insR (rowsOf h) f2 r2, rfl, rfl, .inl (SqL.of (by rw [← ins_map]; exact hl)), sum_ok (insR_fine (fine_rows pl) lt.fine) (by rw [insR_len]; omega), ?_⟩
      rw [← e']
      refine read_good g' p' (fun H13 o' s13 no' kd => ⟨_, rfl, _, rfl, _, _, .non, .non, rfl, rfl, _, rfl, iteF ?_⟩)
      exact hq2 D H13 _ _ _ _ _ _ _ _ (A12.same s13)
    · rw [decide_eq_false (show ¬ f2 + i = f2 by omega)]
      refine iteF ⟨_, rfl, by show 2 ≤ sizeLine; decide, fun y4 ny4 => ?_⟩
      have sy4 := same_upd (o := .tup [.str "text", .int ((f2 + i : Nat) : Int)]) ny4
      have A11' := A11.same sy4
      refine ⟨A11'.tb, fun K1 x1 t1 => ⟨rfl, ⟨_, rfl⟩, ins_ok (i := 5) (m := 6) (n := 10) (a := D) (vs := (rowsOf h).map V.str) (j := f2 + i) (x := .str r2) rfl (A11'.ext x1 t1).d rfl rfl (by rw [List.length_map]; exact hi) (by rw [List.length_map]; omega) fun H12 l s12 nl hl => ?_⟩⟩
      have A12 := (A11'.ext x1 t1).same s12
      have hy4 : H12 y4 = some (.tup [.str "text", .int ((f2 + i : Nat) : Int)]) := s12 _ _ (x1 _ _ upd_same (fun _ z => nomatch z))
      refine ⟨_, l, insR (rowsOf h) (f2 + i) r2, rfl, rfl, .inl (SqL.of (by rw [← ins_map]; exact hl)), sum_ok (insR_fine (fine_rows pl) lt.fine) (by rw [insR_len]; omega), read_bad gH pl hi lt.fine (lt.late (f2 + i) (by omega) hi) (fun H13 d s13 nd ed => ⟨d, _, rfl, ed, .inr ⟨rfl, fun p7 np7 => ?_⟩⟩)⟩
      have z7 := same_upd (o := .tup [.str "text", .int ((f2 + i : Nat) : Int)]) np7
      refine ⟨_, rfl, _, _, res_dp upd_same, res_dp (z7 _ _ (s13 _ _ hy4)), res_shaped _ _ ok_text_, res_shaped _ _ ok_text_, _, rfl, ?_⟩
      rw [res_eqv]
      exact iteF (hq2 D _ _ _ _ _ _ _ _ _ ((A12.same s13).same z7))
end
end K02

namespace K02
open PySem PySem.Spec PyProof.Rows L2
open Cal EnuT Sqx Exn Keys LamX Stc Gvx

structure Defs (P : Program) (w : World) (K : W.Frag) (mg : Str → Option Value) (base : Heap) (C CH CT CL : Addr) (T : List (Addr × Str)) : Prop where
  box : Callee P w K mg base "_law_box" 1 ["script", "k"] (spBox K)
  things : Callee P w K mg base "_law_things" 3 ["box", "most"] spThings
  bent : Callee P w K mg base "_law_bent" 4 ["box", "parts", "doors", "cells"] spBent
  texts : Callee P w K mg base "_law_texts_right" 9 ["box", "house", "parts", "doors", "cells"] (spTexts C T)
  refd : Refd P w K mg base CH CT CL
  hc : HouseC P w K mg base C CH CT
theorem seq_extn {K : W.Frag} {H H' : Hp} {a : Addr} {xs : List V} (e : ExtN H H') (h : SqL K H a xs) : SqL K H' a xs := by
  rcases h with (h | ⟨o, h⟩) | h
  · exact .inl (.inl (e _ _ h (fun _ z => nomatch z)))
  · exact .inl (.inr ⟨o, e _ _ h (fun _ z => nomatch z)⟩)
  · exact .inr h
theorem BN.ext_of {p : Addr} {H0 H1 H : Hp} (n : H1 p = none) (e : ExtN H0 H1) (b : BN p H1 H) : ExtN H0 H := fun c o h t => b c o (fun z => by
  have := e _ _ h t
  rw [z, n] at this
  cases this) (e c o h t) t
/-- where the law stands, in a turn -/
structure Lw (p a b c : Addr) (h : Hs) (T : List (Addr × Str)) (H0 H : Hp) : Prop where
  bn : BN p H0 H
  box : Box H p
  tb : Tabs T H
  hs : HsAt H h a b c
theorem Lw.same {p a b c : Addr} {h : Hs} {T : List (Addr × Str)} {H0 H H' : Hp} (x : Lw p a b c h T H0 H) (s : Same H H') : Lw p a b c h T H0 H' := ⟨x.bn.trans (.of s), x.box.same s, x.tb.ext s, x.hs.same s⟩
theorem Lw.but {p a b c : Addr} {h : Hs} {T : List (Addr × Str)} {H0 H H' : Hp} (x : Lw p a b c h T H0 H) (s : But p H H') (y : Box H' p) : Lw p a b c h T H0 H' := ⟨x.bn.trans (.but s), y, tabs_butB x.box s x.tb, x.hs.but s x.box⟩
theorem Lw.ext {p a b c : Addr} {h : Hs} {T : List (Addr × Str)} {H0 H H' : Hp} (x : Lw p a b c h T H0 H) (s : ExtN H H') (t : Tabs T H') : Lw p a b c h T H0 H' := ⟨x.bn.trans (.ext s), x.box.ext s, t, x.hs.bn (.ext s) x.box⟩
theorem Lw.bnt {p a b c : Addr} {h : Hs} {T : List (Addr × Str)} {H0 H H' : Hp} (x : Lw p a b c h T H0 H) (s : BN p H H') (y : Box H' p) (t : Tabs T H') : Lw p a b c h T H0 H' := ⟨x.bn.trans s, y, t, x.hs.bn s x.box⟩
theorem AvAt.extn {H H' : Hp} (s : ExtN H H') {v : V} {t : Av} (x : AvAt H v t) : AvAt H' v t := by
  have sq : ∀ {a xs}, SeqAt H a xs → SeqAt H' a xs := fun {a xs} q => q.imp (fun e => s _ _ e (fun _ z => nomatch z)) (fun e => s _ _ e (fun _ z => nomatch z))
  cases t with
  | fl u => exact x
  | sq ts =>
    obtain ⟨a, vs, e, q, pw, r⟩ := x
    refine ⟨a, vs, e, sq q, paired_mono (fun v t y => ?_) pw, r⟩
    cases t with
    | fl u => exact y
    | sq xs =>
      obtain ⟨a, e, q, r⟩ := y
      exact ⟨a, e, sq q, r⟩
def h8 : Hs := ⟨sgns "p" 8, [], []⟩
theorem good8 : GoodH h8 where
  p1 := by decide
  p8 := by decide
  d12 := by decide
  c8 := by decide
  nodup := by
    show (sgns "p" 8 ++ ([] ++ [])).Nodup
    rw [List.append_nil, List.append_nil]
    exact p8_ok.2
  name := fun x hx => p8_ok.1 x (by simpa [Hs.names, h8] using hx)
  ends := fun d hd => nomatch hd
  cin := fun d hd => nomatch hd
theorem heard_of {CH CT : Addr} {tl : XK → Hp → VK → Prop} {H : Hp} {Q : VK} (h : tl (fun cls d H' => ∃ dd v, d = some dd ∧ H' dd = some (.xd [("at", v)]) ∧ ((cls = .ref CH ∧ ∀ p, H' p = none → Q (.ref p) (upd H' p (.tup [.str "house", v]))) ∨ (cls = .ref CT ∧ ∀ p, H' p = none → Q (.ref p) (upd H' p (.tup [.str "text", v]))))) H (fun _ H' => ∃ v, (some (some V.non) : Option (Option V)) = some (some v) ∧ Q v H')) : TTheard CH CT tl H Q := h
theorem make3 {C : Addr} {sp : Sp} {E : XK} {t1 t2 t3 : TE} {σ : L2.St} {H : Hp} {Q : VK} (h : t1 σ H fun x H1 => t2 σ H1 fun y H2 => t3 σ H2 fun z H3 => ∀ a d, H3 a = none → H3 d = none → d ≠ a → sp (.ref a :: ([x, y, z] ++ [])) (upd (upd H3 d (.own a)) a (.ins C d [])) (fun v H4 => v = .non ∧ Q (.ref a) H4) E) : tMake C sp [] E (tCons t1 (tCons t2 (tCons t3 tNil))) σ H Q := h
abbrev NL : List Str := ["script", "k", "box", "parts", "doors", "cells", "turn", "one", "two", "three", "at"]
theorem scL : FnScope NL ["script"] (defScope sLaw) := ⟨rfl, rfl, rfl, by decide +kernel, rfl, by decide +kernel, by decide +kernel⟩
abbrev qL : Str := "law.<locals>.<lambda>"
abbrev tSgn (m : Nat) : TE := tOp rAddStr (tC (.str "p")) (tOp rIxS (tC (.str "abcdefgh")) (tVar m))
section
variable {P : Program} {w : World} {K : W.Frag} {mg : Str → Option Value} {base : Heap}
theorem law_ok {f c Pt C CH CT CL a : Addr} {fd : FuncData} {T : List (Addr × Str)} {s : Shared} {H : Hp} {ns : List Int} (F : Fun K "law" "law" sLaw f fd) (hc : fd.code = .ref c) (TB : TabB base mg c Pt) (hmT : (Pt, qL) ∈ T) (hu : ∀ p ∈ T, p.1 = Pt → p.2 = qL) (B : Bl mg)
    (D : Defs P w K mg base C CH CT CL T) (e0 : Env0 P w K mg base callerA [] s H) (bind : Binds K fd ["script"] []) (tb : Tabs T H) (sq : SqL K H a (ns.map V.int)) (few : ns.length ≤ 63) :
    codeAny (model P w) callerA (.call (.ref f) ⟨[.ref a], []⟩) (CR CX0 [] P w H s (fun v _ => v = .bl true) E0) s := by
  refine law_runC (vs := [V.ref a]) F hc scL e0 bind (.cons (show RelV (V.ref a) (Value.ref a) from rfl) .nil) rfl ?_
  have hr10 : Room 10 callerA := ⟨rfl, by decide, by decide⟩
  have hr9 : Room 9 (callerA.deeper (envOfC "law" (defScope sLaw) s.heap.objs.size f (.ref c))) := hr10.deeper _
  have hr7 := hr9.mono (show 7 ≤ 9 by decide)
  have hr5 := hr9.mono (show 5 ≤ 9 by decide)
  have hr4 := hr9.mono (show 4 ≤ 9 by decide)
  have hr3 := hr9.mono (show 3 ≤ 9 by decide)
  have hr1 := hr9.mono (show 1 ≤ 9 by decide)
  have un := hr9.units
  obtain ⟨fI, fdI, mk, bI, FI⟩ := D.hc.init
  refine ⟨_, pss_cons (ps_for PassesOwn.never rfl (pi_range1 rfl B.range (pa_cons (pe_callB (call_max2 rfl) (by rfl) B.max (by decide +kernel) (pa_cons pe_int (pa_cons (pe_callB (call_min2 rfl) (by rfl) B.min (by decide +kernel) (pa_cons pe_int
        (pa_cons (pe_callB call_len_seq (by rfl) B.nums.len PySem.boot_len (pa_cons (pv 0) pa_nil)) pa_nil))) pa_nil))) pa_nil)) (pg_name (i := 1) scL.nd rfl (Or.inl rfl))
      (pss_cons (ps_set (i := 2) scL.nd rfl (Or.inl rfl) (pe_callee D.box hr1 rfl (pa_cons (pv 0) (pa_cons (pv 1) pa_nil))))
      (pss_cons (ps_asg (pe_callee D.things hr3 rfl (pa_cons (pv 2) (pa_cons pe_int pa_nil))) (pg_tup rfl (pgs_cons (pg_name (i := 3) scL.nd rfl (Or.inr rfl)) (pgs_cons (pg_name (i := 4) scL.nd rfl (Or.inr rfl)) (pgs_cons (pg_name (i := 5) scL.nd rfl (Or.inr rfl)) pgs_nil)))))
      (pss_cons (ps_for PassesOwn.never rfl (pi_range1 rfl B.range (pa_cons pe_int pa_nil)) (pg_name (i := 6) scL.nd rfl (Or.inl rfl))
        (pss_cons (ps_asg (pe_callee D.bent hr4 rfl (pa_cons (pv 2) (pa_cons (pv 3) (pa_cons (pv 4) (pa_cons (pv 5) pa_nil))))) (pg_tup (by rfl) (pgs_cons (pg_tup (by rfl) (pgs_cons (pg_name (i := 7) scL.nd rfl (Or.inr rfl)) (pgs_cons (pg_name (i := 8) scL.nd rfl (Or.inr rfl)) (pgs_cons (pg_name (i := 9) scL.nd rfl (Or.inr rfl)) pgs_nil)))) (pgs_cons (pg_name (i := 10) scL.nd rfl (Or.inl rfl)) pgs_nil))))
        (pss_one (ps_if (pt_cmpR (op_neD un) (pe_heard D.refd rfl TB rfl hmT hu hr7 (lamS_by (sc := defScope sLaw) (by decide +kernel)) rfl (fun _ _ _ _ _ => rfl) (fun A outer s H E f' c' hr' => pe_make mk FI hr' rfl D.hc.m bI .nil (passes_call (takes_of rfl rfl rfl rfl) (fun _ _ _ _ h => h)) (pa_cons (pv 7) (pa_cons (pv 8) (pa_cons (pv 9) pa_nil)))))
          (pe_tup (pa_cons pe_str (pa_cons (pv 10) pa_nil))) (nomark _)) (pss_one ps_never) pss_nil))))
      (pss_cons (ps_if (pt_cmp (pc_notN (pe_heard D.refd rfl TB rfl hmT hu hr7 (lamS_by (sc := defScope sLaw) (by decide +kernel)) rfl (fun _ _ _ _ _ => rfl) (fun A outer s H E f' c' hr' => pe_make mk FI hr' rfl D.hc.m bI .nil (passes_call (takes_of rfl rfl rfl rfl) (fun _ _ _ _ h => h)) (pa_cons (pv 3) (pa_cons (pv 4) (pa_cons (pv 5) pa_nil))))))) (pss_one ps_never) pss_nil)
      (pss_one (ps_if (pt_not (pt_val (pe_callee D.texts hr9 rfl (pa_cons (pv 2) (pa_cons (pe_make mk FI hr5 rfl D.hc.m bI .nil (passes_call LamX.takes0 (fun _ _ _ _ h => h)) (pa_cons (pv 3) (pa_cons (pv 4) (pa_cons (pv 5) pa_nil)))) (pa_cons (pv 3) (pa_cons (pv 4) (pa_cons (pv 5) pa_nil)))))))) (pss_one ps_never) pss_nil)))))))
    (pss_one (ps_ret (pe_cmp (pc_isN (pe_heard D.refd rfl TB rfl hmT hu hr7 (lamS_by (sc := defScope sLaw) (by decide +kernel)) rfl (fun _ _ _ _ _ => rfl) (fun A outer s H E f' c' hr' => pe_make mk FI hr' rfl D.hc.m bI .nil (passes_call (takes_of rfl rfl rfl rfl) (fun _ _ _ _ h => h))
      (pa_cons (show PE _ _ (tLc (iRng1 (tCons (tC (.int ((8 : Nat) : Int))) tNil)) (gName 10) tYes (tSgn 10) [10]) from pe_lc (own := [("at", 10)]) (g := gName 10) (tt := tYes) (by rfl) scL.nd (pi_range1 rfl B.range (pa_cons pe_int pa_nil))
          (blkOk_by (own := [("at", 10)]) (N := NL) (sc := { kind := .function, names := [("House", .globalImplicit), ("range", .globalImplicit)], isGenerator := false, isCoroutine := false, more := [("fast", .str "at")] }) (by decide +kernel))
          (fun _ _ _ _ _ => pg_name (i := 10) scL.nd rfl (Or.inl rfl)) (fun _ _ _ _ _ => pts_nil) (fun _ _ _ _ _ => pe_op op_add_str pe_str (pe_ix ix_str pe_str (pv 10) (fun _ _ => rfl))))
        (pa_cons (pe_tup pa_nil) (pa_cons (pe_tup pa_nil) pa_nil)))))) rfl))), ?_⟩
  have len : (((ns.map V.int).length : Nat) : Int) = ns.length := by rw [List.length_map]
  have line : (1000 : Nat) ≤ sizeLine := by decide
  have made : ∀ {K1 : Hp} {o dx : Addr}, K1 o = none → K1 dx = none → Same K1 (upd (upd K1 dx (.own o)) o (.ins C dx [])) := fun {K1 o dx} no ndx b u e => by
    rw [upd_ne (ne_of_none e no), upd_ne (ne_of_none e ndx)]
    exact e
  refine ⟨_, rfl, a, _, rfl, .inl sq, _, _, rfl, _, _, rfl, _, rfl, ?_, ?_, for_range (fun i σ H' => ∃ v1 v2 v3 v4 v5 v6 v7 v8 v9 v10 : Option V, σ = [some (.ref a), v1, v2, v3, v4, v5, v6, v7, v8, v9, v10] ∧ ExtN H H' ∧ Tabs T H')
    ⟨none, none, none, none, none, none, none, none, none, none, rfl, ExtN.refl _, tb⟩ ?_ ?_⟩
  · rw [len]
    split <;> split <;> omega
  · rw [len]
    split <;> split <;> omega
  · rintro i σ H1 hi ⟨v1, v2, v3, v4, v5, v6, v7, v8, v9, v10, rfl, x1, t1⟩
    have hi2 : i ≤ 2 ∧ (i < ns.length ∨ ns = []) := by
      rw [len] at hi
      cases ns with
      | nil => exact ⟨by simp at hi; omega, .inr rfl⟩
      | cons n r =>
        simp only [List.length_cons] at hi ⊢
        refine ⟨?_, .inl ?_⟩
        · split at hi <;> split at hi <;> omega
        · split at hi <;> split at hi <;> omega
    refine ⟨_, rfl, _, rfl, a, ns, i, by rw [Int.zero_add]; rfl, seq_extn x1 sq, few, hi2.1, hi2.2, fun H2 p s2 np x2 => ?_⟩
    refine ⟨_, rfl, p, rfl, x2, fun h H3 t a' b' c' good but3 x3 nt et at_h3 => ?_⟩
    have gH := good.toH
    have L3 : Lw p a' b' c' h T H1 H3 := ⟨(BN.of s2).trans (.but but3), x3, tabs_butB x2 but3 (t1.ext s2), at_h3⟩
    refine ⟨t, _, rfl, SqT.of et, rfl, _, _, rfl, _, _, rfl, _, _, rfl, rfl, ?_⟩
    refine ⟨6, rfl, by decide, by decide, for_range (n := 6) (fun j σ H' => ∃ v6 v7 v8 v9 v10 : Option V, σ = [some (.ref a), some (.int (0 + (i : Nat))), some (.ref p), some (.ref a'), some (.ref b'), some (.ref c'), v6, v7, v8, v9, v10] ∧ Lw p a' b' c' h T H1 H')
      ⟨_, _, _, _, _, rfl, L3⟩ ?_ ?_⟩
    · rintro j σ G1 hj ⟨v6, v7, v8, v9, v10, rfl, L⟩
      refine ⟨_, rfl, _, rfl, _, rfl, _, rfl, p, a', b', c', h, rfl, L.box, L.hs, good, fun G2 T1 T2 w1 w2 w3 A1 A2 A3 n b2 x2 nT eT eT1 av1 av2 av3 hb => ?_⟩
      refine ⟨T2, _, rfl, SqT.of eT, rfl, _, _, rfl, T1, _, rfl, SqT.of eT1, rfl, _, _, rfl, _, _, rfl, _, _, rfl, rfl, _, _, rfl, rfl, ?_⟩
      have L2 := L.but b2 x2
      refine ⟨L2.tb, fun K1 y1 u1 => ⟨_, rfl, _, rfl, _, rfl, fun o dx no ndx ne => ?_⟩⟩
      have sX := made no ndx
      refine ⟨o, dx, w1, w2, w3, A1, A2, A3, rfl, upd_same, (av1.extn y1).same sX, (av2.extn y1).same sX, (av3.extn y1).same sX, .inl ⟨n, hb, fun H7 d b7 nd ed => ⟨d, _, rfl, ed, .inl ⟨rfl, fun p7 np7 => ?_⟩⟩⟩⟩
      have sK7 : Same K1 H7 := fun b u e => b7 b u (ne_of_none e no) (sX _ _ e)
      have z7 := same_upd (o := .tup [.str "house", .int (n : Nat)]) np7
      refine ⟨_, rfl, by show 2 ≤ sizeLine; decide, fun p8 np8 => ?_⟩
      have z8 := same_upd (o := .tup [.str "house", .int (n : Nat)]) np8
      refine ⟨_, _, res_dp (z8 _ _ upd_same), res_dp upd_same, res_shaped _ _ ok_house_, res_shaped _ _ ok_house_, _, rfl, ?_⟩
      rw [res_eqv]
      exact iteF ⟨_, _, _, _, _, rfl, (L2.ext y1 u1).same ((sK7.trans z7).trans z8)⟩
    · rintro σ G1 ⟨v6, v7, v8, v9, v10, rfl, L⟩
      refine ⟨L.tb, fun K1 y1 u1 => ⟨_, rfl, _, rfl, _, rfl, fun o dx no ndx ne => ?_⟩⟩
      have L1 := L.ext y1 u1
      have sX := made no ndx
      have hX := L1.hs.same sX
      refine ⟨o, dx, _, _, _, _, _, _, rfl, upd_same, av_parts good hX, av_doors good hX, av_cells good hX, .inr ⟨h, ⟨gH, rfl, rfl, rfl⟩, fun H7 b7 ins7 => ⟨rfl, _, rfl, _, rfl, ?_⟩⟩⟩
      have sK7 : Same K1 H7 := fun b u e => b7 b u (ne_of_none e no) (sX _ _ e)
      have L7 := L1.same sK7
      refine iteNS rfl ?_
      refine ⟨_, rfl, _, rfl, _, rfl, _, rfl, fun o2 dx2 no2 ndx2 ne2 => ?_⟩
      have sY := made no2 ndx2
      have hY := L7.hs.same sY
      refine ⟨o2, dx2, _, _, _, _, _, _, rfl, upd_same, av_parts good hY, av_doors good hY, av_cells good hY, .inr ⟨h, ⟨gH, rfl, rfl, rfl⟩, fun H8 b8 ins8 => ⟨rfl, ?_⟩⟩⟩
      have s78 : Same H7 H8 := fun b u e => b8 b u (ne_of_none e no2) (sY _ _ e)
      have L8 := L7.same s78
      refine ⟨_, rfl, _, rfl, _, rfl, p, o2, a', b', c', h, rfl, L8.box, ins8, L8.hs, good, L8.tb, fun H9 bn9 x9 t9 => ⟨_, rfl, iteF ?_⟩⟩
      have L9 := L8.bnt bn9 x9 t9
      exact ⟨_, _, _, _, _, _, _, _, _, _, rfl, L9.bn.ext_of np x1, L9.tb⟩
  · rintro σ H1 ⟨v1, v2, v3, v4, v5, v6, v7, v8, v9, v10, rfl, x1, t1⟩
    refine ⟨t1, fun K1 y1 u1 => heard_of (make3 (lc_sgn (n := 8) abc8 (by decide) (by decide) (by decide) (by intro; rfl) (by intro; rfl) fun H2 D2 s2 nD hD => ⟨Nat.zero_le _, fun e1 ne1 => ⟨Nat.zero_le _, fun e2 ne2 => fun o dx no ndx ne => ?_⟩⟩))⟩
    have sA := same_upd (o := .tup []) ne1
    have sB := same_upd (o := .tup []) ne2
    have sX := made no ndx
    refine ⟨o, dx, _, _, _, .sq ((sgns "p" 8).map strT), .sq [], .sq [], rfl, upd_same, av_strs (.inl (((sA.trans sB).trans sX) _ _ hD)) (fun y hy => by obtain ⟨i, _, rfl⟩ := List.mem_map.mp hy; exact sgn_flat (by decide)) (by decide), ⟨e1, [], rfl, .inr ((sB.trans sX) _ _ upd_same), .nil, by decide⟩, ⟨e2, [], rfl, .inr (sX _ _ upd_same), .nil, by decide⟩, .inr ⟨h8, ⟨good8, rfl, rfl, rfl⟩, fun H7 b7 ins7 => ⟨rfl, _, rfl, rfl⟩⟩⟩
end
end K02

namespace K02
open PySem PySem.Spec PyProof.Rows L2
open Cal EnuT Exn Keys LamX Stc Fx

theorem callee_mk {P : Program} {w : World} {K : W.Frag} {h : Heap} {mg : Str → Option Value} {base : Heap} {x : Str} {f : Addr} {ps : List Str} {sp : Sp} {k : Nat} {st : Stmt} {oc kV doc pm cdv ct : Value} {od an : Option Addr} {sl : Array (Option Value)} (X : K.In h) (G : h.Ns mainGlobals mg)
    (a : W.nsIn K mainGlobals x = some (some (.ref f))) (l : K.lookup f = some ⟨oc, od, .func (W.fnOf x x (defArgs st) (defBody st) (defScope st) .none kV doc pm an cdv ct), sl⟩) (c : W.codeIn K cdv x = true) (kp : W.keepIn K (.ref f) = true)
    (b : ∀ (kV doc pm : Value) (an : Option Addr) (cdv ct : Value) (us : List Value), us.length = ps.length → bindArgs (W.fnOf x x (defArgs st) (defBody st) (defScope st) .none kV doc pm an cdv ct) ⟨us, []⟩ = pure (ps.zip us))
    (ok : ∀ cdv', cdv' = cdv → Fun K x x st f (W.fnOf x x (defArgs st) (defBody st) (defScope st) .none kV doc pm an cdv ct) → FnOk P w K mg base CX0 k f (W.fnOf x x (defArgs st) (defBody st) (defScope st) .none kV doc pm an cdv ct) ps sp) : Callee P w K mg base x k ps sp := by
  have F := fun_mk (st := st) l c kp
  exact ⟨f, _, W.mg_of X G a, kp, F.binds b, ok cdv rfl F⟩
abbrev iP : Stmt := inClass (top 6) 0
abbrev iT : Stmt := inClass (top 7) 0
theorem keP : InitTxt iP "at" := ⟨⟨_, _, _, _, rfl⟩, ⟨rfl, rfl, rfl, by decide +kernel, rfl, by decide +kernel, by decide +kernel⟩, .inl rfl, .inl rfl, by decide, by decide, fun _ _ _ _ _ _ _ _ _ => rfl, fun _ _ _ _ _ _ _ _ _ => rfl⟩
theorem keT : InitTxt iT "at" := ⟨⟨_, _, _, _, rfl⟩, ⟨rfl, rfl, rfl, by decide +kernel, rfl, by decide +kernel, by decide +kernel⟩, .inl rfl, .inl rfl, by decide, by decide, fun _ _ _ _ _ _ _ _ _ => rfl, fun _ _ _ _ _ _ _ _ _ => rfl⟩
def tabsB (K : W.Frag) : Bool := match W.tabIn K "law", W.tabIn K "_law_texts_right" with
  | some p, some q => (K.lookup p.2).isNone && (K.lookup q.2).isNone && decide (p.2 ≠ q.2)
  | _, _ => false
theorem tabs_of {K : W.Frag} (h : tabsB K = true) : ∃ cL PL cT PT, W.tabIn K "law" = some (cL, PL) ∧ W.tabIn K "_law_texts_right" = some (cT, PT) ∧ K.lookup PL = none ∧ K.lookup PT = none ∧ PL ≠ PT := by
  unfold tabsB at h
  split at h
  · rename_i p q h1 h2
    simp only [Bool.and_eq_true, decide_eq_true_eq, Option.isNone_iff_eq_none] at h
    exact ⟨p.1, p.2, q.1, q.2, h1, h2, h.1.1, h.1.2, h.2⟩
  · cases h
def kitB (K : W.Frag) (CH CT CL : Addr) : Bool :=
  decide (W.exmAny K (.ref CH) [.ref CH] = some true) && decide (W.exmAny K (.ref CT) [.ref CH] = some false) && decide (W.exmAny K (.ref CT) [.ref CT] = some true) && decide (W.kitOne K (.ref CH) (.ref CL) = some true) && decide (W.kitOne K (.ref CT) (.ref CL) = some true)
theorem held_of {P : Program} {w : World} {K : W.Frag} {mg : Str → Option Value} {base : Heap} {g : Addr} {sp : Sp} {ps : List Str} {fd : FuncData} (ok : FnOk P w K mg base CX0 2 g fd ps sp) (kp : W.keepIn K (.ref g) = true) (b : Binds K fd ps []) : ∀ f sp', S1 g sp f = some sp' → Held P w K mg base 2 f sp' := fun f sp' hs => by
  unfold S1 at hs
  split at hs
  · rename_i hf
    obtain rfl := Option.some.inj hs
    subst hf
    exact ⟨_, _, ok, kp, b⟩
  · cases hs

theorem all_mk {P : Program} {w : World} {K : W.Frag} {h : Heap} {mg : Str → Option Value} {fa : Addr} {C CH CT CL fI fM fT fR rR iCH iCT : Addr} {tP tD tC : Tok} {restR : List Value} {o_I v_I d_I p_I c_I t_I : Value} {x_I n_I : Option Addr} {y_I : Array (Option Value)} {o_M v_M d_M p_M c_M t_M : Value} {x_M n_M : Option Addr} {y_M : Array (Option Value)} {o_T v_T d_T p_T c_T t_T : Value} {x_T n_T : Option Addr} {y_T : Array (Option Value)} {o_R v_R d_R p_R c_R t_R : Value} {x_R n_R : Option Addr} {y_R : Array (Option Value)} {oiCH viCH diCH piCH ciCH tiCH : Value} {xiCH niCH : Option Addr} {siCH : Array (Option Value)} {oiCT viCT diCT piCT ciCT tiCT : Value} {xiCT niCT : Option Addr} {siCT : Array (Option Value)} {f_isseq' : Addr} {o_isseq v_isseq d_isseq p_isseq c_isseq t_isseq : Value} {x_isseq n_isseq : Option Addr} {s_isseq : Array (Option Value)} {f_isname' : Addr} {o_isname v_isname d_isname p_isname c_isname t_isname : Value} {x_isname n_isname : Option Addr} {s_isname : Array (Option Value)} {f_chp' : Addr} {o_chp v_chp d_chp p_chp c_chp t_chp : Value} {x_chp n_chp : Option Addr} {s_chp : Array (Option Value)} {f_isdoor' : Addr} {o_isdoor v_isdoor d_isdoor p_isdoor c_isdoor t_isdoor : Value} {x_isdoor n_isdoor : Option Addr} {s_isdoor : Array (Option Value)} {f_iscell' : Addr} {o_iscell v_iscell d_iscell p_iscell c_iscell t_iscell : Value} {x_iscell n_iscell : Option Addr} {s_iscell : Array (Option Value)} {f_cht' : Addr} {o_cht v_cht d_cht p_cht c_cht t_cht : Value} {x_cht n_cht : Option Addr} {s_cht : Array (Option Value)} {f_nums' : Addr} {o_nums v_nums d_nums p_nums c_nums t_nums : Value} {x_nums n_nums : Option Addr} {s_nums : Array (Option Value)} {f_numof' : Addr} {o_numof v_numof d_numof p_numof c_numof t_numof : Value} {x_numof n_numof : Option Addr} {s_numof : Array (Option Value)} {f_thing' : Addr} {o_thing v_thing d_thing p_thing c_thing t_thing : Value} {x_thing n_thing : Option Addr} {s_thing : Array (Option Value)} {f_box' : Addr} {o_box v_box d_box p_box c_box t_box : Value} {x_box n_box : Option Addr} {s_box : Array (Option Value)} {f_take' : Addr} {o_take v_take d_take p_take c_take t_take : Value} {x_take n_take : Option Addr} {s_take : Array (Option Value)} {f_pick' : Addr} {o_pick v_pick d_pick p_pick c_pick t_pick : Value} {x_pick n_pick : Option Addr} {s_pick : Array (Option Value)} {f_mixed' : Addr} {o_mixed v_mixed d_mixed p_mixed c_mixed t_mixed : Value} {x_mixed n_mixed : Option Addr} {s_mixed : Array (Option Value)} {f_things' : Addr} {o_things v_things d_things p_things c_things t_things : Value} {x_things n_things : Option Addr} {s_things : Array (Option Value)} {f_refd' : Addr} {o_refd v_refd d_refd p_refd c_refd t_refd : Value} {x_refd n_refd : Option Addr} {s_refd : Array (Option Value)} {f_wd' : Addr} {o_wd v_wd d_wd p_wd c_wd t_wd : Value} {x_wd n_wd : Option Addr} {s_wd : Array (Option Value)} {f_wc' : Addr} {o_wc v_wc d_wc p_wc c_wc t_wc : Value} {x_wc n_wc : Option Addr} {s_wc : Array (Option Value)} {f_bent' : Addr} {o_bent v_bent d_bent p_bent c_bent t_bent : Value} {x_bent n_bent : Option Addr} {s_bent : Array (Option Value)} {f_texts' : Addr} {o_texts v_texts d_texts p_texts c_texts t_texts : Value} {x_texts n_texts : Option Addr} {s_texts : Array (Option Value)} {f_law' : Addr} {o_law v_law d_law p_law c_law t_law : Value} {x_law n_law : Option Addr} {s_law : Array (Option Value)}
    (X : K.In h) (G : h.Ns mainGlobals mg) (hfa : mg "law" = some (.ref fa))
    (aC : W.nsIn K mainGlobals "House" = some (some (.ref C))) (nI : W.findIn K (.ref C) "__init__" = some (some (.ref fI))) (nM : W.findIn K (.ref C) "number_of_part" = some (some (.ref fM))) (nT : W.findIn K (.ref C) "text" = some (some (.ref fT))) (nR : W.findCls K (.ref C) (.type "type") "read" = some (.get (.builtin "staticmethod.__get__") (.ref rR) .none (.ref C))) (rR_ : W.recIn K rR "staticmethod" = some (.ref fR :: restR))
    (l_I : K.lookup fI = some ⟨o_I, x_I, .func (W.fnOf "__init__" "House.__init__" (defArgs sInit) (defBody sInit) (defScope sInit) .none v_I d_I p_I n_I c_I t_I), y_I⟩) (g_I : W.codeIn K c_I "House.__init__" = true) (k_I : W.keepIn K (.ref fI) = true) (f_I : W.isFn K (.ref fI) = true)
    (l_M : K.lookup fM = some ⟨o_M, x_M, .func (W.fnOf "number_of_part" "House.number_of_part" (defArgs sNumPart) (defBody sNumPart) (defScope sNumPart) .none v_M d_M p_M n_M c_M t_M), y_M⟩) (g_M : W.codeIn K c_M "House.number_of_part" = true) (k_M : W.keepIn K (.ref fM) = true) (f_M : W.isFn K (.ref fM) = true)
    (l_T : K.lookup fT = some ⟨o_T, x_T, .func (W.fnOf "text" "House.text" (defArgs sText) (defBody sText) (defScope sText) .none v_T d_T p_T n_T c_T t_T), y_T⟩) (g_T : W.codeIn K c_T "House.text" = true) (k_T : W.keepIn K (.ref fT) = true) (f_T : W.isFn K (.ref fT) = true)
    (l_R : K.lookup fR = some ⟨o_R, x_R, .func (W.fnOf "read" "House.read" (defArgs sRead) (defBody sRead) (defScope sRead) .none v_R d_R p_R n_R c_R t_R), y_R⟩) (g_R : W.codeIn K c_R "House.read" = true) (k_R : W.keepIn K (.ref fR) = true) (f_R : W.isFn K (.ref fR) = true)
    (aCH : W.nsIn K mainGlobals "InvalidHouse" = some (some (.ref CH))) (bCH : clsB K CH exTail "Exception.__new__" "at" = true) (nCH : W.findIn K (.ref CH) "__init__" = some (some (.ref iCH))) (tCH : W.typeIn K (.ref iCH) = some (.type "function"))
    (lCH : K.lookup iCH = some ⟨oiCH, xiCH, .func (W.fnOf "__init__" "InvalidHouse.__init__" (defArgs iP) (defBody iP) (defScope iP) .none viCH diCH piCH niCH ciCH tiCH), siCH⟩) (cCH : W.codeIn K ciCH "InvalidHouse.__init__" = true) (kCH : W.keepIn K (.ref iCH) = true)
    (aCT : W.nsIn K mainGlobals "InvalidText" = some (some (.ref CT))) (bCT : clsB K CT exTail "Exception.__new__" "at" = true) (nCT : W.findIn K (.ref CT) "__init__" = some (some (.ref iCT))) (tCT : W.typeIn K (.ref iCT) = some (.type "function"))
    (lCT : K.lookup iCT = some ⟨oiCT, xiCT, .func (W.fnOf "__init__" "InvalidText.__init__" (defArgs iT) (defBody iT) (defScope iT) .none viCT diCT piCT niCT ciCT tiCT), siCT⟩) (cCT : W.codeIn K ciCT "InvalidText.__init__" = true) (kCT : W.keepIn K (.ref iCT) = true)
    (hO : ownB K C ["parts", "doors", "cells", "_part_numbers", "_door_numbers", "_cell_numbers", "ends", "cell_parts", "kept"] = true) (aL : W.nsIn K mainGlobals "LightError" = some (some (.ref CL))) (hK : kitB K CH CT CL = true) (mP : W.nsIn K mainGlobals "MOST_PARTS" = some (some (.int 8 tP))) (mD : W.nsIn K mainGlobals "MOST_DOORS" = some (some (.int 12 tD))) (mC : W.nsIn K mainGlobals "MOST_CELLS" = some (some (.int 8 tC)))
    (e_isseq : W.nsIn K mainGlobals "is_sequence" = some (some (.ref f_isseq'))) (l_isseq : K.lookup f_isseq' = some ⟨o_isseq, x_isseq, .func (W.fnOf "is_sequence" "is_sequence" (defArgs sIsSeq) (defBody sIsSeq) (defScope sIsSeq) .none v_isseq d_isseq p_isseq n_isseq c_isseq t_isseq), s_isseq⟩) (g_isseq : W.codeIn K c_isseq "is_sequence" = true) (k_isseq : W.keepIn K (.ref f_isseq') = true)
    (e_isname : W.nsIn K mainGlobals "is_name" = some (some (.ref f_isname'))) (l_isname : K.lookup f_isname' = some ⟨o_isname, x_isname, .func (W.fnOf "is_name" "is_name" (defArgs sIsName) (defBody sIsName) (defScope sIsName) .none v_isname d_isname p_isname n_isname c_isname t_isname), s_isname⟩) (g_isname : W.codeIn K c_isname "is_name" = true) (k_isname : W.keepIn K (.ref f_isname') = true)
    (e_chp : W.nsIn K mainGlobals "_checked_parts" = some (some (.ref f_chp'))) (l_chp : K.lookup f_chp' = some ⟨o_chp, x_chp, .func (W.fnOf "_checked_parts" "_checked_parts" (defArgs sChParts) (defBody sChParts) (defScope sChParts) .none v_chp d_chp p_chp n_chp c_chp t_chp), s_chp⟩) (g_chp : W.codeIn K c_chp "_checked_parts" = true) (k_chp : W.keepIn K (.ref f_chp') = true)
    (e_isdoor : W.nsIn K mainGlobals "_is_door" = some (some (.ref f_isdoor'))) (l_isdoor : K.lookup f_isdoor' = some ⟨o_isdoor, x_isdoor, .func (W.fnOf "_is_door" "_is_door" (defArgs sIsDoor) (defBody sIsDoor) (defScope sIsDoor) .none v_isdoor d_isdoor p_isdoor n_isdoor c_isdoor t_isdoor), s_isdoor⟩) (g_isdoor : W.codeIn K c_isdoor "_is_door" = true) (k_isdoor : W.keepIn K (.ref f_isdoor') = true)
    (e_iscell : W.nsIn K mainGlobals "_is_cell" = some (some (.ref f_iscell'))) (l_iscell : K.lookup f_iscell' = some ⟨o_iscell, x_iscell, .func (W.fnOf "_is_cell" "_is_cell" (defArgs sIsCell) (defBody sIsCell) (defScope sIsCell) .none v_iscell d_iscell p_iscell n_iscell c_iscell t_iscell), s_iscell⟩) (g_iscell : W.codeIn K c_iscell "_is_cell" = true) (k_iscell : W.keepIn K (.ref f_iscell') = true)
    (e_cht : W.nsIn K mainGlobals "_checked_things" = some (some (.ref f_cht'))) (l_cht : K.lookup f_cht' = some ⟨o_cht, x_cht, .func (W.fnOf "_checked_things" "_checked_things" (defArgs sChThings) (defBody sChThings) (defScope sChThings) .none v_cht d_cht p_cht n_cht c_cht t_cht), s_cht⟩) (g_cht : W.codeIn K c_cht "_checked_things" = true) (k_cht : W.keepIn K (.ref f_cht') = true)
    (e_nums : W.nsIn K mainGlobals "_numbers" = some (some (.ref f_nums'))) (l_nums : K.lookup f_nums' = some ⟨o_nums, x_nums, .func (W.fnOf "_numbers" "_numbers" (defArgs sNumbers) (defBody sNumbers) (defScope sNumbers) .none v_nums d_nums p_nums n_nums c_nums t_nums), s_nums⟩) (g_nums : W.codeIn K c_nums "_numbers" = true) (k_nums : W.keepIn K (.ref f_nums') = true)
    (e_numof : W.nsIn K mainGlobals "_number_of" = some (some (.ref f_numof'))) (l_numof : K.lookup f_numof' = some ⟨o_numof, x_numof, .func (W.fnOf "_number_of" "_number_of" (defArgs sNumOf) (defBody sNumOf) (defScope sNumOf) .none v_numof d_numof p_numof n_numof c_numof t_numof), s_numof⟩) (g_numof : W.codeIn K c_numof "_number_of" = true) (k_numof : W.keepIn K (.ref f_numof') = true)
    (e_thing : W.nsIn K mainGlobals "_thing_of" = some (some (.ref f_thing'))) (l_thing : K.lookup f_thing' = some ⟨o_thing, x_thing, .func (W.fnOf "_thing_of" "_thing_of" (defArgs sThing) (defBody sThing) (defScope sThing) .none v_thing d_thing p_thing n_thing c_thing t_thing), s_thing⟩) (g_thing : W.codeIn K c_thing "_thing_of" = true) (k_thing : W.keepIn K (.ref f_thing') = true)
    (e_box : W.nsIn K mainGlobals "_law_box" = some (some (.ref f_box'))) (l_box : K.lookup f_box' = some ⟨o_box, x_box, .func (W.fnOf "_law_box" "_law_box" (defArgs sBox) (defBody sBox) (defScope sBox) .none v_box d_box p_box n_box c_box t_box), s_box⟩) (g_box : W.codeIn K c_box "_law_box" = true) (k_box : W.keepIn K (.ref f_box') = true)
    (e_take : W.nsIn K mainGlobals "_law_take" = some (some (.ref f_take'))) (l_take : K.lookup f_take' = some ⟨o_take, x_take, .func (W.fnOf "_law_take" "_law_take" (defArgs sTake) (defBody sTake) (defScope sTake) .none v_take d_take p_take n_take c_take t_take), s_take⟩) (g_take : W.codeIn K c_take "_law_take" = true) (k_take : W.keepIn K (.ref f_take') = true)
    (e_pick : W.nsIn K mainGlobals "_law_pick" = some (some (.ref f_pick'))) (l_pick : K.lookup f_pick' = some ⟨o_pick, x_pick, .func (W.fnOf "_law_pick" "_law_pick" (defArgs sPick) (defBody sPick) (defScope sPick) .none v_pick d_pick p_pick n_pick c_pick t_pick), s_pick⟩) (g_pick : W.codeIn K c_pick "_law_pick" = true) (k_pick : W.keepIn K (.ref f_pick') = true)
    (e_mixed : W.nsIn K mainGlobals "_law_mixed" = some (some (.ref f_mixed'))) (l_mixed : K.lookup f_mixed' = some ⟨o_mixed, x_mixed, .func (W.fnOf "_law_mixed" "_law_mixed" (defArgs sMixed) (defBody sMixed) (defScope sMixed) .none v_mixed d_mixed p_mixed n_mixed c_mixed t_mixed), s_mixed⟩) (g_mixed : W.codeIn K c_mixed "_law_mixed" = true) (k_mixed : W.keepIn K (.ref f_mixed') = true)
    (e_things : W.nsIn K mainGlobals "_law_things" = some (some (.ref f_things'))) (l_things : K.lookup f_things' = some ⟨o_things, x_things, .func (W.fnOf "_law_things" "_law_things" (defArgs sThings) (defBody sThings) (defScope sThings) .none v_things d_things p_things n_things c_things t_things), s_things⟩) (g_things : W.codeIn K c_things "_law_things" = true) (k_things : W.keepIn K (.ref f_things') = true)
    (e_refd : W.nsIn K mainGlobals "_law_heard" = some (some (.ref f_refd'))) (l_refd : K.lookup f_refd' = some ⟨o_refd, x_refd, .func (W.fnOf "_law_heard" "_law_heard" (defArgs sHeard) (defBody sHeard) (defScope sHeard) .none v_refd d_refd p_refd n_refd c_refd t_refd), s_refd⟩) (g_refd : W.codeIn K c_refd "_law_heard" = true) (k_refd : W.keepIn K (.ref f_refd') = true)
    (e_wd : W.nsIn K mainGlobals "_law_wrong_door" = some (some (.ref f_wd'))) (l_wd : K.lookup f_wd' = some ⟨o_wd, x_wd, .func (W.fnOf "_law_wrong_door" "_law_wrong_door" (defArgs sWrongDoor) (defBody sWrongDoor) (defScope sWrongDoor) .none v_wd d_wd p_wd n_wd c_wd t_wd), s_wd⟩) (g_wd : W.codeIn K c_wd "_law_wrong_door" = true) (k_wd : W.keepIn K (.ref f_wd') = true)
    (e_wc : W.nsIn K mainGlobals "_law_wrong_cell" = some (some (.ref f_wc'))) (l_wc : K.lookup f_wc' = some ⟨o_wc, x_wc, .func (W.fnOf "_law_wrong_cell" "_law_wrong_cell" (defArgs sWrongCell) (defBody sWrongCell) (defScope sWrongCell) .none v_wc d_wc p_wc n_wc c_wc t_wc), s_wc⟩) (g_wc : W.codeIn K c_wc "_law_wrong_cell" = true) (k_wc : W.keepIn K (.ref f_wc') = true)
    (e_bent : W.nsIn K mainGlobals "_law_bent" = some (some (.ref f_bent'))) (l_bent : K.lookup f_bent' = some ⟨o_bent, x_bent, .func (W.fnOf "_law_bent" "_law_bent" (defArgs sBent) (defBody sBent) (defScope sBent) .none v_bent d_bent p_bent n_bent c_bent t_bent), s_bent⟩) (g_bent : W.codeIn K c_bent "_law_bent" = true) (k_bent : W.keepIn K (.ref f_bent') = true)
    (e_texts : W.nsIn K mainGlobals "_law_texts_right" = some (some (.ref f_texts'))) (l_texts : K.lookup f_texts' = some ⟨o_texts, x_texts, .func (W.fnOf "_law_texts_right" "_law_texts_right" (defArgs sTexts) (defBody sTexts) (defScope sTexts) .none v_texts d_texts p_texts n_texts c_texts t_texts), s_texts⟩) (g_texts : W.codeIn K c_texts "_law_texts_right" = true) (k_texts : W.keepIn K (.ref f_texts') = true)
    (e_law : W.nsIn K mainGlobals "law" = some (some (.ref f_law'))) (l_law : K.lookup f_law' = some ⟨o_law, x_law, .func (W.fnOf "law" "law" (defArgs sLaw) (defBody sLaw) (defScope sLaw) .none v_law d_law p_law n_law c_law t_law), s_law⟩) (g_law : W.codeIn K c_law "law" = true) (k_law : W.keepIn K (.ref f_law') = true)
    (hT : tabsB K = true)
    (z_len : W.nsIn K mainGlobals "len" = some none)
    (z_abs : W.nsIn K mainGlobals "abs" = some none)
    (z_int : W.nsIn K mainGlobals "int" = some none)
    (z_range : W.nsIn K mainGlobals "range" = some none)
    (z_list : W.nsIn K mainGlobals "list" = some none)
    (z_tuple : W.nsIn K mainGlobals "tuple" = some none)
    (z_isinstance : W.nsIn K mainGlobals "isinstance" = some none)
    (z_enumerate : W.nsIn K mainGlobals "enumerate" = some none)
    (z_str : W.nsIn K mainGlobals "str" = some none)
    (z_bool : W.nsIn K mainGlobals "bool" = some none)
    (z_all : W.nsIn K mainGlobals "all" = some none)
    (z_repr : W.nsIn K mainGlobals "repr" = some none)
    (z_max : W.nsIn K mainGlobals "max" = some none)
    (z_min : W.nsIn K mainGlobals "min" = some none) :
    ∃ cs : List (Addr × Addr), (∀ p ∈ cs, K.lookup p.2 = none ∧ ∃ x ∈ (["law", "_law_texts_right"] : List Str), W.tabIn K x = some p) ∧
    ∀ (s : Shared) (a : Addr) (ns : List Int) (base : Heap) (H : Hp), ns.length ≤ 63 → K.In base → base.Ns mainGlobals mg → (∀ p ∈ cs, TabB base mg p.1 p.2) → Env0 P w K mg base callerA [] s H → (∀ p ∈ cs, H p.2 = some (.tbl #[])) → SqL K H a (ns.map V.int) →
      codeAny (model P w) callerA (.call (.ref fa) ⟨[.ref a], []⟩) (CR CX0 [] P w H s (fun v _ => v = .bl true) E0) s := by
  have e := hfa.symm.trans (W.mg_of X G e_law)
  cases e
  obtain ⟨cL, PL, cT, PT, tL, tT, uL, uT, nP⟩ := tabs_of hT
  refine ⟨[(cL, PL), (cT, PT)], fun p hp => ?_, fun s a ns base H few _ _ TB e0 h0 sq => ?_⟩
  · simp only [List.mem_cons, List.not_mem_nil, or_false] at hp
    rcases hp with rfl | rfl
    · exact ⟨uL, "law", by simp, tL⟩
    · exact ⟨uT, "_law_texts_right", by simp, tT⟩
  have TL := TB (cL, PL) (by simp)
  have TT := TB (cT, PT) (by simp)
  have tabs : Tabs [(PL, qL), (PT, qT)] H := fun p hp => by
    simp only [List.mem_cons, List.not_mem_nil, or_false] at hp
    rcases hp with rfl | rfl
    · exact .nil (h0 (cL, PL) (by simp))
    · exact .nil (h0 (cT, PT) (by simp))
  have huL : ∀ p ∈ [(PL, qL), (PT, qT)], p.1 = PL → p.2 = qL := fun p hp e => by
    simp only [List.mem_cons, List.not_mem_nil, or_false] at hp
    rcases hp with rfl | rfl
    · rfl
    · exact absurd e.symm nP
  have huT : ∀ p ∈ [(PL, qL), (PT, qT)], p.1 = PT → p.2 = qT := fun p hp e => by
    simp only [List.mem_cons, List.not_mem_nil, or_false] at hp
    rcases hp with rfl | rfl
    · exact absurd e nP
    · rfl
  have N : Nums mg := ⟨W.mg_none_of X G z_len, W.mg_none_of X G z_abs, W.mg_none_of X G z_int⟩
  have B : Bl mg := ⟨N, W.mg_none_of X G z_range, W.mg_none_of X G z_list, W.mg_none_of X G z_tuple, W.mg_none_of X G z_isinstance, W.mg_none_of X G z_enumerate, W.mg_none_of X G z_str, W.mg_none_of X G z_bool, W.mg_none_of X G z_all, W.mg_none_of X G z_repr, W.mg_none_of X G z_max, W.mg_none_of X G z_min⟩
  have ow := own_of hO
  unfold kitB at hK
  simp only [Bool.and_eq_true, decide_eq_true_eq] at hK
  obtain ⟨⟨⟨⟨q1, q2⟩, q3⟩, q4⟩, q5⟩ := hK
  have cH : CE P w K mg base "InvalidHouse" CH "at" := cl1_mk X G aCH bCH nCH tCH lCH cCH kCH keP exE tail_Exception exS
  have cT' : CE P w K mg base "InvalidText" CT "at" := cl1_mk X G aCT bCT nCT tCT lCT cCT kCT keT exE tail_Exception exS
  have two : Two P w K mg base CH CT CL := ⟨cH, cT', ow.cg, q1, q2, q3, W.mg_of X G aL, q4, q5⟩
  have mC' := W.mg_of X G aC
  have h2 : HC2 K C := ⟨ow.cl, ow.no _ (by simp), ow.no _ (by simp), ow.no _ (by simp), ow.no _ (by simp), ow.no _ (by simp), ow.no _ (by simp), ow.no _ (by simp), ow.no _ (by simp), ow.no _ (by simp)⟩
  have cSeq : Callee P w K mg base "is_sequence" 1 ["value"] (spSeq) := callee_mk (st := sIsSeq) X G e_isseq l_isseq g_isseq k_isseq (fun _ _ _ _ _ _ us hl => match us, hl with | [_], _ => rfl) (fun cdv _ F => ok_isseq F B)
  have cName : Callee P w K mg base "is_name" 1 ["value"] (spName) := callee_mk (st := sIsName) X G e_isname l_isname g_isname k_isname (fun _ _ _ _ _ _ us hl => match us, hl with | [_], _ => rfl) (fun cdv _ F => ok_isname F B)
  have F_chp := fun_mk (st := sChParts) l_chp g_chp k_chp
  have F_isdoor := fun_mk (st := sIsDoor) l_isdoor g_isdoor k_isdoor
  have F_iscell := fun_mk (st := sIsCell) l_iscell g_iscell k_iscell
  have F_cht := fun_mk (st := sChThings) l_cht g_cht k_cht
  have F_take := fun_mk (st := sTake) l_take g_take k_take
  have cParts : CalleeX P w K mg base "_checked_parts" 3 ["parts"] (spParts CH) := ⟨_, _, W.mg_of X G e_chp, k_chp, F_chp.binds (fun _ _ _ _ _ _ us hl => match us, hl with | [_], _ => rfl), ok_chparts F_chp B cH cSeq cName (W.mg_of X G mP)⟩
  have heldD := held_of (ok_isdoor (P := P) (w := w) (mg := mg) (base := base) F_isdoor B cSeq cName) k_isdoor (F_isdoor.binds (fun _ _ _ _ _ _ us hl => match us, hl with | [_, _], _ => rfl))
  have heldC := held_of (ok_iscell (P := P) (w := w) (mg := mg) (base := base) F_iscell B cSeq cName) k_iscell (F_iscell.binds (fun _ _ _ _ _ _ us hl => match us, hl with | [_, _], _ => rfl))
  have cCh1 : CalleeX P w K mg base "_checked_things" 3 ["things", "most", "parts", "taken", "is_thing"] (spThings' CH (S1 f_isdoor' (spThing doorB))) := ⟨_, _, W.mg_of X G e_cht, k_cht, F_cht.binds (fun _ _ _ _ _ _ us hl => match us, hl with | [_, _, _, _, _], _ => rfl), ok_chthings F_cht B cH cSeq _ heldD⟩
  have cCh2 : CalleeX P w K mg base "_checked_things" 3 ["things", "most", "parts", "taken", "is_thing"] (spThings' CH (S1 f_iscell' (spThing cellB))) := ⟨_, _, W.mg_of X G e_cht, k_cht, F_cht.binds (fun _ _ _ _ _ _ us hl => match us, hl with | [_, _, _, _, _], _ => rfl), ok_chthings F_cht B cH cSeq _ heldC⟩
  have cNums : Callee P w K mg base "_numbers" 1 ["names"] (spNums) := callee_mk (st := sNumbers) X G e_nums l_nums g_nums k_nums (fun _ _ _ _ _ _ us hl => match us, hl with | [_], _ => rfl) (fun cdv _ F => ok_numbers F B)
  have cNumOf : Callee P w K mg base "_number_of" 1 ["numbers", "name"] (spNumOf) := callee_mk (st := sNumOf) X G e_numof l_numof g_numof k_numof (fun _ _ _ _ _ _ us hl => match us, hl with | [_, _], _ => rfl) (fun cdv _ F => ok_numof F B)
  have cThing : Callee P w K mg base "_thing_of" 1 ["row"] (spThingOf) := callee_mk (st := sThing) X G e_thing l_thing g_thing k_thing (fun _ _ _ _ _ _ us hl => match us, hl with | [_], _ => rfl) (fun cdv _ F => ok_thingof F B)
  have cBox : Callee P w K mg base "_law_box" 1 ["script", "k"] (spBox K) := callee_mk (st := sBox) X G e_box l_box g_box k_box (fun _ _ _ _ _ _ us hl => match us, hl with | [_, _], _ => rfl) (fun cdv _ F => ok_box F N)
  have cTake : Callee P w K mg base "_law_take" 1 ["box", "many"] (spTake) := callee_mk (st := sTake) X G e_take l_take g_take k_take (fun _ _ _ _ _ _ us hl => match us, hl with | [_, _], _ => rfl) (fun cdv _ F => ok_take F N)
  have cPick : Callee P w K mg base "_law_pick" 2 ["box", "some"] (spPick) := callee_mk (st := sPick) X G e_pick l_pick g_pick k_pick (fun _ _ _ _ _ _ us hl => match us, hl with | [_, _], _ => rfl) (fun cdv _ F => ok_pick F N F_take (F_take.binds (fun _ _ _ _ _ _ us hl => match us, hl with | [_, _], _ => rfl)) (W.mg_of X G e_take))
  have cMixed : Callee P w K mg base "_law_mixed" 2 ["box", "some"] (spMixed) := callee_mk (st := sMixed) X G e_mixed l_mixed g_mixed k_mixed (fun _ _ _ _ _ _ us hl => match us, hl with | [_, _], _ => rfl) (fun cdv _ F => ok_mixed F B cTake)
  have cThings : Callee P w K mg base "_law_things" 3 ["box", "most"] (spThings) := callee_mk (st := sThings) X G e_things l_things g_things k_things (fun _ _ _ _ _ _ us hl => match us, hl with | [_, _], _ => rfl) (fun cdv _ F => ok_things F B cTake cMixed cPick)
  have cWD : Callee P w K mg base "_law_wrong_door" 3 ["box", "parts", "met"] (spWrong doorB) := callee_mk (st := sWrongDoor) X G e_wd l_wd g_wd k_wd (fun _ _ _ _ _ _ us hl => match us, hl with | [_, _, _], _ => rfl) (fun cdv _ F => ok__law_wrong_door F cPick)
  have cWC : Callee P w K mg base "_law_wrong_cell" 3 ["box", "parts", "met"] (spWrong cellB) := callee_mk (st := sWrongCell) X G e_wc l_wc g_wc k_wc (fun _ _ _ _ _ _ us hl => match us, hl with | [_, _, _], _ => rfl) (fun cdv _ F => ok__law_wrong_cell F cPick)
  have cBent : Callee P w K mg base "_law_bent" 4 ["box", "parts", "doors", "cells"] (spBent) := callee_mk (st := sBent) X G e_bent l_bent g_bent k_bent (fun _ _ _ _ _ _ us hl => match us, hl with | [_, _, _, _], _ => rfl) (fun cdv _ F => ok_bent F B cTake cPick cWD cWC)
  have fI' := fun_mk (st := sInit) l_I g_I k_I
  have fM' := fun_mk (st := sNumPart) l_M g_M k_M
  have fT' := fun_mk (st := sText) l_T g_T k_T
  have fR' := fun_mk (st := sRead) l_R g_R k_R
  have mk : Mk K C fI := ⟨ow.makes, nI, f_I, ow.kp⟩
  have me : Meth K C "number_of_part" fM := ⟨nM, f_M, k_M⟩
  have bI := fI'.binds (ps := ["self", "parts", "doors", "cells"]) (fun _ _ _ _ _ _ us hl => match us, hl with | [_, _, _, _], _ => rfl)
  have okM := ok_numpart (P := P) (w := w) (mg := mg) (base := base) fM' B h2.cl h2.n4 cNumOf
  have okI := ok_init (P := P) (w := w) (mg := mg) (base := base) fI' B h2 cParts cCh1 cCh2 cNums (W.mg_of X G mD) (W.mg_of X G mC) (W.mg_of X G e_isdoor) (W.mg_of X G e_iscell) me okM (fM'.binds (ps := ["self", "name"]) (fun _ _ _ _ _ _ us hl => match us, hl with | [_, _], _ => rfl))
  have okR := ok_read (P := P) (w := w) (mg := mg) (base := base) (CH := CH) fR' B cT' cThing mC' mk bI okI
  have sm : SMet K C (.type "type") "read" rR fR := ⟨nR, ⟨_, rR_⟩, k_R⟩
  have hc : HouseC P w K mg base C CH CT := ⟨mC', ⟨fI, _, mk, bI, okI⟩, ⟨_, rR, fR, _, ow.rd, sm, fR'.binds (fun _ _ _ _ _ _ us hl => match us, hl with | [_], _ => rfl), okR⟩, ⟨fT, _, ⟨nT, f_T, k_T⟩, fT'.binds (fun _ _ _ _ _ _ us hl => match us, hl with | [_], _ => rfl), ok_text fT' h2⟩, ow.cl⟩
  have rf : Refd P w K mg base CH CT CL := ⟨two, B, _, _, _, _, _, _, _, _, _, _, W.mg_of X G e_refd, k_refd, l_refd, g_refd⟩
  have cTexts : Callee P w K mg base "_law_texts_right" 9 ["box", "house", "parts", "doors", "cells"] (spTexts C [(PL, qL), (PT, qT)]) := callee_mk (st := sTexts) X G e_texts l_texts g_texts k_texts (fun _ _ _ _ _ _ us hl => match us, hl with | [_, _, _, _, _], _ => rfl) (fun cdv _ F => ok_texts F (code_of e_texts l_texts tT) TT (by simp) huT B rf hc cTake cPick)
  have D : Defs P w K mg base C CH CT CL [(PL, qL), (PT, qT)] := {
    box := cBox
    things := cThings
    bent := cBent
    texts := cTexts
    refd := rf
    hc := hc }
  have fl := fun_mk (st := sLaw) l_law g_law k_law
  exact law_ok fl (code_of e_law l_law tL) TL (by simp) huL B D e0 (fl.binds (ps := ["script"]) (fun _ _ _ _ _ _ us hl => match us, hl with | [_], _ => rfl)) tabs sq few
end K02

open PySem PySem.W PyProof.Rows in
set_option maxRecDepth 100000 in
set_option maxHeartbeats 0 in
theorem PySem.Challenge.cw_lightsout_k02_houses_refused_holds : PySem.Challenge.rw_lightsout_k02_houses_refused.Holds := by
  w_on; o_law; k_head; (case hw => w_witness2)
  k_fill
  refine Cal.walkT (l := PySem.Challenge.rw_lightsout_k02_houses_refused) (n := 63) ["law", "_law_texts_right"] rfl (by decide) rfl (fun w h Y => PySem.W.km_in_of Y) (by decide +kernel) ?F
  case F =>
    intro w mg fa h KX G hmg
    refine' K02.all_mk KX G hmg ?aC ?nI ?nM ?nT ?nR ?rR_ ?l_I ?g_I ?k_I ?f_I ?l_M ?g_M ?k_M ?f_M ?l_T ?g_T ?k_T ?f_T ?l_R ?g_R ?k_R ?f_R ?aCH ?bCH ?nCH ?tCH ?lCH ?cCH ?kCH ?aCT ?bCT ?nCT ?tCT ?lCT ?cCT ?kCT ?hO ?aL ?hK ?mP ?mD ?mC ?e_isseq ?l_isseq ?g_isseq ?k_isseq ?e_isname ?l_isname ?g_isname ?k_isname ?e_chp ?l_chp ?g_chp ?k_chp ?e_isdoor ?l_isdoor ?g_isdoor ?k_isdoor ?e_iscell ?l_iscell ?g_iscell ?k_iscell ?e_cht ?l_cht ?g_cht ?k_cht ?e_nums ?l_nums ?g_nums ?k_nums ?e_numof ?l_numof ?g_numof ?k_numof ?e_thing ?l_thing ?g_thing ?k_thing ?e_box ?l_box ?g_box ?k_box ?e_take ?l_take ?g_take ?k_take ?e_pick ?l_pick ?g_pick ?k_pick ?e_mixed ?l_mixed ?g_mixed ?k_mixed ?e_things ?l_things ?g_things ?k_things ?e_refd ?l_refd ?g_refd ?k_refd ?e_wd ?l_wd ?g_wd ?k_wd ?e_wc ?l_wc ?g_wc ?k_wc ?e_bent ?l_bent ?g_bent ?k_bent ?e_texts ?l_texts ?g_texts ?k_texts ?e_law ?l_law ?g_law ?k_law ?hT ?z_len ?z_abs ?z_int ?z_range ?z_list ?z_tuple ?z_isinstance ?z_enumerate ?z_str ?z_bool ?z_all ?z_repr ?z_max ?z_min
    (case aC => k_is)
    (case nI => k_is)
    (case nM => k_is)
    (case nT => k_is)
    (case nR => k_is)
    (case rR_ => k_is)
    (case l_I => k_is)
    (case g_I => k_is)
    (case k_I => k_is)
    (case f_I => k_is)
    (case l_M => k_is)
    (case g_M => k_is)
    (case k_M => k_is)
    (case f_M => k_is)
    (case l_T => k_is)
    (case g_T => k_is)
    (case k_T => k_is)
    (case f_T => k_is)
    (case l_R => k_is)
    (case g_R => k_is)
    (case k_R => k_is)
    (case f_R => k_is)
    (case aCH => k_is)
    (case bCH => kernel_rfl)
    (case nCH => k_is)
    (case tCH => k_is)
    (case lCH => k_is)
    (case cCH => k_is)
    (case kCH => k_is)
    (case aCT => k_is)
    (case bCT => kernel_rfl)
    (case nCT => k_is)
    (case tCT => k_is)
    (case lCT => k_is)
    (case cCT => k_is)
    (case kCT => k_is)
    (case hO => kernel_rfl)
    (case aL => k_is)
    (case hK => kernel_rfl)
    (case mP => k_is)
    (case mD => k_is)
    (case mC => k_is)
    (case e_isseq => k_is)
    (case l_isseq => k_is)
    (case g_isseq => k_is)
    (case k_isseq => k_is)
    (case e_isname => k_is)
    (case l_isname => k_is)
    (case g_isname => k_is)
    (case k_isname => k_is)
    (case e_chp => k_is)
    (case l_chp => k_is)
    (case g_chp => k_is)
    (case k_chp => k_is)
    (case e_isdoor => k_is)
    (case l_isdoor => k_is)
    (case g_isdoor => k_is)
    (case k_isdoor => k_is)
    (case e_iscell => k_is)
    (case l_iscell => k_is)
    (case g_iscell => k_is)
    (case k_iscell => k_is)
    (case e_cht => k_is)
    (case l_cht => k_is)
    (case g_cht => k_is)
    (case k_cht => k_is)
    (case e_nums => k_is)
    (case l_nums => k_is)
    (case g_nums => k_is)
    (case k_nums => k_is)
    (case e_numof => k_is)
    (case l_numof => k_is)
    (case g_numof => k_is)
    (case k_numof => k_is)
    (case e_thing => k_is)
    (case l_thing => k_is)
    (case g_thing => k_is)
    (case k_thing => k_is)
    (case e_box => k_is)
    (case l_box => k_is)
    (case g_box => k_is)
    (case k_box => k_is)
    (case e_take => k_is)
    (case l_take => k_is)
    (case g_take => k_is)
    (case k_take => k_is)
    (case e_pick => k_is)
    (case l_pick => k_is)
    (case g_pick => k_is)
    (case k_pick => k_is)
    (case e_mixed => k_is)
    (case l_mixed => k_is)
    (case g_mixed => k_is)
    (case k_mixed => k_is)
    (case e_things => k_is)
    (case l_things => k_is)
    (case g_things => k_is)
    (case k_things => k_is)
    (case e_refd => k_is)
    (case l_refd => k_is)
    (case g_refd => k_is)
    (case k_refd => k_is)
    (case e_wd => k_is)
    (case l_wd => k_is)
    (case g_wd => k_is)
    (case k_wd => k_is)
    (case e_wc => k_is)
    (case l_wc => k_is)
    (case g_wc => k_is)
    (case k_wc => k_is)
    (case e_bent => k_is)
    (case l_bent => k_is)
    (case g_bent => k_is)
    (case k_bent => k_is)
    (case e_texts => k_is)
    (case l_texts => k_is)
    (case g_texts => k_is)
    (case k_texts => k_is)
    (case e_law => k_is)
    (case l_law => k_is)
    (case g_law => k_is)
    (case k_law => k_is)
    (case hT => kernel_rfl)
    (case z_len => k_is)
    (case z_abs => k_is)
    (case z_int => k_is)
    (case z_range => k_is)
    (case z_list => k_is)
    (case z_tuple => k_is)
    (case z_isinstance => k_is)
    (case z_enumerate => k_is)
    (case z_str => k_is)
    (case z_bool => k_is)
    (case z_all => k_is)
    (case z_repr => k_is)
    (case z_max => k_is)
    (case z_min => k_is)

