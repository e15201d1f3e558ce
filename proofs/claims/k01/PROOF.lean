import PyProof.Rows.All
import Wide.All
import OpenK.AllK
import Wide.FinOn
import HandS.Base
import HandS.Call
import HandS.List
import HandS.Ends
import HandS.Words
import PyProof.ReprRoads
import KE.KExcInit
import KE.KExcIs
import HandS.Exc
import HandS.ExcInit
import KE.KFromBytes
import HandS.IsInst
import HandS.TryOnly
import HandS.WordsExc
import KE.GoesEnum
import KE.GoesMore
import HandS.Comp
import HandS.Iter
import HandS.Walk
import HandS.TupMul
import HandS.ClsMeth
import KE.KTryMore
import HandS.EndTab
import HandS.OwnEq
import HandS.ExcField
import PyProof.StrLawsChain
import PyProof.StrLawsTight
import HandS.Text
import KE.KExcLine
import KE.RegKIsAll
import KE.KFmtOwn
import PyProof.InstEq
import HandS.WordsList
import HandS.TupAny
import HandS.NoneIn
import HandS.DeepEq
import PyProof.P3Eq
import KE.GoesComp
import KE.GoesRaise
import KE.KAsSuite
import HandS.Lambda
import HandS.Style
import HandS.Star
import HandS.DictComp
import HandS.CallLocal
import HandS.Conv
import HandS.MakeKwOnly
import PySem.Challenge.RW_lightsout_k01_houses_and_their_texts
set_option Elab.async false
set_option linter.all false
set_option maxRecDepth 100000
set_option maxHeartbeats 16000000
/-! The law's own def, run from the law's caller alone: what its body knows more is that no repr runs around it. -/
namespace Cal
open PySem PySem.Spec PyProof.Rows L2

/-- what the law's call wants -/
abbrev Won (P : Program) (w : World) (s : Shared) (fa a : Addr) : Prop :=
  codeAny (model P w) callerA (.call (.ref fa) ⟨[.ref a], []⟩)
    (fun r s' => r = .ok (.ret (.bool true)) ∧ OldK s.heap s'.heap ∧ s'.os = s.os ∧ AllBare s'.gens) s

theorem won {P : Program} {w : World} {K : PySem.W.Frag} {mg mb : Str → Option Value} {fa a : Addr} {s : Shared} {vs : List Value} {ns : List Int}
    (kIn : K.In s.heap) (glo : s.heap.Ns mainGlobals mg) (bns : s.heap.Ns builtinsNs mb) (bbo : ∀ x : Str, x ≠ "__name__" → mb x = bootBuiltins x)
    (lim : s.heap.NoLimit) (gen : s.gens = #[]) (obj : s.heap.get? a = some { cls := .type "list", data := .seq vs.toArray })
    (its : IntsAre vs ns) (few : ns.length ≤ sizeLine)
    (run : ∀ (base : Heap) (H : Hp), K.In base → base.Ns mainGlobals mg → Env0 P w K mg base callerA [] s H → Only H → SqL K H a (ns.map V.int) →
      codeAny (model P w) callerA (.call (.ref fa) ⟨[.ref a], []⟩) (CR CX0 [] P w H s (fun v _ => v = .bl true) E0) s) :
    Won P w s fa a := by
  have vals := vals_ints its
  have size := its.length
  suffices main : ∀ H : Hp, Only H → SqL K H a (ns.map V.int) → HOk P w H s.heap → (∀ b, H b ≠ none → b = a ∧ K.lookup a = none) → Won P w s fa a by
    cases look : K.lookup a with
    | some o =>
      have o2 := kIn a o look
      rw [obj] at o2
      obtain rfl := Option.some.inj o2
      refine main (fun _ => none) (fun _ => Or.inl rfl) (Or.inr ⟨_, vs.toArray, _, look, rfl, rfl, rfl, ?_, ?_⟩) (fun b u z => nomatch z) (fun b z => (z rfl).elim)
      · simpa [size] using few
      · simpa using vals
    | none =>
      let H : Hp := fun b => if b = a then some (.frz { cls := .type "list", data := .seq vs.toArray } (.lst (ns.map V.int))) else none
      have at_a : H a = some (.frz { cls := .type "list", data := .seq vs.toArray } (.lst (ns.map V.int))) := if_pos rfl
      have off : ∀ {b}, b ≠ a → H b = none := fun z => if_neg z
      refine main H (fun b => ?_) (Or.inl (Or.inr ⟨_, at_a⟩)) (fun b u z => ?_) (fun b z => ?_)
      · by_cases e : b = a
        · subst e
          exact Or.inr ⟨_, _, at_a⟩
        · exact Or.inl (off e)
      · by_cases e : b = a
        · subst e
          rw [at_a] at z
          obtain rfl := Option.some.inj z
          exact ⟨obj, by simpa using few, vs, _, vals, obj⟩
        · rw [off e] at z
          cases z
      · by_cases e : b = a
        · exact ⟨e, look⟩
        · exact (z (off e)).elim
  intro H only sq ok here
  have free : ∀ {b : Addr} {o : Obj}, s.heap.get? b = some o → o.data ≠ .seq vs.toArray → H b = none := fun {b o} e d => by
    rcases only b with z | ⟨_, _, z⟩
    · exact z
    · obtain ⟨rfl, _⟩ := here b (by rw [z]; simp)
      rw [obj] at e
      obtain rfl := Option.some.inj e
      exact (d rfl).elim
  have space : ∀ {b : Addr} {m : Str → Option Value}, s.heap.Ns b m → (hidT s.heap H).Ns b m := fun {b m} ⟨o, es, ep, e, d, r⟩ =>
    ⟨o, es, ep, hidT_get e (free e (by rw [d]; intro z; cases z)), d, r⟩
  have kIn2 : K.In (hidT s.heap H) := fun b o e => hidT_get (kIn b o e) (by
    rcases only b with z | ⟨_, _, z⟩
    · exact z
    · obtain ⟨rfl, n⟩ := here b (by rw [z]; simp)
      rw [n] at e
      cases e)
  obtain ⟨mc, l1, l2⟩ := lim
  have env : Env0 P w K mg (hidT s.heap H) callerA [] s H := {
    frames := rfl
    mod := ⟨kIn2, space glo, ⟨mb, space bns, bbo⟩, ⟨mc, space l1, l2⟩⟩
    bs := fun b o e => of_hidT e
    bsz := Nat.le_of_eq (hidT_size _ _)
    funs := trivial
    frf := fun b hb => by simp [frs] at hb
    hok := ok
    bare := .of_eq gen }
  refine codeAny_mono (run _ H kIn2 (space glo) env only sq) fun r s' z => ?_
  match r, z with
  | .error e, z => exact z.elim
  | .ok .next, z => exact z.elim
  | .ok .brk, z => exact z.elim
  | .ok .cont, z => exact z.elim
  | .ok (.ret u), ⟨v, H', os, bare, un, ok', rv, q⟩ =>
    subst q
    obtain rfl : u = Value.bool true := rv
    refine ⟨rfl, OldK.of_keep fun b o e => ?_, os, bare⟩
    rcases only b with z | ⟨ob, xs, z⟩
    · exact un.keep b o e z (by simp [frs]) (by simp)
    · have y1 := (ok b _ z).1
      have y2 := (ok' b _ (un.frzs b ob _ z)).1
      rw [e] at y1
      obtain rfl := Option.some.inj y1
      exact y2

/-- the goal that k_head leaves, from the law's body run at its caller -/
theorem walk {l : PySem.W.OpenLaw} {n : Nat} {q : Program} {loose : List Str} {XP : (Str → Option Value) → Heap → Prop} {YP : World → Heap → Prop} {d : DefRec} {K : Params → PySem.W.Frag}
    (most : l.most = some n) (few : n ≤ sizeLine) (dfl : d.params.defaults = []) (hY : ∀ (w : World) (h : Heap), YP w h → (K w.params).In h)
    (run : ∀ (w : World) (mg : Str → Option Value) (fa : Addr) (h : Heap), (K w.params).In h → h.Ns mainGlobals mg → mg d.name = some (.ref fa) →
      ∀ (s : Shared) (a : Addr) (ns : List Int) (base : Heap) (H : Hp), ns.length ≤ n → (K w.params).In base → base.Ns mainGlobals mg → Env0 l.prog w (K w.params) mg base callerA [] s H → Only H → SqL (K w.params) H a (ns.map V.int) →
        codeAny (model l.prog w) callerA (.call (.ref fa) ⟨[.ref a], []⟩) (CR CX0 [] l.prog w H s (fun v _ => v = .bl true) E0) s) :
    PySem.W.WalkO q loose XP YP l.row.toRowW d [] (fun f vs => PySem.call f vs) := by
  refine Att.attach_call most dfl fun w s₀ s₁ mg mb fa o pm cd doc a vs ns G Y ho hd hcd hmg hobj hints hlen hg => ?_
  have KX := hY w _ Y
  exact won KX G.T.g G.T.b G.T.builtins G.T.nolimit hg hobj hints (Nat.le_trans hlen few) fun base H b1 b2 e0 only sq => run w mg fa _ KX G.T.g hmg s₁ a ns base H hlen b1 b2 e0 only sq

/-- the law's def, by its body: what a body of Fun.ok is, with the caller told -/
theorem law_run {P : Program} {w : World} {K : PySem.W.Frag} {mg : Str → Option Value} {base : Heap} {x qual : Str} {st : Stmt} {f : Addr} {fd : FuncData} {N ps : List Str} {s : Shared} {H : Hp} {us : List Value} {vs : List V} {Q : VK}
    (F : Fun K x qual st f fd) (S : FnScope N ps (defScope st)) (e0 : Env0 P w K mg base callerA [] s H) (bind : Binds K fd ps []) (r : Vals vs us) (hl : vs.length = ps.length)
    (body : ∀ cdv : Value, ∃ t, PSs (cxOf CX0 P w K mg base N qual (defScope st) f cdv callerA [] s H E0).nox (defBody st) t ∧ t { nx := fun _ H' => Q .non H', rt := Q } (start N vs) H) :
    codeAny (model P w) callerA (.call (.ref f) ⟨us, []⟩) (CR CX0 [] P w H s Q E0) s := by
  obtain ⟨oc, od, kV, doc, pm, an, cdv, ct, osl, rfl, lk, hcd⟩ := F.ex
  obtain ⟨t, ht, hq⟩ := body cdv
  have keep : ∀ b o, base.get? b = some o → s.heap.get? b = some o := fun b o e => (e0.bs b o e).1
  have kIn := e0.mod.kin.keeps keep
  have ul : us.length = ps.length := by rw [← r.length]; exact hl
  have hb := bind s us kIn (by simpa using ul)
  rw [List.append_nil] at hb
  refine codeAny_call_function (by decide) (kIn _ _ lk) rfl S.co S.gen rfl (PySem.W.codeRec_of kIn hcd) (hb _ _ _ _ ?_)
  refine wpAny_newFunctionEnv_cells S.kind (fun ⟨y, v⟩ hy => ?_) fun env he s1 z => ?_
  · have := S.par y (List.of_mem_zip hy).1
    rcases this with q | q
    · exact Or.inl q
    · exact Or.inr ⟨q, PySem.W.cellsFrom_some _ _ _ (Or.inl q)⟩
  · subst he
    refine ⟨(e0.mod.nolimit.keeps keep).keeps z.toInCall.keep, codeAny_func ?_⟩
    have I : Inv (cxOf CX0 P w K mg base N qual (defScope st) f cdv callerA [] s H E0) [] (start N vs) H s1 := inv_start S rfl e0 hl r z
    refine wpAny_mono (ht.nox.run [] s1 _ H _ I hq) (fun fl s' y => ?_) fun _ _ y => y
    match fl, y with
    | .ret u, ⟨v, σ', H', J, rv, q⟩ => exact ⟨v, H', J.os, J.bare, J.base, J.hok, rv, q⟩
    | .next, ⟨σ', H', J, q⟩ => exact ⟨.non, H', J.os, J.bare, J.base, J.hok, rfl, q⟩
    | .brk, ⟨_, _, _, q⟩ => exact q.elim
    | .cont, ⟨_, _, _, q⟩ => exact q.elim

/-- no repr runs around the law's own body -/
theorem calm_guards {P : Program} {w : World} {K : PySem.W.Frag} {mg : Str → Option Value} {base : Heap} {N : List Str} {qual : Str} {sc : Scope} {f : Addr} {cdv : Value} {s : Shared} {H : Hp} :
    (cxOf CX0 P w K mg base N qual sc f cdv callerA [] s H E0).nox.A.guards = some [] := rfl

/-! ### repr of data -/
section
variable {X : Cx}
def rRepr (K : PySem.W.Frag) : List V → Hp → VK → Prop := fun xs H Q =>
  ∃ (x : V) (d : PyData), xs = [x] ∧ Dp K H x d ∧ d.showable = true ∧ d.hasDict = false ∧ d.depth ≤ 20 ∧ d.shown.length ≤ sizeLine ∧ Q (.str d.shown) H
theorem call_repr (gu : X.A.guards = some []) (un : X.A.units + 64 < cLine) : CallR X (.builtin "repr") (rRepr X.K) := by
  intro pins s σ H xs us Q I r h
  obtain ⟨x, d, rfl, dp, sh, nd, de, sz, q⟩ := h
  obtain ⟨u, rfl, r1⟩ := vals1 r
  obtain ⟨as, rd⟩ := Dp.reads I d x u dp r1
  have fin : ∀ (h' : Heap) (v : Tok) (tk : Nat), (∀ b o, s.heap.get? b = some o → h'.get? b = some o) → EP X pins σ Q (.str d.shown v) { s with heap := h', toks := tk } :=
    fun h' v tk k => ⟨.str d.shown, H, I.kept k, ⟨v, rfl⟩, q⟩
  cases dp with
  | non =>
    cases r1
    exact PySem.P.repr_of_none (fin s.heap _ _ fun _ _ e => e)
  | bl b =>
    cases r1
    exact PySem.P.repr_of_bool (fin s.heap _ _ fun _ _ e => e)
  | int i =>
    obtain ⟨t, rfl⟩ := r1
    refine PySem.P.repr_of_int (by simpa [PyData.showable] using sh) ?_
    have := fin s.heap s.toks (s.toks + 1) fun _ _ e => e
    simpa only [PyData.shown] using this
  | str y =>
    obtain ⟨t, rfl⟩ := r1
    have := fin s.heap s.toks (s.toks + 1) fun _ _ e => e
    simp only [PyData.shown] at this sz
    exact PySem.P.repr_of_str this sz
  | lst hs ha =>
    cases r1
    exact repr_of_reads' rd sh (fun z => by rw [nd] at z; cases z) gu (by omega) (fun _ _ e => e) fin sz
  | tup hs ha =>
    cases r1
    exact repr_of_reads' rd sh (fun z => by rw [nd] at z; cases z) gu (by omega) (fun _ _ e => e) fin sz
end
end Cal

/-! An own exception of any built-in base made by a call with positional values and keywords: __new__ lays it, its own __init__ runs. -/
namespace Exn
open PySem PySem.Calls PyProof.Rows PySem.Spec
/-- what the classes above an own exception class must be: the one that makes it, no AttributeError, no NameError -/
structure Tail (bm : List Value) (B : String) : Prop where
  has : bm.contains (.type B) = true
  noA : bm.contains (.type "AttributeError") = false
  noN : bm.contains (.type "NameError") = false
section
variable {M : Model} {A : Around} {E : Value → Shared → Prop} {h : Heap} {g : Array GenState} {d : Drawn} {t : Nat} {os : OsState}
variable {nm q : Str} {C N : Addr} {bs bm bmB : List Value} {hd : Bool} {sn : List Str} {sub : List Value} {ab : Bool} {col : Option Bool} {dd : Option Addr}
  {k0 k1 k2 k3 k5 : Option Value} {B newId initId : String} {prog : Program} {w : World} {R : Result → Shared → Prop}

theorem chk_new (F : ExcBaseFacts B newId initId bmB) (tail : Tail bm B) {us : List Value} {kw : List (Str × Value)} {Q : Unit → Shared → Prop}
    (at_C : h.get? C = some (excClassObj nm q C N bs bm hd sn sub ab col dd k0 k1 k2 k3 k5 newId)) (k : Q () ⟨h, g, d, t, os⟩) :
    wpAny M A (checkBuiltinCall newId ⟨.ref C :: us, kw⟩) Q E ⟨h, g, d, t, os⟩ := by
  have has : (Value.ref C :: bm).contains (.type B) = true := by
    rw [List.contains_cons, tail.has]
    exact Bool.or_true _
  have star := F.noStar
  simp only [F.newRow, F.newSplit, F.newKind, checkBuiltinCall]
  repeat (first
    | refine wpAny_loadPart_at at_C ?_
    | (refine wpAny_isSubtype_exc at_C ?_; rw [has])
    | refine wpAny_staticBase_exc at_C ?_
    | refine wpAny_madeBy_exc at_C ?_
    | simp only [Bool.false_eq_true, bne_self_eq_false, if_false]
    | wp_step)
  exact k

theorem new_kw (F : ExcBaseFacts B newId initId bmB) (tail : Tail bm B) {us : List Value} {kw : List (Str × Value)}
    (at_C : h.get? C = some (excClassObj nm q C N bs bm hd sn sub ab col dd k0 k1 k2 k3 k5 newId)) (few : us.length ≤ sizeLine)
    (k : R (.ok (.ret (.ref (h.objs.size + 1)))) ⟨(h.push (PySem.W.kdv_tup us)).push (PySem.HandSPX.excO C h.objs.size), g, d, t, os⟩) :
    codeAny (model prog w) A (.builtin newId ⟨.ref C :: us, kw⟩) R ⟨h, g, d, t, os⟩ := by
  have e0 := F.ends
  have inB : (Value.ref C :: bm).contains (.type B) = true := by
    rw [List.contains_cons, tail.has]
    exact Bool.or_true _
  have noA : (Value.ref C :: bm).contains (.type "AttributeError") = false := by
    rw [List.contains_cons, tail.noA]
    rfl
  have noN : (Value.ref C :: bm).contains (.type "NameError") = false := by
    rw [List.contains_cons, tail.noN]
    rfl
  refine codeAny_builtinAt F.entry ?_
  unfold Builtin.«BaseException.__new__»
  refine PySem.wpAt_bind ?_
  show PySem.wpAt _ _ _ (stack >>= _) _ _ _
  refine PySem.wpAt_bind (PySem.wpAt_stack fun p below => PySem.wpAt_of_wpAny ?_)
  wp_walk
  refine PySem.wpAt_of_wpAny ?_
  rw [F.owner]
  repeat (first
    | with_reducible refine wpAny_madeHere_exc F.canon at_C ?_
    | with_reducible refine wpAny_loadPart_at at_C ?_
    | (with_reducible refine wpAny_isSubtype_exc at_C ?_; first | rw [inB] | rw [noA] | rw [noN])
    | wp_step)
  show R _ _
  rw [Heap.size_push]
  exact k

/-- C(us, kw): the exception is laid, then its own __init__ runs -/
theorem type_call_kw (F : ExcBaseFacts B newId initId bmB) (tail : Tail bm B) {us : List Value} {kw : List (Str × Value)} {fI : Addr} {Q : Fin → Shared → Prop}
    (at_C : h.get? C = some (excClassObj nm q C N bs bm hd sn sub ab col dd k0 k1 k2 k3 k5 newId)) (few : us.length ≤ sizeLine)
    (init : W.Looks (model prog w) h (typeLookup (.ref C) "__init__") (some (.ref fI))) (bind : ∀ self, W.Looks (model prog w) h (bindSpecial (.ref fI) self) (.ref fI, [self]))
    (k : codeAny (model prog w) A (.call (.ref fI) ⟨.ref (h.objs.size + 1) :: us, kw⟩)
      (fun r s' => match r with | .ok (.ret v) => v = .none ∧ Q (.done (.ret (.ref (h.objs.size + 1)))) s' | .ok _ => False | .error e => E e s')
      ⟨(h.push (W.kdv_tup us)).push (HandSPX.excO C h.objs.size), g, d, t, os⟩) :
    wpAny (model prog w) A (Builtin.«type.__call__» ⟨.ref C :: us, kw⟩) Q E ⟨h, g, d, t, os⟩ := by
  have kept : ∀ b o, h.get? b = some o → ((h.push (W.kdv_tup us)).push (HandSPX.excO C h.objs.size)).get? b = some o :=
    fun b o e => Heap.get?_push_of_some _ (Heap.get?_push_of_some _ e)
  have made : ((h.push (W.kdv_tup us)).push (HandSPX.excO C h.objs.size)).get? (h.objs.size + 1) = some (HandSPX.excO C h.objs.size) := by
    heap_get
  have at_C2 := kept _ _ at_C
  have own : (Value.ref C :: bm).contains (.ref C) = true := by simp
  have init2 := init.keeps kept
  have bind2 := (bind (.ref (h.objs.size + 1))).keeps kept
  repeat (first
    | with_reducible refine wpAny_loadPart_at at_C ?_
    | with_reducible refine wpAny_madeBy_exc at_C ?_
    | wp_step)
  refine codeAny_call_builtin_code (Code.quiet_builtin _ F.quiet) (chk_new F tail at_C (new_kw F tail at_C few ?_))
  show wpAny _ _ _ _ _ _
  unfold isInstance
  repeat (first
    | with_reducible refine wpAny_loadPart_at made ?_
    | (with_reducible refine wpAny_isSubtype_exc at_C2 ?_; rw [own])
    | wp_step)
  show wpAny _ _ (typeLookup (.ref C) _) _ _ _
  refine init2.at (wpAny_holding (wpAny_bind (bind2.at ?_)))
  refine wpAny_bind (wpAny_call (codeAny_mono k fun r s' z => ?_))
  match r, z with
  | .error e, z => exact z
  | .ok .next, z => exact z.elim
  | .ok .brk, z => exact z.elim
  | .ok .cont, z => exact z.elim
  | .ok (.ret v), ⟨e, z⟩ =>
    subst e
    first
      | exact wpAny_pure (wpAny_pure z)
      | (wp_walk; exact z)

theorem call_kw (F : ExcBaseFacts B newId initId bmB) (tail : Tail bm B) {us : List Value} {kw : List (Str × Value)} {fI : Addr}
    (at_C : h.get? C = some (excClassObj nm q C N bs bm hd sn sub ab col dd k0 k1 k2 k3 k5 newId)) (few : us.length ≤ sizeLine)
    (init : W.Looks (model prog w) h (typeLookup (.ref C) "__init__") (some (.ref fI))) (bind : ∀ self, W.Looks (model prog w) h (bindSpecial (.ref fI) self) (.ref fI, [self]))
    (k : codeAny (model prog w) (A.under (.builtin "type.__call__" ⟨.ref C :: us, kw⟩)) (.call (.ref fI) ⟨.ref (h.objs.size + 1) :: us, kw⟩) (W.InitBack (h.objs.size + 1) R)
      ⟨(h.push (W.kdv_tup us)).push (HandSPX.excO C h.objs.size), g, d, t, os⟩) :
    codeAny (model prog w) A (.call (.ref C) ⟨us, kw⟩) R ⟨h, g, d, t, os⟩ := by
  have l1 := tc_lookup
  have l2 := tc_bind (.ref C)
  have ty : (⟨h, g, d, t, os⟩ : Shared).TypeIs (.ref C) "type" := ⟨_, at_C, rfl⟩
  refine codeAny_of_tree ?_
  show wpAny _ _ (callAny (.ref C) _) _ _ _
  repeat (any_goals (first | assumption | with_reducible refine wpAny_loadPart_at at_C ?_ | wp_step))
  refine ⟨rfl, codeAny_call_builtin_at (Code.quiet_builtin _ (by decide +kernel)) entry_typeCall ?_⟩
  have chk : ∀ {Q : Unit → Shared → Prop} {A' : Around} {E' : Value → Shared → Prop}, Q () ⟨h, g, d, t, os⟩ → wpAny (model prog w) A' (checkBuiltinCall "type.__call__" ⟨.ref C :: us, kw⟩) Q E' ⟨h, g, d, t, os⟩ := by
    intro Q A' E' hq
    have l3 := tc_sub
    simp only [tc_split, tc_kind, checkBuiltinCall]
    repeat (any_goals (first | assumption | with_reducible refine wpAny_loadPart_at at_C ?_ | with_reducible refine wpAny_onRaise ?_ | with_reducible refine wpAny_map ?_ | wp_step))
  refine chk (type_call_kw F tail at_C few init bind (codeAny_mono k fun r s' z => ?_))
  match r, z with
  | .error e, z => exact z
  | .ok .next, z => exact z.elim
  | .ok .brk, z => exact z.elim
  | .ok .cont, z => exact z.elim
  | .ok (.ret v), z => exact z
end
end Exn

namespace Exn
open PySem PySem.Spec PyProof.Rows L2

/-- what the written part says of an own exception class over a built-in one, whose mro is bmB; B: the built-in one whose __new__ makes it -/
structure Ecl (K : W.Frag) (C : Addr) (B newId initId : String) (bmB : List Value) : Prop where
  base : ∃ bm, ExcBaseFacts B newId initId bm
  tail : Tail bmB B
  store : ∃ B', StoreFacts B' bmB "object.__setattr__" "object"
  made : W.excInitIn K C bmB newId = true
  over : W.excOver K C bmB = true
  sa : W.findIn K (.ref C) "__setattr__" = some (some (.builtin "object.__setattr__"))
  ga : W.findIn K (.ref C) "__getattribute__" = some (some (.builtin "BaseException.__getattribute__"))
  gt : W.findIn K (.ref C) "__getattr__" = some none
  hd : W.hasDictIn K C = true
  sub : W.subIn K (.ref C) (.type "BaseException") = some true
  ca : W.findIn K (.ref C) "__class__" = some (some (.builtin "object.__class__"))
  mo : W.mroIn K C (.type "object") = some true
  kp : W.keepIn K (.ref C) = true

theorem Tail.of {bm bmB : List Value} {B : String} (t : Tail bmB B) (e : ∀ Y : String, bm.contains (.type Y) = bmB.contains (.type Y)) : Tail bm B := ⟨by rw [e]; exact t.has, by rw [e]; exact t.noA, by rw [e]; exact t.noN⟩
section
variable {prog : Program} {w : World} {A : Around} {E : Value → Shared → Prop} {R : Result → Shared → Prop} {hp : Heap} {g : Array GenState} {d : Drawn} {t : Nat} {os : OsState}
variable {K : W.Frag} {C : Addr} {B newId initId : String} {bmB : List Value}
theorem store_first {x t0 : Addr} {f : Str} {tk : Tok} {v : Value} (T : Ecl K C B newId initId bmB) (X : K.In hp) (at_x : hp.get? x = some (W.excObj C t0 none .none)) (no : W.findIn K (.ref C) f = some none)
    (k : ∀ h' tk' dx, (∀ b o, b ≠ x → hp.get? b = some o → h'.get? b = some o) → hp.objs.size ≤ dx → dx ≠ x → h'.get? x = some (W.excObj C t0 (some dx) .none) → h'.Ns1 dx (fun y => if y = f then some v else none) →
      R (.ok (.ret .none)) ⟨h', g, d, tk', os⟩) :
    codeAny (model prog w) A (.call (.builtin "object.__setattr__") ⟨[.ref x, .str f tk, v], []⟩) R ⟨hp, g, d, t, os⟩ := by
  obtain ⟨cd, hc, hdict⟩ := W.any_some T.hd
  obtain ⟨B', SF⟩ := T.store
  have ne : x ≠ hp.objs.size := Nat.ne_of_lt (Heap.lt_size at_x)
  have I : W.InstAt hp x (W.excObj C t0 none .none) C none := ⟨at_x, rfl, rfl, trivial⟩
  refine W.osa_openX (s := ⟨hp, g, d, t, os⟩) SF X I T.over (NoAttr.taker no) fun b => ?_
  refine wpAny_bind (wpAny_pure (wpAny_bind (W.instanceDict_exc at_x (W.looks_clsIn X hc) hdict ?_)))
  show wpAny _ _ (Builtin.ObjectAttr.storeInDict hp.objs.size (.str f tk) f v) _ _ _
  refine HandSPX.store_in_new ?_ fun h' tk' ns same => ?_
  · refine ⟨_, #[], 0, (Heap.get?_update_ne _ _ _ _ (Ne.symm ne)).trans (Heap.get?_push_at rfl rfl), rfl, fun e he => ?_, fun _ => rfl⟩
    simp at he
  · have px : (hp.push (W.dictOf [] 0)).get? x = some (W.excObj C t0 none .none) := Heap.get?_push_of_some _ at_x
    refine k h' tk' hp.objs.size (fun b o hb ho => ?_) (Nat.le_refl _) (Ne.symm ne) ?_ ns
    · have hb2 : b ≠ hp.objs.size := Nat.ne_of_lt (Heap.lt_size ho)
      rw [same.2 b hb2, Heap.get?_update_ne _ _ _ _ hb]
      exact Heap.get?_push_of_some _ ho
    · rw [same.2 x ne]
      exact Heap.get?_update_self _ px rfl
end

section
variable {X : Cx} {pins : List (Addr × Obj)} {σ : L2.St} {H : Hp} {s : Shared} {A : Around} {E : Value → Shared → Prop}
variable {C : Addr} {B newId initId : String} {bmB : List Value}
/-- self.f = y in an own __init__ -/
theorem keep_one {a : Addr} {f : Str} {y : V} {u : Value} {Q : Unit → Shared → Prop} (T : Ecl X.K C B newId initId bmB) (I : Inv X pins σ H s) (e : H a = some (exo a C none)) (no : W.findIn X.K (.ref C) f = some none) (ry : RelV y u)
    (k : ∀ dx s', H dx = none → dx ≠ a → Inv X pins σ (upd (upd H dx (exd dx [(f, y)])) a (exo a C (some dx))) s' → Q () s') :
    wpAny (model X.prog X.w) A (setAttr (.ref a) f u) Q E s := by
  obtain ⟨t0, at_a⟩ := exo_at I.hok e
  obtain ⟨hp, g, d, t, os⟩ := s
  refine W.set_plain I.kIn (ox := W.excObj C t0 none .none) (od := none) ⟨at_a, rfl, rfl, trivial⟩ T.sa ?_
  refine store_first T I.kIn at_a no fun h' tk' dx keep big ne at_x ns => ?_
  have free : H dx = none := I.hok.fresh big
  have old : ∀ {b : Addr} {o : Obj}, hp.get? b = some o → b ≠ dx := fun {b o} z =>
    Nat.ne_of_lt (Nat.lt_of_lt_of_le (Heap.lt_size z) big)
  have off : ∀ {b : Addr}, H b = none → b ≠ a := fun {b} z y => by
    subst y
    rw [e] at z
    cases z
  have at_d : ∀ {b : Addr} {o : HO}, H b = some o → b ≠ dx := fun {b o} z y => by
    subst y
    rw [free] at z
    cases z
  have un : Un X.fs [] H (upd (upd H dx (exd dx [(f, y)])) a (exo a C (some dx))) hp h' := by
    constructor
    · exact fun b o z n _ _ => keep b o (off n) z
    · exact fun b o z n _ _ => ⟨o.slots, keep b o (off n) z⟩
    · intro b o z n _
      rw [upd_ne (off n), upd_ne (old z)]
      exact n
    · intro b o z _
      by_cases q : b = a
      · exact ⟨_, q ▸ at_x⟩
      · exact ⟨o, keep b o q z⟩
    · intro b xs z
      rw [upd_ne (at_ne e z exo_tup), upd_ne (at_d z)]
      exact z
    · intro b o v z
      rw [upd_ne (at_ne e z exo_frz), upd_ne (at_d z)]
      exact z
    · intro b ps z
      refine ⟨#[], ?_⟩
      rw [upd_ne (at_ne e z exo_tbl), upd_ne (at_d z), z]
      simp
  refine k dx _ free ne (I.un (t' := tk') un fun b o z => ?_)
  by_cases q : b = a
  · subst q
    rw [upd_same] at z
    obtain rfl := Option.some.inj z
    exact exo_ok at_x
  · rw [upd_ne q] at z
    by_cases q2 : b = dx
    · subst q2
      rw [upd_same] at z
      obtain rfl := Option.some.inj z
      exact exd_ok ns (relO_put (fs := []) ry fun _ => True.intro)
    · rw [upd_ne q2] at z
      refine (I.hok b o z).stay (fun c v hc y => keep c v ?_ y) (fun c hc => ?_) (fun c xs hc => ?_)
      · rcases hc with hc | hc
        · exact hc ▸ q
        · exact at_ne e hc exo_own
      · rw [upd_ne (at_ne e hc exo_own), upd_ne (at_d hc)]
        exact hc
      · rw [upd_ne (at_ne e hc exo_tup), upd_ne (at_d hc)]
        exact hc

theorem ps_keep {o e : Expr} {to te : TE} {f : Str} {p' pos : Pos} (T : Ecl X.K C B newId initId bmB) (no : W.findIn X.K (.ref C) f = some none) (ho : PE X o to) (he : PE X e te)
    (hs : swapsWith e (some (.Attribute o f p')) pos.line X.env = pure false := by rfl) :
    PS X (.Assign [.Attribute o f p'] e pos) (fun D σ H => te σ H fun y H1 => to σ H1 fun x H2 => ∃ a, x = .ref a ∧ H2 a = some (exo a C none) ∧
      ∀ dx, H2 dx = none → dx ≠ a → D.nx σ (upd (upd H2 dx (exd dx [(f, y)])) a (exo a C (some dx)))) := by
  refine ⟨fun pins s σ H D I h => plainObj_wpAny_Assign_Attribute ?_ hs⟩
  refine thn (he.run pins s σ H _ I h) fun v s1 ⟨y, H1, I1, r1, q1⟩ => ?_
  refine thn (ho.run pins s1 σ H1 _ I1 q1) fun u s2 ⟨x, H2, I2, r2, a, ex, ea, q⟩ => ?_
  subst ex
  obtain rfl : u = Value.ref a := r2
  exact keep_one T I2 ea no r1 fun dx s' n ne J => ⟨σ, _, J, q dx n ne⟩

/-- such an object stands at a -/
theorem inst_at {a : Addr} {dx : Addr} {fs : List (Str × V)} (I : Inv X pins σ H s) (e : H a = some (exo a C (some dx))) (ed : H dx = some (exd dx fs)) :
    ∃ ox od mA, W.InstAt s.heap a ox C (some od) ∧ s.heap.Ns1 dx mA ∧ s.heap.get? dx = some od ∧ ∀ f, RelO (fs.lookup f) (mA f) := by
  obtain ⟨t0, at_a⟩ := exo_at I.hok e
  obtain ⟨mA, ns, rel⟩ := exd_at I.hok ed
  obtain ⟨o, es, ep, ho, r⟩ := ns
  exact ⟨_, o, mA, ⟨at_a, rfl, rfl, ho⟩, ⟨o, es, ep, ho, r⟩, ho, rel⟩

/-- what an instance of an own exception class is, with a dict of its own or without -/
def Bare (C : Addr) (H : Hp) (a : Addr) : Prop := H a = some (exo a C none) ∨ ∃ dx fs, H a = some (exo a C (some dx)) ∧ H dx = some (exd dx fs)

structure ClsGet (K : W.Frag) : Prop where
  get : W.specialIn K (.builtin "object.__class__") "__get__" = some (some (.builtin "getset_descriptor.__get__"))
  takes : W.takesIn K (.builtin "object.__class__") = some true

theorem cls_some {K : W.Frag} {C : Addr} (h : W.hasDictIn K C = true) : (W.clsIn K C).isSome = true := by
  obtain ⟨cd, hc, _⟩ := W.any_some h
  rw [hc]
  rfl

/-- isinstance(e, c) of such an instance -/
theorem call_isE (T : Ecl X.K C B newId initId bmB) (G : ClsGet X.K) :
    CallR X (.builtin "isinstance") (fun xs H Q => ∃ (a : Addr) (c : V) (u : Value) (b : Bool), xs = [.ref a, c] ∧ ClsV c u ∧ Bare C H a ∧ W.kitOne X.K (.ref C) u = some b ∧ Q (.bl b) H) := by
  intro pins s σ H xs us Q I r h
  obtain ⟨a, c, u, b, rfl, k, bare, e, q⟩ := h
  obtain ⟨u1, u2, rfl, r1, r2⟩ := vals2 r
  have e2 := k.eq r2
  subst e2
  obtain rfl : u1 = Value.ref a := r1
  have fin : ∀ tk, EP X pins σ Q (.bool b) { s with toks := tk } := fun tk => ⟨.bl b, H, I.tok tk, rfl, q⟩
  rcases bare with ea | ⟨dx, fs, ea, ed⟩
  · obtain ⟨t0, at_a⟩ := exo_at I.hok ea
    exact W.kia_one (W.kitx_exc (ox := W.excObj C t0 none .none) (od := none) (cls_some T.hd) T.ga T.gt T.sub T.ca G.get G.takes T.mo) I.kIn ⟨at_a, rfl, rfl, trivial⟩ e (fun z => nomatch z) fin
  · obtain ⟨ox, od, mA, J, _⟩ := inst_at I ea ed
    exact W.kia_one (W.kitx_exc (ox := ox) (od := some od) (cls_some T.hd) T.ga T.gt T.sub T.ca G.get G.takes T.mo) I.kIn J e (fun z => nomatch z) fin

/-- e.f of such an instance -/
theorem pe_at {o : Expr} {to : TE} {f : Str} {pos : Pos} (T : Ecl X.K C B newId initId bmB) (no : W.findIn X.K (.ref C) f = some none) (ho : PE X o to) (hb : attributeBase o f X.env (eval o X.env) = eval o X.env := by rfl) :
    PE X (.Attribute o f pos) (fun σ H Q => to σ H fun x H1 => ∃ a dx fs v, x = .ref a ∧ H1 a = some (exo a C (some dx)) ∧ H1 dx = some (exd dx fs) ∧ fs.lookup f = some v ∧ Q v H1) := by
  refine ⟨fun pins s σ H Q I h => attr_of hb ?_⟩
  refine thn (ho.run pins s σ H _ I h) fun u s1 ⟨x, H1, I1, rx, a, dx, fs, v, ex, ea, ed, l, q⟩ => ?_
  subst ex
  obtain rfl : u = Value.ref a := rx
  obtain ⟨ox, od, mA, J, ns, hod, rel⟩ := inst_at I1 ea ed
  obtain ⟨od', ho', hl⟩ := lookIn_ns ns
  rw [hod] at ho'
  obtain rfl := Option.some.inj ho'
  have r2 := rel f
  rw [l] at r2
  obtain ⟨u', hu, ru⟩ := RelO.some_of (v := v) (o := mA f) r2
  refine HandSPX.exc_get I1.kIn J T.ga T.gt T.sub (W.findObj_own T.hd no rfl ?_) (handed_of ru) ⟨v, H1, I1.tok _, ru, q⟩
  rw [hl, hu]
end
end Exn

namespace Exn
open PySem PySem.Spec PyProof.Rows L2

/-- def __init__(self, f): self.f = f -/
def spKeep (C : Addr) (f : Str) : Sp := fun vs H Q _ => ∃ (a : Addr) (v : V), vs = [.ref a, v] ∧ H a = some (exo a C none) ∧
  ∀ dx, H dx = none → dx ≠ a → Q .non (upd (upd H dx (exd dx [(f, v)])) a (exo a C (some dx)))
/-- def __init__(self): pass -/
def spBare (C : Addr) : Sp := fun vs H Q _ => ∃ a : Addr, vs = [.ref a] ∧ H a = some (exo a C none) ∧ Q .non H

section
variable {P : Program} {w : World} {K : W.Frag} {mg : Str → Option Value} {base : Heap} {C : Addr} {B newId initId : String} {bmB : List Value}
theorem ok_keep {f : Str} {p1 p2 p3 p4 : Pos} {qual : Str} {st : Stmt} {fI : Addr} {fd : FuncData} (F : Fun K "__init__" qual st fI fd) (T : Ecl K C B newId initId bmB) (no : W.findIn K (.ref C) f = some none)
    (hB : defBody st = [.Assign [.Attribute (.Name "self" p1) f p2] (.Name f p3) p4]) (S : FnScope ["self", f] ["self", f] (defScope st)) (v0 : Vis (defScope st) "self") (v1 : Vis (defScope st) f)
    (n1 : (f == ("__debug__" : Str)) = false) (n2 : (f == ("__classdict__" : Str)) = false) : FnOk P w K mg base CX0 1 fI fd ["self", f] (spKeep C f) := by
  refine F.ok S (fun vs H Q E h => ?_) (fun cdv A outer s H vs Q E hr h => ?_)
  · obtain ⟨a, v, rfl, _⟩ := h
    rfl
  · obtain ⟨a, v, rfl, ea, k⟩ := h
    rw [hB]
    refine ⟨_, pss_one (ps_keep T no (pv 0 rfl v0) (pv 1 rfl v1 n1 n2)), ?_⟩
    exact ⟨v, rfl, .ref a, rfl, a, rfl, ea, fun dx n ne => k dx n ne⟩
theorem ok_bare {p4 : Pos} {qual : Str} {st : Stmt} {fI : Addr} {fd : FuncData} (F : Fun K "__init__" qual st fI fd)
    (hB : defBody st = [.Pass p4]) (S : FnScope ["self"] ["self"] (defScope st)) : FnOk P w K mg base CX0 1 fI fd ["self"] (spBare C) := by
  refine F.ok S (fun vs H Q E h => ?_) (fun cdv A outer s H vs Q E hr h => ?_)
  · obtain ⟨a, rfl, _⟩ := h
    rfl
  · obtain ⟨a, rfl, ea, k⟩ := h
    rw [hB]
    exact ⟨_, pss_one ps_pass, k⟩
end

section
variable {X : Cx} {pins : List (Addr × Obj)} {σ : L2.St} {H : Hp} {s : Shared}
variable {C fI : Addr} {B newId initId : String} {bmB : List Value} {k : Nat} {fd : FuncData} {ps : List Str} {sp : Sp}
/-- C(..) of an own exception class: the new exception is handed back -/
theorem run_exn {us ws : List Value} {vs : List V} {kw : List (Str × Value)} {Q : VK} (T : Ecl X.K C B newId initId bmB) (iC : W.findIn X.K (.ref C) "__init__" = some (some (.ref fI))) (tI : W.typeIn X.K (.ref fI) = some (.type "function"))
    (G : FnOk X.prog X.w X.K X.mg X.base CX0 k fI fd ps sp) (hr : Room (k + 1) X.A) (bd : ∀ (s : Shared) (a : Addr), BindsTo s fd ⟨.ref a :: us, kw⟩ (ps.zip (.ref a :: ws))) (r : Vals vs ws) (few : us.length ≤ sizeLine) (I : Inv X pins σ H s)
    (h : ∀ a, H a = none → sp (.ref a :: vs) (upd H a (exo a C none)) (fun v H2 => v = .non ∧ Q (.ref a) H2) E0) :
    wpAny (model X.prog X.w) X.A (call (.ref C) us kw) (EP X pins σ Q) X.xe s := by
  obtain ⟨nm, N, qn, bs, bm, hd, sn, sub, ab, col, dd, k0, k1, k2, k3, k5, at_C, tail⟩ := W.excInit_of I.kIn T.made
  obtain ⟨bm0, base⟩ := T.base
  obtain ⟨hp, g, dr, tk, os⟩ := s
  have big : hp.objs.size ≤ hp.objs.size + 1 := Nat.le_succ _
  have new := h (hp.objs.size + 1) (I.hok.fresh big)
  have kept : ∀ b o, hp.get? b = some o → ((hp.push (W.kdv_tup us)).push (HandSPX.excO C hp.objs.size)).get? b = some o :=
    fun b o e => Heap.get?_push_of_some _ (Heap.get?_push_of_some _ e)
  have made : ((hp.push (W.kdv_tup us)).push (HandSPX.excO C hp.objs.size)).get? (hp.objs.size + 1) = some (HandSPX.excO C hp.objs.size) := by
    heap_get
  have J : Inv X pins σ (upd H (hp.objs.size + 1) (exo (hp.objs.size + 1) C none)) ⟨(hp.push (W.kdv_tup us)).push (HandSPX.excO C hp.objs.size), g, dr, tk, os⟩ :=
    I.laid (t' := tk) kept big (exo_ok made)
  have r2 : Vals (V.ref (hp.objs.size + 1) :: vs) (Value.ref (hp.objs.size + 1) :: ws) := .cons rfl r
  refine wpAny_call (call_kw base (T.tail.of tail) at_C few (W.looks_findIn I.kIn iC) (fun self => W.bind_fn I.kIn self tI) ?_)
  refine codeAny_mono (G.run _ X.stack _ _ ⟨Value.ref (hp.objs.size + 1) :: us, kw⟩ _ _ _ E0 (hr.make C us kw) (J.env0.make C us kw) (bd _ _) r2 new) fun r s' z => ?_
  match r, z with
  | .error e, z => exact z.elim
  | .ok .next, z => exact z.elim
  | .ok .brk, z => exact z.elim
  | .ok .cont, z => exact z.elim
  | .ok (.ret u), z =>
    obtain ⟨v, H', J2, rv, ev, q⟩ := J.after z
    subst ev
    refine ⟨rv, ⟨V.ref (hp.objs.size + 1), H', ?_, rfl, q⟩⟩
    refine ⟨J2.ok, J2.os, J2.bare, J2.base, J2.loc, J2.cell, J2.free, J2.freeC, J2.pin, J2.hok, J2.len⟩
end
end Exn

namespace Exn
open PySem PySem.Spec PyProof.Rows L2

/-- an own exception class whose __init__ keeps one thing, by the name x of the module -/
structure Cl1 (P : Program) (w : World) (K : W.Frag) (mg : Str → Option Value) (base : Heap) (x : Str) (C : Addr) (f : Str) (B newId initId : String) (bmB : List Value) : Prop where
  T : Ecl K C B newId initId bmB
  no : W.findIn K (.ref C) f = some none
  m : mg x = some (.ref C)
  ty : W.typeIn K (.ref C) = some (.type "type")
  run : ∃ fI fd, W.findIn K (.ref C) "__init__" = some (some (.ref fI)) ∧ W.typeIn K (.ref fI) = some (.type "function") ∧ FnOk P w K mg base CX0 1 fI fd ["self", f] (spKeep C f) ∧
    (∀ (s : Shared) (a u : Value), BindsTo s fd ⟨[a, u], []⟩ [("self", a), (f, u)]) ∧ ∀ (s : Shared) (a u : Value), BindsTo s fd ⟨[a], [(f, u)]⟩ [("self", a), (f, u)]

/-- where a made exception stands -/
def made (H : Hp) (C : Addr) (f : Str) (v : V) (a dx : Addr) : Hp := upd (upd H dx (exd dx [(f, v)])) a (exo a C (some dx))
theorem made_eq {H : Hp} {C : Addr} {f : Str} {v : V} {a dx : Addr} (ne : dx ≠ a) : upd (upd (upd H a (exo a C none)) dx (exd dx [(f, v)])) a (exo a C (some dx)) = made H C f v a dx := by
  funext b
  unfold made
  by_cases h1 : b = a
  · rw [h1, upd_same, upd_same]
  · rw [upd_ne h1, upd_ne h1]
    by_cases h2 : b = dx
    · rw [h2, upd_same, upd_same]
    · rw [upd_ne h2, upd_ne h2, upd_ne h1]
/-- C(v): what is asked -/
def tExn (C : Addr) (f : Str) (te : TE) : TE := fun σ H Q => te σ H fun u H1 => ∃ v, [u] = [v] ∧ ∀ a dx, H1 a = none → H1 dx = none → dx ≠ a → Q (.ref a) (made H1 C f v a dx)

section
variable {X : Cx} {C : Addr} {x f : Str} {B newId initId : String} {bmB : List Value} {e : Expr} {te : TE} {p kp pos : Pos}
theorem sp_made {H : Hp} {v : V} {Q : VK} (q : ∀ a dx, H a = none → H dx = none → dx ≠ a → Q (.ref a) (made H C f v a dx)) (a : Addr) (na : H a = none) :
    spKeep C f [.ref a, v] (upd H a (exo a C none)) (fun u H2 => u = .non ∧ Q (.ref a) H2) E0 := by
  refine ⟨a, v, rfl, upd_same, fun dx nd ne => ⟨rfl, ?_⟩⟩
  rw [made_eq ne]
  rw [upd_ne ne] at nd
  exact q a dx na nd ne
theorem pe_exn (c : Cl1 X.prog X.w X.K X.mg X.base x C f B newId initId bmB) (hr : Room 2 X.A) (hg : Gl X x) (he : PE X e te)
    (hdb : (x == ("__debug__" : Str)) = false := by decide) (hs : starEach [e] X.env = (false, eval e X.env) :: starEach [] X.env := by rfl) :
    PE X (.Call (.Name x p) [e] [] pos) (tExn C f te) := by
  obtain ⟨fI, fd, iC, tI, G, b1, b2⟩ := c.run
  refine ⟨fun pins s σ H Q I h => ?_⟩
  refine wpAny_Call_Name_kw (ld_glob I hg c.m ?_ hdb)
  refine W.callWith_K (h₀ := X.base) I.ok.mod.kin c.T.kp (thn ((pa_cons he pa_nil hs).run pos pins s σ H (fun vs H1 => ∃ v, vs = [v] ∧ ∀ a dx, H1 a = none → H1 dx = none → dx ≠ a → Q (.ref a) (made H1 C f v a dx)) I h) fun us s1 ⟨vs, H1, I1, r, v, ev, q⟩ => ⟨I1.kIn, ?_⟩) hs (by rfl)
  subst ev
  obtain ⟨u, rfl, r1⟩ := vals1 r
  exact run_exn c.T iC tI G hr (fun s a => b1 s _ _) (.cons r1 .nil) (by show 1 ≤ sizeLine; decide) I1 fun a na => sp_made q a na
/-- C(f=e) -/
theorem pe_exnK (c : Cl1 X.prog X.w X.K X.mg X.base x C f B newId initId bmB) (hr : Room 2 X.A) (hg : Gl X x) (he : PE X e te)
    (hdb : (x == ("__debug__" : Str)) = false := by decide) (hall : (backToKw pos (keywordEach [⟨some f, e, kp⟩] X.env)).all (·.1.isSome) = true := by rfl)
    (hks : (backToKw pos (keywordEach [⟨some f, e, kp⟩] X.env)).filterMap (·.1) = [f] := by rfl)
    (hpl : ((backTo pos (starEach [] X.env)).any (·.1) || (backToKw pos (keywordEach [⟨some f, e, kp⟩] X.env)).any (·.1.isNone)) = false := by rfl) :
    PE X (.Call (.Name x p) [] [⟨some f, e, kp⟩] pos) (tExn C f te) := by
  obtain ⟨fI, fd, iC, tI, G, b1, b2⟩ := c.run
  refine ⟨fun pins s σ H Q I h => ?_⟩
  refine wpAny_Call_Name_kw (ld_glob I hg c.m ?_ hdb)
  refine W.callWith_KW0 (h₀ := X.base) I.ok.mod.kin c.T.kp hall ?_ hpl
  refine thn ((pk_cons he pk_nil).run pos pins s σ H (fun vs H1 => ∃ v, vs = [v] ∧ ∀ a dx, H1 a = none → H1 dx = none → dx ≠ a → Q (.ref a) (made H1 C f v a dx)) I h) fun us s1 ⟨vs, H1, I1, r, v, ev, q⟩ => ⟨I1.kIn, ?_⟩
  rw [hks]
  subst ev
  obtain ⟨u, rfl, r1⟩ := vals1 r
  exact run_exn (us := []) c.T iC tI G hr (fun s a => b2 s _ _) (.cons r1 .nil) (Nat.zero_le _) I1 fun a na => sp_made q a na
/-- raise C(f=e): what makes it -/
theorem pmk_exnK (c : Cl1 X.prog X.w X.K X.mg X.base x C f B newId initId bmB) (hr : Room 2 X.A) (hg : Gl X x) (he : PE X e te)
    (hdb : (x == ("__debug__" : Str)) = false := by decide) (hall : (backToKw pos (keywordEach [⟨some f, e, kp⟩] X.env)).all (·.1.isSome) = true := by rfl)
    (hks : (backToKw pos (keywordEach [⟨some f, e, kp⟩] X.env)).filterMap (·.1) = [f] := by rfl)
    (hpl : ((backTo pos (starEach [] X.env)).any (·.1) || (backToKw pos (keywordEach [⟨some f, e, kp⟩] X.env)).any (·.1.isNone)) = false := by rfl) :
    PMk X (.Call (.Name x p) [] [⟨some f, e, kp⟩] pos) (fun σ H Q => te σ H fun u H1 => ∃ v, [u] = [v] ∧ ∀ d, H1 d = none → Q (.ref C) (some d) (upd H1 d (.xd [(f, v)]))) := by
  obtain ⟨fI, fd, iC, tI, G, b1, b2⟩ := c.run
  intro pins s σ H Q I h
  refine wpAny_Call_Name_kw (ld_glob I hg c.m ?_ hdb)
  refine W.callWith_KW0 (h₀ := X.base) I.ok.mod.kin c.T.kp hall ?_ hpl
  refine thn ((pk_cons he pk_nil).run pos pins s σ H (fun vs H1 => ∃ v, vs = [v] ∧ ∀ d, H1 d = none → Q (.ref C) (some d) (upd H1 d (.xd [(f, v)]))) I h) fun us s1 ⟨vs, H1, I1, r, v, ev, q⟩ => ⟨I1.kIn, ?_⟩
  rw [hks]
  subst ev
  obtain ⟨u, rfl, r1⟩ := vals1 r
  obtain ⟨nm, N, qn, bs, bm, hd, sn, sub, ab, col, dd, k0, k1, k2, k3, k5, at_C, tail⟩ := W.excInit_of I1.kIn c.T.made
  obtain ⟨bm0, base⟩ := c.T.base
  obtain ⟨hp, g, dr, tk, os⟩ := s1
  have big : hp.objs.size ≤ hp.objs.size + 1 := Nat.le_succ _
  have na : H1 (hp.objs.size + 1) = none := I1.hok.fresh big
  have kept : ∀ b o, hp.get? b = some o → ((hp.push (W.kdv_tup [])).push (HandSPX.excO C hp.objs.size)).get? b = some o :=
    fun b o e => Heap.get?_push_of_some _ (Heap.get?_push_of_some _ e)
  have here : ((hp.push (W.kdv_tup [])).push (HandSPX.excO C hp.objs.size)).get? (hp.objs.size + 1) = some (HandSPX.excO C hp.objs.size) := by
    heap_get
  have J : Inv X pins σ (upd H1 (hp.objs.size + 1) (exo (hp.objs.size + 1) C none)) ⟨(hp.push (W.kdv_tup [])).push (HandSPX.excO C hp.objs.size), g, dr, tk, os⟩ :=
    I1.laid (t' := tk) kept big (exo_ok here)
  have new : spKeep C f [.ref (hp.objs.size + 1), v] (upd H1 (hp.objs.size + 1) (exo (hp.objs.size + 1) C none))
      (fun y H2 => y = .non ∧ ∃ d, H2 = made H1 C f v (hp.objs.size + 1) d ∧ H1 d = none ∧ d ≠ hp.objs.size + 1) E0 := by
    refine ⟨_, v, rfl, upd_same, fun dx nd ne => ⟨rfl, dx, made_eq ne, ?_, ne⟩⟩
    rw [upd_ne ne] at nd
    exact nd
  have r2 : Vals [V.ref (hp.objs.size + 1), v] [Value.ref (hp.objs.size + 1), u] := .cons rfl (.cons r1 .nil)
  refine wpAny_call (call_kw (us := []) base (c.T.tail.of tail) at_C (Nat.zero_le _) (W.looks_findIn I1.kIn iC) (fun self => W.bind_fn I1.kIn self tI) ?_)
  refine codeAny_mono (G.run _ X.stack _ _ ⟨[Value.ref (hp.objs.size + 1)], [(f, u)]⟩ _ _ _ E0 (hr.make C [] [(f, u)]) (J.env0.make C [] [(f, u)]) (b2 _ _ _) r2 new) fun r s' z => ?_
  match r, z with
  | .error e, z => exact z.elim
  | .ok .next, z => exact z.elim
  | .ok .brk, z => exact z.elim
  | .ok .cont, z => exact z.elim
  | .ok (.ret y), z =>
    obtain ⟨v2, H2, os2, bare2, un2, hok2, rv, ev, d, rfl, nd, ne⟩ := z
    subst ev
    obtain ⟨h2, g2, d2, t2, os'⟩ := s'
    have fin := mk_end (X := X) (Q := Q) (d2 := d2) (t2 := t2) (fs := [(f, v)]) (raises_own c.T.sub c.ty) I1 big kept un2 hok2 os2 bare2 upd_same (by unfold made; rw [upd_ne ne, upd_same]) nd (by
      have eq : upd (del (made H1 C f v (hp.objs.size + 1) d) (hp.objs.size + 1)) d (.xd [(f, v)]) = upd H1 d (.xd [(f, v)]) := by
        funext b
        by_cases hb : b = d
        · rw [hb, upd_same, upd_same]
        · rw [upd_ne hb, upd_ne hb]
          by_cases ha : b = hp.objs.size + 1
          · rw [ha, del_same, na]
          · rw [del_ne ha]
            unfold made
            rw [upd_ne ha, upd_ne hb]
      rw [eq]
      exact q d nd)
    exact ⟨rv, fin⟩
end
end Exn

namespace Exn
open PySem PySem.Spec PyProof.Rows L2

/-- an own exception class whose __init__ takes nothing and does nothing -/
structure Cl0 (P : Program) (w : World) (K : W.Frag) (mg : Str → Option Value) (base : Heap) (x : Str) (C : Addr) (B newId initId : String) (bmB : List Value) : Prop where
  T : Ecl K C B newId initId bmB
  m : mg x = some (.ref C)
  run : ∃ fI fd, W.findIn K (.ref C) "__init__" = some (some (.ref fI)) ∧ W.typeIn K (.ref fI) = some (.type "function") ∧ FnOk P w K mg base CX0 1 fI fd ["self"] (spBare C) ∧
    ∀ (s : Shared) (a : Value), BindsTo s fd ⟨[a], []⟩ [("self", a)]
section
variable {X : Cx} {C : Addr} {x f : Str} {B newId initId : String} {bmB : List Value} {p pos : Pos}
theorem pe_exn0 (c : Cl0 X.prog X.w X.K X.mg X.base x C B newId initId bmB) (hr : Room 2 X.A) (hg : Gl X x) (hdb : (x == ("__debug__" : Str)) = false := by decide) :
    PE X (.Call (.Name x p) [] [] pos) (fun σ H Q => ∀ a, H a = none → Q (.ref a) (upd H a (exo a C none))) := by
  obtain ⟨fI, fd, iC, tI, G, b1⟩ := c.run
  refine ⟨fun pins s σ H Q I h => ?_⟩
  refine wpAny_Call_Name_kw (ld_glob I hg c.m ?_ hdb)
  refine W.callWith_K0 I.kIn c.T.kp (run_exn (us := []) (vs := []) (ws := []) c.T iC tI G hr (fun s a => b1 s _) .nil (Nat.zero_le _) I fun a na => ?_)
  exact ⟨a, rfl, upd_same, rfl, h a na⟩

/-- isinstance(e, c), e the caught exception that a suite holds, with a dict of its own -/
theorem call_isS {a : Addr} {oe : Obj} {cls : Value} {d : Option Addr} {pn : List (Addr × Obj)} {D : Addr} (T : Ecl X.K D B newId initId bmB) (G : ClsGet X.K) (hz : Zc cls d oe) (hf : ∃ vs, oe.data = .fields vs) :
    CallR (X.suite a ((a, oe) :: pn)) (.builtin "isinstance") (fun xs H Q => ∃ (c : V) (u : Value) (b : Bool) (dd : Addr) (fs : List (Str × V)), xs = [.ref a, c] ∧ ClsV c u ∧ cls = .ref D ∧ d = some dd ∧ H dd = some (.xd fs) ∧
      W.kitOne X.K (.ref D) u = some b ∧ Q (.bl b) H) := by
  intro pins s σ H xs us Q I r h
  obtain ⟨c, u, b, dd, fs, rfl, k, rfl, rfl, ed, e, q⟩ := h
  obtain ⟨u1, u2, rfl, r1, r2⟩ := vals2 r
  obtain rfl := k.eq r2
  obtain rfl : u1 = Value.ref a := r1
  obtain ⟨at_a, _⟩ := I.pin (a, oe) (List.mem_append_left _ List.mem_cons_self)
  obtain ⟨vs, hd⟩ := hf
  have ox : ObjOk X.prog X.w H s.heap dd (.xd fs) := I.hok dd _ ed
  obtain ⟨mA, ⟨od, es, ep, ho, _⟩, _⟩ := ox
  have J : W.InstAt s.heap a oe D (some od) := ⟨at_a, hz.1, by unfold W.notCls; rw [hd], by rw [hz.2]; exact ho⟩
  exact W.kia_one (W.kitx_exc (ox := oe) (od := some od) (cls_some T.hd) T.ga T.gt T.sub T.ca G.get G.takes T.mo) I.kIn J e (fun z => nomatch z) fun tk => ⟨.bl b, H, I.kept (t' := tk) fun _ _ z => z, rfl, q⟩
end
end Exn
namespace Keys
open PySem PySem.Spec PyProof.Rows
/-! KeyError, as a base of own classes -/
abbrev keyTail : List Value := [.type "KeyError", .type "LookupError", .type "Exception", .type "BaseException", .type "object"]
theorem store_KeyError : StoreFacts "KeyError" keyTail "object.__setattr__" "object" where
  mro := by kernel_rfl
  slot := by
    refine .of (owner := "object") (n := "__setattr__") ?_ (by decide +kernel) (by decide +kernel) (by decide +kernel) ?_ ?_
    · rw [typeLookup_type, builtinLookup_eq_fast]; kernel_rfl
    · first
        | exact .inl (by decide +kernel)
        | exact .inr (by decide +kernel)
    · rw [isSubtype_type]; kernel_rfl
  entry := F.entry_object_sa
  kind := by decide +kernel
  split := by decide +kernel
  hasOwner := by decide +kernel
  args := fun a b c => by unfold argsOk; kernel_rfl
  passes := fun self => by kernel_rfl
theorem tail_KeyError : Exn.Tail keyTail "LookupError" := ⟨by decide +kernel, by decide +kernel, by decide +kernel⟩
abbrev exTail : List Value := [.type "Exception", .type "BaseException", .type "object"]
theorem tail_Exception : Exn.Tail exTail "Exception" := ⟨by decide +kernel, by decide +kernel, by decide +kernel⟩
end Keys

/-! raise C(v) for an own class whose __init__ keeps one thing, by position -/
namespace Exn
open PySem PySem.Spec PyProof.Rows L2
section
variable {X : Cx} {C : Addr} {x f : Str} {B newId initId : String} {bmB : List Value} {e : Expr} {te : TE} {p kp pos : Pos}
/-- raise C(e): what makes it -/
theorem pmk_exn (c : Cl1 X.prog X.w X.K X.mg X.base x C f B newId initId bmB) (hr : Room 2 X.A) (hg : Gl X x) (he : PE X e te)
    (hdb : (x == ("__debug__" : Str)) = false := by decide) (hs : starEach [e] X.env = (false, eval e X.env) :: starEach [] X.env := by rfl) :
    PMk X (.Call (.Name x p) [e] [] pos) (fun σ H Q => te σ H fun u H1 => ∃ v, [u] = [v] ∧ ∀ d, H1 d = none → Q (.ref C) (some d) (upd H1 d (.xd [(f, v)]))) := by
  obtain ⟨fI, fd, iC, tI, G, b1, b2⟩ := c.run
  intro pins s σ H Q I h
  refine wpAny_Call_Name_kw (ld_glob I hg c.m ?_ hdb)
  refine W.callWith_K (h₀ := X.base) I.ok.mod.kin c.T.kp (thn ((pa_cons he pa_nil hs).run pos pins s σ H (fun vs H1 => ∃ v, vs = [v] ∧ ∀ d, H1 d = none → Q (.ref C) (some d) (upd H1 d (.xd [(f, v)]))) I h) fun us s1 ⟨vs, H1, I1, r, v, ev, q⟩ => ⟨I1.kIn, ?_⟩) hs (by rfl)
  subst ev
  obtain ⟨u, rfl, r1⟩ := vals1 r
  obtain ⟨nm, N, qn, bs, bm, hd, sn, sub, ab, col, dd, k0, k1, k2, k3, k5, at_C, tail⟩ := W.excInit_of I1.kIn c.T.made
  obtain ⟨bm0, base⟩ := c.T.base
  obtain ⟨hp, g, dr, tk, os⟩ := s1
  have big : hp.objs.size ≤ hp.objs.size + 1 := Nat.le_succ _
  have na : H1 (hp.objs.size + 1) = none := I1.hok.fresh big
  have kept : ∀ b o, hp.get? b = some o → ((hp.push (W.kdv_tup [u])).push (HandSPX.excO C hp.objs.size)).get? b = some o :=
    fun b o e => Heap.get?_push_of_some _ (Heap.get?_push_of_some _ e)
  have here : ((hp.push (W.kdv_tup [u])).push (HandSPX.excO C hp.objs.size)).get? (hp.objs.size + 1) = some (HandSPX.excO C hp.objs.size) := by
    heap_get
  have J : Inv X pins σ (upd H1 (hp.objs.size + 1) (exo (hp.objs.size + 1) C none)) ⟨(hp.push (W.kdv_tup [u])).push (HandSPX.excO C hp.objs.size), g, dr, tk, os⟩ :=
    I1.laid (t' := tk) kept big (exo_ok here)
  have new : spKeep C f [.ref (hp.objs.size + 1), v] (upd H1 (hp.objs.size + 1) (exo (hp.objs.size + 1) C none))
      (fun y H2 => y = .non ∧ ∃ d, H2 = made H1 C f v (hp.objs.size + 1) d ∧ H1 d = none ∧ d ≠ hp.objs.size + 1) E0 := by
    refine ⟨_, v, rfl, upd_same, fun dx nd ne => ⟨rfl, dx, made_eq ne, ?_, ne⟩⟩
    rw [upd_ne ne] at nd
    exact nd
  have r2 : Vals [V.ref (hp.objs.size + 1), v] [Value.ref (hp.objs.size + 1), u] := .cons rfl (.cons r1 .nil)
  refine wpAny_call (call_kw (us := [u]) base (c.T.tail.of tail) at_C (by show 1 ≤ sizeLine; decide) (W.looks_findIn I1.kIn iC) (fun self => W.bind_fn I1.kIn self tI) ?_)
  refine codeAny_mono (G.run _ X.stack _ _ ⟨[Value.ref (hp.objs.size + 1), u], []⟩ _ _ _ E0 (hr.make C [u] []) (J.env0.make C [u] []) (b1 _ _ _) r2 new) fun r s' z => ?_
  match r, z with
  | .error e, z => exact z.elim
  | .ok .next, z => exact z.elim
  | .ok .brk, z => exact z.elim
  | .ok .cont, z => exact z.elim
  | .ok (.ret y), z =>
    obtain ⟨v2, H2, os2, bare2, un2, hok2, rv, ev, d, rfl, nd, ne⟩ := z
    subst ev
    obtain ⟨h2, g2, d2, t2, os'⟩ := s'
    have fin := mk_end (X := X) (Q := Q) (d2 := d2) (t2 := t2) (fs := [(f, v)]) (raises_own c.T.sub c.ty) I1 big kept un2 hok2 os2 bare2 upd_same (by unfold made; rw [upd_ne ne, upd_same]) nd (by
      have eq : upd (del (made H1 C f v (hp.objs.size + 1) d) (hp.objs.size + 1)) d (.xd [(f, v)]) = upd H1 d (.xd [(f, v)]) := by
        funext b
        by_cases hb : b = d
        · rw [hb, upd_same, upd_same]
        · rw [upd_ne hb, upd_ne hb]
          by_cases ha : b = hp.objs.size + 1
          · rw [ha, del_same, na]
          · rw [del_ne ha]
            unfold made
            rw [upd_ne ha, upd_ne hb]
      rw [eq]
      exact q d nd)
    exact ⟨rv, fin⟩
end
end Exn

/-! enumerate over a tuple -/
namespace EnuT
open PySem PySem.Spec PyProof.Rows L2

set_option maxHeartbeats 4000000 in
theorem meets_one {v : Value} {o : Obj} {G : Heap → Prop} (B : Begins v o G) :
    Meets (Builtin.«enumerate.__new__» ⟨[.type "enumerate", v], []⟩) (fun _ R s => G s.heap ∧
      R (.ok (.ret (.ref (s.heap.push o).objs.size)))
        { s with heap := (s.heap.push o).push { cls := .type "enumerate", data := .fields #[.none, .bool false, .ref s.heap.objs.size, rawInt 0, .none, .none] } }) :=
  .of_wp fun prog w A R s h => by
    obtain ⟨hp, g, d, tk, os⟩ := s
    obtain ⟨h1, h⟩ := h
    have sub := sub_enumerate
    have iter : ∀ {A' : Around} {E : Value → Shared → Prop} {Q : Value → Shared → Prop}, Q (.ref hp.objs.size) ⟨hp.push o, g, d, tk, os⟩ →
        wpAny (model prog w) A' (pyIter v) Q E ⟨hp, g, d, tk, os⟩ := fun q => B.iter prog w _ _ ⟨hp, g, d, tk, os⟩ _ h1 q
    wp_walk using iter
    refine wpAny_stack_any fun st => wpAny_pure ?_
    split
    · rename_i c _ _ _ _ _
      cases (c == Value.type "enumerate") <;> (wp_walk using iter; exact ⟨_, rfl, h⟩)
    · wp_walk using iter
      exact ⟨_, rfl, h⟩

theorem call_one {prog : Program} {w : World} {A : Around} {E : Value → Shared → Prop} {s : Shared} {v : Value} {o : Obj} {G : Heap → Prop} {Q : Value → Shared → Prop} (B : Begins v o G) (h1 : G s.heap)
    (k : ∀ h', IsEnum h' (s.heap.objs.size + 1) s.heap.objs.size 0 .none → h'.get? s.heap.objs.size = some o →
      (∀ b u, s.heap.get? b = some u → h'.get? b = some u) → Q (.ref (s.heap.objs.size + 1)) { s with heap := h' }) :
    wpAny (model prog w) A (call (.type "enumerate") [v]) Q E s := by
  refine callType_new F.called_enumerate (by decide) (F.typeCall_enumerate_1 _) (F.newCall_enumerate_1 _) (fun obj => F.args_object_init_2 obj _) F.entry_enumerate_new (meets_one B) ⟨h1, ?_⟩
  have sz : (s.heap.push o).objs.size = s.heap.objs.size + 1 := Heap.size_push ..
  show _ ∧ _
  rw [sz]
  have at_e : IsEnum ((s.heap.push o).push { cls := .type "enumerate", data := .fields #[.none, .bool false, .ref s.heap.objs.size, rawInt 0, .none, .none] }) (s.heap.objs.size + 1) s.heap.objs.size 0 .none := by
    have z := Heap.get?_push_size (s.heap.push o) (o := { cls := .type "enumerate", data := .fields #[.none, .bool false, .ref s.heap.objs.size, rawInt 0, .none, .none] }) rfl
    rw [sz] at z
    exact z
  refine ⟨⟨_, at_e, rfl⟩, k _ at_e (Heap.get?_push_of_some _ (Heap.get?_push_size _ B.free)) fun b u e => Heap.get?_push_of_some _ (Heap.get?_push_of_some _ e)⟩

/-- the tuple at a, each item in a new pair -/
def Iet (K : W.Frag) (a : Addr) : It :=
  ⟨fun i H => ∃ (xs : List V) (x : V), SqT K H a xs ∧ xs[i]? = some x,
    fun i H v H' => ∃ T x, v = .ref T ∧ H T = none ∧ H' = upd H T (.tup [.int (i : Nat), x]) ∧ ∀ xs, SqT K H a xs → xs[i]? = some x,
    fun i H => ∃ xs : List V, SqT K H a xs ∧ xs.length = i⟩

theorem turn_et {P : Program} {w : World} {K : W.Frag} {elts : List Expr} {kk : Nat} {tpos : Pos} (a e it : Addr) :
    Turn P w K (.Tuple elts kk tpos) (Iet K a) [e, it] e (fun i h => (∃ old, IsEnum h e it ((i : Nat) : Int) old) ∧ h.IsTupleIter it a i ∧ e ≠ it) where
  mem := List.mem_cons_self ..
  obj := fun i h st b hb => by
    obtain ⟨⟨old, he⟩, ⟨o, ho, hc, hd⟩, _⟩ := st
    have hb2 : b = e ∨ b = it := by simpa using hb
    rcases hb2 with rfl | rfl
    · exact ⟨_, he, fun v q => nomatch q⟩
    · exact ⟨o, ho, fun v q => by rw [hd] at q; cases q⟩
  keep := fun i h h' st k => by
    obtain ⟨⟨old, he⟩, hi, ne⟩ := st
    exact ⟨⟨old, k e (List.mem_cons_self ..) _ he⟩, hi.at fun o q => k it (by simp) o q, ne⟩
  item := by
    intro X hP hw hK hc i pins s σ H E I hf st hg
    subst hP hw hK
    obtain ⟨⟨old, he⟩, hit, ne⟩ := st
    obtain ⟨xs, x, hq, hx⟩ := hg
    obtain ⟨its, rv, p, hz⟩ := I.tuple hq
    obtain ⟨u, hu, ru⟩ := rv.get hx
    have tup : s.heap.IsTuple a its.toArray := p
    have ea : e ≠ a := fun z => by
      obtain ⟨o, ho, hc, _⟩ := p
      rw [← z] at ho
      have he' : s.heap.get? e = some _ := he
      rw [ho] at he'
      cases he'
      exact absurd (Value.type.inj hc) (by decide)
    have ia : a ≠ it := fun z => by
      obtain ⟨o, ho, hc, _⟩ := p
      obtain ⟨o', ho', hc', _⟩ := hit
      rw [z, ho'] at ho
      cases ho
      rw [hc'] at hc
      exact absurd (Value.type.inj hc) (by decide)
    have le : e < s.heap.objs.size := Heap.lt_size he
    have li : it < s.heap.objs.size := by
      obtain ⟨_, q, _⟩ := hit
      exact Heap.lt_size q
    have lt : i < its.toArray.size := by
      have := (List.getElem?_eq_some_iff.mp hu).1
      simpa using this
    refine wpAny_pyNext_enum_itemD (Draws.tuple (A := X.A.in1) (I.ok.hd hc) it a ia its.toArray) he ⟨hit, tup⟩ lt ne (by simp [ne, ea]) fun y h' tk hy ho st' hT hsz hk => ?_
    have eu : y = u := by
      have z : its.toArray[i]? = some y := hy
      rw [List.getElem?_toArray, hu] at z
      exact (Option.some.inj z).symm
    subst eu
    refine ⟨_, rfl, wpAny_letOwnedTupleGo_enum (s := { s with heap := h', toks := tk + 1 }) ho fun h'' he' sb => ?_⟩
    have at_T : h''.get? s.heap.objs.size = some { cls := .type "tuple", data := .seq #[.int i tk, y] } := (sb.2 _ (Nat.ne_of_gt le)).trans hT
    have new : ObjOk X.prog X.w (upd H s.heap.objs.size (.tup [.int (i : Nat), x])) h'' s.heap.objs.size (.tup [.int (i : Nat), x]) :=
      ⟨by show 2 ≤ sizeLine; decide, [.int i tk, y], .cons ⟨_, rfl⟩ (.cons ru .nil), ⟨_, at_T, rfl, _, rfl⟩⟩
    have J : Inv X pins σ (upd H s.heap.objs.size (.tup [.int (i : Nat), x])) { s with heap := h'', toks := tk + 1 } := by
      refine I.turnedNew (ch := [e, it]) (fun b ob hb q => ?_) hf (Nat.le_refl _) new
      have b1 : b ≠ e := fun z => hb (by simp [z])
      have b2 : b ≠ it := fun z => hb (by simp [z])
      exact (sb.2 b b1).trans (hk b ob b1 b2 q)
    refine ⟨.ref s.heap.objs.size, _, J, rfl, ⟨_, x, rfl, I.hok.fresh (Nat.le_refl _), rfl, fun ys hy => ?_⟩, ⟨⟨y, ?_⟩, st'.1.at fun o q => (sb.2 it (Ne.symm ne)).trans q, ne⟩, fun b hb => ?_⟩
    · rw [I.tuple_inj hy hq]
      exact hx
    · have e1 : ((i + 1 : Nat) : Int) = (i : Int) + 1 := by omega
      rw [e1]
      exact he'
    · have lb : b < s.heap.objs.size := by
        have hb2 : b = e ∨ b = it := by simpa using hb
        rcases hb2 with rfl | rfl
        · exact le
        · exact li
      rw [upd_ne (Nat.ne_of_lt lb)]
      exact (hf b hb).1
  done := by
    intro X hP hw hK hc i pins s σ H E I hf st hg
    subst hP hw hK
    obtain ⟨⟨old, he⟩, hit, ne⟩ := st
    obtain ⟨xs, hq, hx⟩ := hg
    obtain ⟨its, rv, p, hz⟩ := I.tuple hq
    have tup : s.heap.IsTuple a its.toArray := p
    have ia : a ≠ it := fun z => by
      obtain ⟨o, ho, hc, _⟩ := p
      obtain ⟨o', ho', hc', _⟩ := hit
      rw [z, ho'] at ho
      cases ho
      rw [hc'] at hc
      exact absurd (Value.type.inj hc) (by decide)
    obtain ⟨f0, f1, f2, f3, f4, f5⟩ := hf it (by simp)
    have sz : i = its.toArray.size := by
      have := rv.length
      simp
      omega
    subst sz
    refine wpAny_pyNext_enum_endD (Draws.tuple (A := X.A.in1) (I.ok.hd hc) it a ia its.toArray) he ⟨hit, tup⟩ fun h' eb => ⟨rfl, I.turned (t' := s.toks) (fun b o hb q => eb b o hb q) f0 f1 f3 f4 f5⟩
  self := fun A i s Q E st h => by
    obtain ⟨⟨_, he⟩, _⟩ := st
    exact wpAny_pyIter_enum he h

/-- enumerate over a list or over a tuple -/
def iEnS (K : W.Frag) (ta : TA) : TI := fun σ H R => ta σ H fun vs H1 => ∃ a, vs = [V.ref a] ∧ ((∃ xs, SqL K H1 a xs ∧ R (Ite K a) H1) ∨ (∃ xs, SqT K H1 a xs ∧ R (Iet K a) H1))
theorem pi_enumS {X : Cx} {e : Expr} {ta : TA} {p pos tpos : Pos} {elts : List Expr} {kk : Nat} (hg : Gl X "enumerate") (hm : X.mg "enumerate" = none) (ha : PA X [e] ta) (hs : starEach [e] X.env = [(false, eval e X.env)] := by rfl) :
    PI X (.Tuple elts kk tpos) (.Call (.Name "enumerate" p) [e] [] pos) (iEnS X.K ta) where
  run := fun pins s σ H R I h =>
    Call_ (ld_blt I hg hm boot_enumerate (PyProof.Rows.callWith_type1 (thn (ha.run pos pins s σ H _ I h) fun us s1 x => by
      obtain ⟨vs, H1, I1, r1, a, rfl, q⟩ := x
      obtain ⟨u, rfl, ra⟩ := vals1 r1
      cases ra
      rcases q with ⟨xs, hq, q⟩ | ⟨xs, hq, q⟩
      · obtain ⟨its, rv, p', hz⟩ := I1.list hq
        refine call_enumerate_list (PlainL.isList p') fun h' he hit hsz hk => ?_
        have I2 := I1.kept (t' := s1.toks) hk
        refine wpAny_pyIter_enum he ⟨_, [s1.heap.objs.size + 1, s1.heap.objs.size], _, Ite X.K a, H1, rfl, I2, turn_enum a _ _, ?_, ?_, q⟩
        · exact ⟨⟨_, he⟩, hit, Nat.succ_ne_self _⟩
        · intro b hb
          have le : s1.heap.objs.size ≤ b := by
           rcases (by simpa using hb : b = s1.heap.objs.size + 1 ∨ b = s1.heap.objs.size) with rfl | rfl <;> omega
          exact I1.fpOk le (I1.hok.fresh le)
      · obtain ⟨its, rv, p', hz⟩ := I1.tuple hq
        have tup : s1.heap.IsTuple a its.toArray := p'
        refine call_one (begins_tuple a its.toArray) tup fun h' he hit hk => ?_
        have I2 := I1.kept (t' := s1.toks) hk
        refine wpAny_pyIter_enum he ⟨_, [s1.heap.objs.size + 1, s1.heap.objs.size], _, Iet X.K a, H1, rfl, I2, turn_et a _ _, ?_, ?_, q⟩
        · exact ⟨⟨_, he⟩, ⟨_, hit, rfl, rfl⟩, Nat.succ_ne_self _⟩
        · intro b hb
          have le : s1.heap.objs.size ≤ b := by
           rcases (by simpa using hb : b = s1.heap.objs.size + 1 ∨ b = s1.heap.objs.size) with rfl | rfl <;> omega
          exact I1.fpOk le (I1.hok.fresh le)) hs rfl) (by decide) (by decide)) rfl
theorem walk_enumT {K : W.Frag} {a : Addr} {xs : List V} : Walk (Iet K a) xs.length (fun H => SqT K H a xs) (YPair (fun i => some (.int (i : Nat))) (fun i => xs[i]?)) where
  goes := fun i H hi hq => ⟨xs, xs[i], hq, by simp [hi]⟩
  stops := fun H hq => ⟨xs, hq, rfl⟩
  yields := fun i H v H' hi hq h => by
    obtain ⟨T, x, rfl, hT, rfl, hx⟩ := h
    exact ⟨T, _, x, rfl, hT, rfl, rfl, hx xs hq⟩

/-- a dict comprehension over what walks -/
theorem dc_it {J : It} {n : Nat} {G : Hp → Prop} {Y : Nat → Hp → V → Hp → Prop} (w : Walk J n G Y) {g : TG} {tt : TT} {tk tv : TE} {vs : List Nat} {σ : L2.St} {H1 : Hp} {D : Addr} {Qd : Hp → Prop} (Pv : Nat → Hp → Prop)
    (h0 : Pv 0 (upd H1 D (.dK []))) (hl : ∀ i H, i ≤ n → Pv i H → G H)
    (hs : ∀ (i : Nat) (x : V) (H H' : Hp), i < n → Pv i H → Y i H x H' → g x (wipe σ vs) H' fun σ2 H2 => wipe σ2 vs = wipe σ vs ∧ tt σ2 H2 fun b H3 => if b = true then tk σ2 H3 fun y H4 => tv σ2 H4 fun z H5 =>
      ∃ kvs k, y = kV k ∧ H5 D = some (.dK kvs) ∧ kvs.length < sizeLine ∧ Pv (i + 1) (upd H5 D (.dK (putK kvs k z))) else Pv (i + 1) H3)
    (hd : ∀ H, Pv n H → Qd H) :
    ∃ W : Nat → Nat → Hp → Prop, (∃ m, W 0 m (upd H1 D (.dK []))) ∧ ∀ i m H, W i m H → (J.stop i H ∧ Qd H) ∨ (J.go i H ∧ ∃ Nx : Hp → Prop, (∀ H', Nx H' → ∃ m', m' < m ∧ W (i + 1) m' H') ∧
      ∀ x H', J.yld i H x H' → g x (wipe σ vs) H' fun σ2 H2 => wipe σ2 vs = wipe σ vs ∧ tt σ2 H2 fun b H3 => if b = true then tk σ2 H3 fun y H4 => tv σ2 H4 fun z H5 =>
        ∃ kvs k, y = kV k ∧ H5 D = some (.dK kvs) ∧ kvs.length < sizeLine ∧ Nx (upd H5 D (.dK (putK kvs k z))) else Nx H3) := by
  refine ⟨fun i m H => i ≤ n ∧ m = n - i ∧ Pv i H, ⟨n, Nat.zero_le _, rfl, h0⟩, ?_⟩
  rintro i m H ⟨hi, rfl, hp⟩
  by_cases h : i < n
  · refine .inr ⟨w.goes i H h (hl i H hi hp), Pv (i + 1), fun H' q => ⟨n - (i + 1), by omega, by omega, rfl, q⟩, fun x H' hy => ?_⟩
    exact hs i x H H' h hp (w.yields i H x H' h (hl i H hi hp) hy)
  · obtain rfl : i = n := by omega
    exact .inl ⟨w.stops H (hl _ H hi hp), hd H hp⟩

/-! ### tuple * 0 and tuple * 1 -/
end EnuT

/-! a def called by keywords alone -/
namespace EnuT
open PySem PySem.Spec PyProof.Rows L2
theorem pe_callK0 {X : Cx} {CX : CXT} {k : Nat} {f : Addr} {fd : FuncData} {ps ks : List Str} {sp : Sp} {E : XK} {x : Str} {p pos : Pos} {kws : List Keyword} {tk : TA} {g : List Value → List Value → List Value} {gV : List V → List V → List V}
    (F : FnOk X.prog X.w X.K X.mg X.base CX k f fd ps sp) (hr : Room k X.A) (hg : Gl X x) (hm : X.mg x = some (.ref f)) (kp : W.keepIn X.K (.ref f) = true) (hb : KBinds X.K fd ps ks g gV) (hx : Passes CX X E) (hk : PK X kws tk)
    (hall : (backToKw pos (keywordEach kws X.env)).all (·.1.isSome) = true := by rfl) (hks : (backToKw pos (keywordEach kws X.env)).filterMap (·.1) = ks := by rfl) (hdb : (x == ("__debug__" : Str)) = false := by decide)
    (hpl : ((backTo pos (starEach [] X.env)).any (·.1) || (backToKw pos (keywordEach kws X.env)).any (·.1.isNone)) = false := by rfl) :
    PE X (.Call (.Name x p) [] kws pos) (tCallK sp gV E tNil tk) := by
  refine ⟨fun pins s σ H Q I h => ?_⟩
  refine wpAny_Call_Name_kw (ld_glob I hg hm ?_ hdb)
  refine W.callWith_KW0 (h₀ := X.base) I.ok.mod.kin kp hall ?_ hpl
  refine thn (hk.run pos pins s σ H (fun zs H2 => sp (gV [] zs) H2 Q E) I h) fun ws s1 ⟨zs, H1, I1, r, q⟩ => ⟨I1.kIn, ?_⟩
  rw [hks]
  exact run_fnk F hr hb hx I1 .nil r q
end EnuT

/-! a static method, called on its class -/
namespace Stc
open PySem PySem.Spec PyProof.Rows L2
/-- C.m is a staticmethod: its record at p, its def at g -/
structure SMet (K : PySem.W.Frag) (C : Addr) (mc : Value) (m : Str) (p g : Addr) : Prop where
  at_ : PySem.W.findCls K (.ref C) mc m = some (.get (.builtin "staticmethod.__get__") (.ref p) .none (.ref C))
  rc : ∃ rest, PySem.W.recIn K p "staticmethod" = some (.ref g :: rest)
  kp : PySem.W.keepIn K (.ref g) = true
section
variable {X : Cx} {pins : List (Addr × Obj)} {σ : L2.St} {H : Hp} {s : Shared} {C p g : Addr} {mc : Value} {m : Str} {A : Around} {E : Value → Shared → Prop}
theorem getmethsm_ok {pl : Sem Bool} {Q : Value × List Value → Shared → Prop} (I : Inv X pins σ H s) (r : ClX.CRead X.K C mc) (k : SMet X.K C mc m p g)
    (h : ∀ s', Inv X pins σ H s' → Q (.ref g, []) s') : wpAny (model X.prog X.w) A (getMethod (.ref C) m pl) Q E s := by
  obtain ⟨rest, hp⟩ := k.rc
  refine PySem.W.method_cls I.kIn r.ga (PySem.W.cls_bind I.kIn r.rd k.at_ ?_)
  refine wpAny_call (PySem.W.sm_get (s := { s with toks := s.toks + 1 }) I.kIn hp (PySem.W.handed_on rfl ?_))
  exact h _ (I.tok _)
end
/-- C.m(..), m a static method -/
def tSMeth (C : Addr) (sp : Sp) (E : XK) (ta : TE) (t : TA) : TE := fun σ H Q => ta σ H fun x H1 => x = .ref C ∧ t σ H1 fun vs H2 => sp vs H2 Q E
def tSMethK (C : Addr) (sp : Sp) (gV : List V → List V → List V) (E : XK) (ta : TE) (t : TA) : TE := fun σ H Q => ta σ H fun x H1 => x = .ref C ∧ t σ H1 fun zs H2 => sp (gV [] zs) H2 Q E
section
variable {X : Cx} {CX : CXT} {k : Nat} {C p g : Addr} {mc : Value} {sp : Sp} {E : XK} {o e : Expr} {es : List Expr} {m : Str} {pos apos : Pos} {ta : TE} {t : TA} {pl : Sem Bool} {fd : FuncData} {ps ks : List Str}
theorem pe_smeth (he : PE X o ta) (r : ClX.CRead X.K C mc) (c : SMet X.K C mc m p g) (F : FnOk X.prog X.w X.K X.mg X.base CX k g fd ps sp) (hr : Room k X.A) (hb : Binds X.K fd ps []) (hx : Passes CX X E) (ha : PA X (e :: es) t)
    (hst : starEach (e :: es) X.env = (false, eval e X.env) :: starEach es X.env := by rfl) (hpl : (backTo pos (starEach es X.env)).any (·.1) = false := by rfl)
    (ht : eval (.Call (.Attribute o m apos) (e :: es) [] pos) X.env = (do
      let ov ← eval o X.env
      standAt apos.atName
      let (f, first) ← holding [ov] (getMethod ov m pl)
      callWith pos f first (backTo pos (starEach (e :: es) X.env)) (backToKw pos (keywordEach [] X.env))) := by rfl) :
    PE X (.Call (.Attribute o m apos) (e :: es) [] pos) (tSMeth C sp E ta t) := by
  refine ⟨fun pins s σ H Q I h => ?_⟩
  refine PySem.W.methodCall_KW (pl := pl) (thn (he.run pins s σ H _ I h) fun u s1 ⟨x, H1, I1, rx, ex, q⟩ => ?_) ht
  subst ex
  obtain rfl : u = Value.ref C := rx
  refine getmethsm_ok I1 r c fun s2 I2 => ?_
  refine PySem.W.callWith_K (h₀ := X.base) I.ok.mod.kin c.kp (thn (ha.run pos pins s2 σ H1 _ I2 q) fun us s3 ⟨vs, H2, I3, rv, q2⟩ => ⟨I3.kIn, ?_⟩) hst hpl
  exact run_fn F hr hb .nil hx I3 rv (by rw [List.append_nil]; exact q2)
theorem pe_smethK {g' : List Value → List Value → List Value} {gV : List V → List V → List V} {kws : List Keyword} (he : PE X o ta) (r : ClX.CRead X.K C mc) (c : SMet X.K C mc m p g) (F : FnOk X.prog X.w X.K X.mg X.base CX k g fd ps sp) (hr : Room k X.A) (hb : KBinds X.K fd ps ks g' gV) (hx : Passes CX X E) (hk : PK X kws t)
    (hall : (backToKw pos (keywordEach kws X.env)).all (·.1.isSome) = true := by rfl) (hks : (backToKw pos (keywordEach kws X.env)).filterMap (·.1) = ks := by rfl)
    (hpl : ((backTo pos (starEach [] X.env)).any (·.1) || (backToKw pos (keywordEach kws X.env)).any (·.1.isNone)) = false := by rfl)
    (ht : eval (.Call (.Attribute o m apos) [] kws pos) X.env = (do
      let ov ← eval o X.env
      standAt apos.atName
      let (f, first) ← holding [ov] (getMethod ov m pl)
      callWith pos f first (backTo pos (starEach [] X.env)) (backToKw pos (keywordEach kws X.env))) := by rfl) :
    PE X (.Call (.Attribute o m apos) [] kws pos) (tSMethK C sp gV E ta t) := by
  refine ⟨fun pins s σ H Q I h => ?_⟩
  refine PySem.W.methodCall_KW (pl := pl) (thn (he.run pins s σ H _ I h) fun u s1 ⟨x, H1, I1, rx, ex, q⟩ => ?_) ht
  subst ex
  obtain rfl : u = Value.ref C := rx
  refine getmethsm_ok I1 r c fun s2 I2 => ?_
  refine PySem.W.callWith_KW0 (h₀ := X.base) I.ok.mod.kin c.kp hall ?_ hpl
  refine thn (hk.run pos pins s2 σ H1 (fun zs H2 => sp (gV [] zs) H2 Q E) I2 q) fun ws s3 ⟨zs, H2, I3, rz, q2⟩ => ⟨I3.kIn, ?_⟩
  rw [hks]
  exact run_fnk F hr hb hx I3 .nil rz q2
end
end Stc

/-! try .. except A as e: .. except (B, C) as e: ..; several clauses, each of a class or of two -/
namespace Trt
open PySem PySem.Spec PyProof.Rows L2
theorem flying_kept {base h h' : Heap} {l : List Env} {e : Addr} {Z : Obj → Prop} (x : HandSPX.FlyingZ base l e Z h) (k : ∀ b o, h.get? b = some o → h'.get? b = some o) : HandSPX.FlyingZ base l e Z h' := by
  obtain ⟨f1, f2, f3, oe, vs, T, oT, ts, he, hz, hd, h1, hnT, hTe, hT, hdT, h3⟩ := x
  exact ⟨fun b o e => k _ _ (f1 b o e), f2, f3.of_keeps fun b o e _ => ⟨o, k _ _ e, rfl⟩, oe, vs, T, oT, ts, k _ _ he, hz, hd, h1, hnT, hTe, k _ _ hT, hdT, h3⟩
/-- the slots are as many as the names -/
theorem takes_len {X : Cx} {W : WX} (t : Takes X W) : Takes X (fun cls d σ H => σ.length = X.N.length → W cls d σ H) :=
  fun u s' ⟨a, B, sI, pins, σ, H, cls, d, e, I, nb, up, sky, na, os, ag, w⟩ => t u s' ⟨a, B, sI, pins, σ, H, cls, d, e, I, nb, up, sky, na, os, ag, w I.len⟩
/-- a clause's test: what it says of an exception of a class -/
def Tst (X : Cx) (t : Expr) (cs : List Value) : Prop := ∀ (a : Addr) (oe : Obj) (pn pins : List (Addr × Obj)) (σ : L2.St) (H : Hp) (s : Shared) (cls : Value) (b : Bool) (Q : Bool → Shared → Prop) (E : Value → Shared → Prop),
  Inv (X.suite a ((a, oe) :: pn)) pins σ H s → PySem.W.Looks (model X.prog X.w) s.heap (typeOf (.ref a)) cls → PySem.W.exmAny X.K cls cs = some b →
  (∀ h', (∀ b o, s.heap.get? b = some o → h'.get? b = some o) → Q b { s with heap := h' }) →
  wpAny (model X.prog X.w) (X.A.mark (some (.ref a))) (eval t X.env) (fun c s1 => wpAny (model X.prog X.w) (X.A.mark (some (.ref a))) (excMatches (.ref a) c) Q E s1) E s
section
variable {X : Cx} {x x1 x2 : Str} {c c1 c2 : Value} {np p1 p2 tp : Pos} {kk : Nat}
theorem name_val {a : Addr} {oe : Obj} {pn pins : List (Addr × Obj)} {σ : L2.St} {H : Hp} {s : Shared} {Q : Value → Shared → Prop} {E : Value → Shared → Prop} (S : Inv (X.suite a ((a, oe) :: pn)) pins σ H s) (hc : Names X x c) (q : Q c s) :
    wpAny (model X.prog X.w) (X.A.mark (some (.ref a))) (eval (.Name x np) X.env) Q E s := by
  obtain ⟨hg, hdbg, hm | ⟨hm, hv, hnn⟩⟩ := hc
  · exact ld_glob (X := X.suite a ((a, oe) :: pn)) S hg hm q hdbg
  · exact ld_blt (X := X.suite a ((a, oe) :: pn)) S hg hm hv q hnn hdbg
theorem tst_one (hc : Names X x c) : Tst X (.Name x np) [c] := fun a oe pn pins σ H s cls b Q E S LT e q => by
  have e1 : PySem.W.exmOne X.K cls c = some b := by
    obtain ⟨b1, d1, h1, h2, h3⟩ := PySem.W.exmAny_cons e
    have h2 : some false = some d1 := h2
    cases h2
    rw [Bool.or_false] at h3
    rw [h3]
    exact h1
  refine name_val S hc ((PySem.W.exm_one S.kIn LT e1).here ?_)
  exact q s.heap fun _ _ z => z
theorem tst_two (h1 : Names X x1 c1) (h2 : Names X x2 c2) (hs : starEach [.Name x1 p1, .Name x2 p2] X.env = (false, eval (.Name x1 p1) X.env) :: starEach [.Name x2 p2] X.env := by rfl) (hs2 : starEach [.Name x2 p2] X.env = (false, eval (.Name x2 p2) X.env) :: starEach [] X.env := by rfl) :
    Tst X (.Tuple [.Name x1 p1, .Name x2 p2] kk tp) [c1, c2] := fun a oe pn pins σ H s cls b Q E S LT e q => by
  refine wpAny_Tuple ?_
  refine wpAny_items_cons (name_val S h1 ?_) hs
  refine wpAny_items_cons (name_val S h2 ?_) hs2
  refine wpAny_items_nil ⟨by show 2 ≤ sizeLine; decide, ?_⟩
  have kp : ∀ q o, s.heap.get? q = some o → (s.heap.push { cls := .type "tuple", data := .seq [c1, c2].toArray }).get? q = some o := fun _ _ z => Heap.get?_push_of_some _ z
  exact (PySem.W.exm_tup2 (S.kIn.keeps kp) (LT.keeps kp) (Heap.get?_push_size s.heap rfl) e).here (q _ kp)
end
/-- what the clauses wish of an exception of the body: each its classes, its name's slot, its suite -/
def wMA (K : PySem.W.Frag) (Wout : WX) (D : Ends) : List (List Value × Nat × (Addr → Value → Option Addr → TS)) → WX
  | [] => Wout
  | (cs, i, ts) :: r => fun cls d σ H => ∃ b, PySem.W.exmAny K cls cs = some b ∧
    (b = true → ∀ a, H a = none → ts a cls d { nx := fun σ' H' => D.nx (σ'.set i none) H', rt := D.rt, bk := fun σ' H' => D.bk (σ'.set i none) H', ct := fun σ' H' => D.ct (σ'.set i none) H' } (σ.set i (some (.ref a))) H) ∧
    (b = false → wMA K Wout D r cls d σ H)
inductive HdsA (X : Cx) : List ExceptHandler → List (List Value × Nat × (Addr → Value → Option Addr → TS)) → Prop
  | nil : HdsA X [] []
  | cons {t : Expr} {cs : List Value} {n : Str} {i : Nat} {ts : Addr → Value → Option Addr → TS} {b₀ : Stmt} {suite : List Stmt} {pos' : Pos} {hds : List ExceptHandler} {l : List (List Value × Nat × (Addr → Value → Option Addr → TS))} (hc : Tst X t cs) (hi : X.N[i]? = some n) (hln : X.env.kindOf n = some .local)
      (hsu : ∀ (a : Addr) (oe : Obj) (cls : Value) (d : Option Addr) (pn : List (Addr × Obj)), Zc cls d oe → (∃ vs, oe.data = .fields vs) → PSs (X.suite a ((a, oe) :: pn)) (b₀ :: suite) (ts a cls d)) (r : HdsA X hds l) :
      HdsA X (.ExceptHandler (some t) (some n) (b₀ :: suite) pos' :: hds) ((cs, i, ts) :: l)
section
variable {X : Cx} {body : List Stmt} {h₀ : ExceptHandler} {hds : List ExceptHandler} {l : List (List Value × Nat × (Addr → Value → Option Addr → TS))} {pos : Pos} {tb : WX → TS} {Wout : WX}
theorem ps_try_manyA (hs : X.stack = X.env :: X.outer) (hf : X.env.frame = some X.env.locals) (hN : X.N.Nodup) (tk : Takes X Wout)
    (hb : ∀ (W : WX) (pn : List (Addr × Obj)) (xe : Value → Shared → Prop), Takes (X.tr pn xe) W → PassesOwn (model X.prog X.w) X.A X.env xe → PSs (X.tr pn xe) body (tb W))
    (hh : HdsA X (h₀ :: hds) l) : PS X (.Try body (h₀ :: hds) [] [] pos) (fun D σ H => tb (wMA X.K Wout D l) D σ H) := by
  refine ⟨fun pins s σ H D I h => ?_⟩
  have ok := I.ok
  have hfr : X.A.frames = some (X.env :: X.outer) := by rw [ok.frames, hs]
  refine wpAny_Try_except ?_
  refine wpAny_mono ((hb (wMA X.K Wout D l) (X.pn ++ pins) (fun e s₁ => wpAny (model X.prog X.w) X.A (noteFrame e X.env) (fun _ s₂ => wpAny (model X.prog X.w) X.A (setFlight e none) (fun _ s₃ =>
    wpAny (model X.prog X.w) X.A (handleBy e X.env (h₀ :: hds)) (SP X pins D) X.xe s₃) X.xe s₂) X.xe s₁) (fun u s' xx => ?_) PassesOwn.looking).run [] s σ H D (I.toTry _) h) (fun f s1 hsp => ?_) (fun e s1 he => he)
  · -- the catch
    obtain ⟨a, B, sI, pins', σ', H', cls, d, rfl, J', nb, up, sky, na, os, ag, w⟩ := xx
    have J : Inv X pins σ' H' sI := J'.ofTry ok
    have sky' : Sky B (X.env :: X.outer) a (Zc cls d) X.env.locals s'.heap := by rw [← hs]; exact sky
    show wpAny (model X.prog X.w) X.A (noteFrame (.ref a) X.env) _ _ _
    refine Sky.land Zc.steady hfr hf sky' fun h3 fl3 up3 => ?_
    have notFr : ∀ {h : Heap} {o : Obj} {vs : Array Value}, h.FunFrames B (X.env :: X.outer) → h.get? a = some o → o.data = .fields vs → a ∉ frs (X.env :: X.outer) := fun {h o vs} ff e dd hm => by
      obtain ⟨_, o', e', hnf⟩ := ff.mem hm
      rw [e] at e'; cases e'
      exact hnf _ dd
    have go : ∀ {hds' : List ExceptHandler} {l' : List (List Value × Nat × (Addr → Value → Option Addr → TS))}, HdsA X hds' l' → ∀ h3, HandSPX.FlyingZ B (X.env :: X.outer) a (Zc cls d) h3 → s'.heap.UpToSlots h3 → wMA X.K Wout D l' cls d σ' H' →
        wpAny (model X.prog X.w) X.A (handleBy (.ref a) X.env hds') (SP X pins D) X.xe { s' with heap := h3 } := by
      intro hds' l' hk
      induction hk with
      | nil =>
        intro h3 fl3 up3 w
        refine wpAny_handleBy_nil ?_
        obtain ⟨k1, k2, k3, oe, vs, T, oT, ts', he, hz, hd, h1, hr⟩ := id fl3
        unfold PySem.passOn
        refine wpAny_bind (wpAny_field he hd h1 ?_)
        rw [if_neg (show ¬ ((Value.ref T == Value.none) = true) from by simp)]
        have fin : wpAny (model X.prog X.w) X.A (setFlight (.ref a) X.env.frame) (fun _ s4 => wpAny (model X.prog X.w) X.A (throw (.ref a) : Sem Flow) (SP X pins D) X.xe s4) X.xe { s' with heap := h3 } := by
          rw [hf]
          refine HandSPX.setFlight_upZ fl3 fun h4 hh4 up4 => wpAny_throw (tk _ _ ?_)
          exact ⟨a, B, sI, pins, σ', H', cls, d, rfl, J, nb, (up.trans up3).trans up4, .inr (.inr (by rw [hs]; exact hh4)), na, os, ag, w⟩
        first
          | exact wpAny_bind (wpAny_pure (wpAny_bind fin))
          | exact wpAny_bind fin
      | @cons t cs n i ts b₀ suite pos' hds2 l2 hc hi hln hsu r ih =>
        intro h3 fl3 up3 w
        have J3 : Inv X pins σ' H' { s' with heap := h3 } := J.landed nb fl3.1 (up.trans up3) os ag
        obtain ⟨oe3, vs3, he3, hz3, hd3⟩ := fl3.there
        have nfr := notFr fl3.2.2.1 he3 hd3
        have nL : a ≠ X.env.locals := fun z => nfr (List.mem_filterMap.mpr ⟨X.env, List.mem_cons_self, by rw [hf, z]⟩)
        have nF : a ∉ X.fs := fun hm => by
          obtain ⟨e, he, q⟩ := List.mem_filterMap.mp hm
          exact nfr (List.mem_filterMap.mpr ⟨e, List.mem_cons_of_mem _ he, q⟩)
        have S3 := J3.suite he3 hd3 na nL nF
        obtain ⟨b, hb1, hyes, hno⟩ := w
        have hloc : Loc X.env.scope n := .inl hln
        refine wpAny_handleBy_cons (codeAny_handlers_test ?_) (by intro q; cases q)
        have LT : PySem.W.Looks (model X.prog X.w) h3 (typeOf (.ref a)) cls := fun A Q E s k q => wpAny_typeOf_ref (k _ _ he3) (by rw [hz3.1]; exact q)
        refine hc a oe3 (X.pn ++ pins) [] σ' H' _ cls b _ _ S3 LT hb1 fun h3' k3 => ?_
        have fl3' := flying_kept fl3 k3
        have up3' : s'.heap.UpToSlots h3' := up3.trans fun b o e _ => ⟨o.slots, k3 b o e⟩
        cases b with
        | true =>
          refine codeAny_handlers_suite_as ?_
          refine HandSPX.lands_againZ fl3' fun h4 fl4 up4 => ?_
          have J4 : Inv X pins σ' H' { s' with heap := h4 } := J.landed nb fl4.1 ((up.trans up3').trans up4) os ag
          obtain ⟨oe4, vs4, he4, hz4, hd4⟩ := fl4.there
          have nfr4 := notFr fl4.2.2.1 he4 hd4
          have S4 := J4.suite he4 hd4 na nL nF
          refine store_ok (X := X.suite a ((a, oe4) :: (X.pn ++ pins))) (v := .ref a) S4 hN hi hloc rfl (fun s5 S5 => ?_) (.inr hln)
          refine wpAny_mono ((hsu a oe4 cls d (X.pn ++ pins) hz4 ⟨_, hd4⟩).run [] s5 _ H' _ S5 (hyes rfl a na)) (fun f s6 hsp => ?_) (fun _ _ z => False.elim z)
          have end_ : ∀ {σ6 : L2.St} {H6 : Hp} {Q : Shared → Prop}, Inv (X.suite a ((a, oe4) :: (X.pn ++ pins))) [] σ6 H6 s6 → (∀ s7, Inv X pins (σ6.set i none) H6 s7 → Q s7) →
              wpAny (model X.prog X.w) X.A (do bindName X.env n .none; unbindBehindTheSuite X.env n pos') (fun _ s7 => Q s7) X.xe s6 := fun {σ6 H6 Q} S6 hq => gone_ok (S6.unsuite ok) hN hi hln hq
          cases f with
          | next =>
            obtain ⟨σ6, H6, S6, q6⟩ := hsp
            exact end_ S6 fun s7 J7 => ⟨_, _, J7, q6⟩
          | brk =>
            obtain ⟨σ6, H6, S6, q6⟩ := hsp
            exact end_ S6 fun s7 J7 => ⟨_, _, J7, q6⟩
          | cont =>
            obtain ⟨σ6, H6, S6, q6⟩ := hsp
            exact end_ S6 fun s7 J7 => ⟨_, _, J7, q6⟩
          | ret u =>
            obtain ⟨v6, σ6, H6, S6, r6, q6⟩ := hsp
            exact end_ S6 fun s7 J7 => ⟨_, _, _, J7, r6, q6⟩
        | false =>
          show wpAny _ X.A (handleBy (.ref a) X.env hds2) _ _ _
          exact ih h3' fl3' up3' (hno rfl)
    exact go hh h3 fl3 up3 w
  · cases f with
    | next =>
      obtain ⟨σ', H', J', q⟩ := hsp
      exact wpAny_execs_nil ⟨σ', H', J'.ofTry ok, q⟩
    | brk =>
      obtain ⟨σ', H', J', q⟩ := hsp
      exact ⟨σ', H', J'.ofTry ok, q⟩
    | cont =>
      obtain ⟨σ', H', J', q⟩ := hsp
      exact ⟨σ', H', J'.ofTry ok, q⟩
    | ret u =>
      obtain ⟨v, σ', H', J', r, q⟩ := hsp
      exact ⟨v, σ', H', J'.ofTry ok, r, q⟩
end
end Trt

/-! The law's own def at its caller, where lambdas are made: tables of code objects that grow. -/
namespace Cal
open PySem PySem.Spec PyProof.Rows L2

/-- the tables, empty as the top left them -/
structure Tbl0 (K : W.Frag) (h : Heap) (p : Addr × Addr) : Prop where
  tab : h.get? p.2 = some (W.tabObj #[])
  out : K.lookup p.2 = none
  hd : W.CodeHd h p.1 p.2

theorem wonT {P : Program} {w : World} {K : W.Frag} {mg mb : Str → Option Value} {fa a : Addr} {s : Shared} {vs : List Value} {ns : List Int} {cs : List (Addr × Addr)}
    (kIn : K.In s.heap) (glo : s.heap.Ns mainGlobals mg) (bns : s.heap.Ns builtinsNs mb) (bbo : ∀ x : Str, x ≠ "__name__" → mb x = bootBuiltins x)
    (lim : s.heap.NoLimit) (gen : s.gens = #[]) (obj : s.heap.get? a = some { cls := .type "list", data := .seq vs.toArray })
    (its : IntsAre vs ns) (few : ns.length ≤ sizeLine) (tabs : ∀ p ∈ cs, Tbl0 K s.heap p)
    (bmain : ∃ (bm : Addr) (ob : Obj), mg "__builtins__" = some (.ref bm) ∧ bm ≠ builtinsNs ∧ s.heap.get? bm = some ob ∧ ob.cls = .type "module" ∧ ob.dict = some builtinsNs ∧ ob.data = .plain)
    (run : ∀ (base : Heap) (H : Hp), K.In base → base.Ns mainGlobals mg → (∀ p ∈ cs, LamX.TabB base mg p.1 p.2) → Env0 P w K mg base callerA [] s H → (∀ p ∈ cs, H p.2 = some (.tbl #[])) → SqL K H a (ns.map V.int) →
      codeAny (model P w) callerA (.call (.ref fa) ⟨[.ref a], []⟩) (CR CX0 [] P w H s (fun v _ => v = .bl true) E0) s) :
    Won P w s fa a := by
  have vals := vals_ints its
  have size := its.length
  have isT : ∀ b, b ∈ cs.map (·.2) → s.heap.get? b = some (W.tabObj #[]) ∧ K.lookup b = none := fun b hb => by
    obtain ⟨p, hp, rfl⟩ := List.mem_map.mp hb
    exact ⟨(tabs p hp).tab, (tabs p hp).out⟩
  have aT : a ∉ cs.map (·.2) := fun z => by
    have q := (isT a z).1
    rw [obj] at q
    exact nomatch (congrArg Obj.data (Option.some.inj q))
  -- H0: what is tracked but for the tables
  suffices main : ∀ H0 : Hp, Only H0 → (∀ b, H0 b ≠ none → b = a ∧ K.lookup a = none) → (K.lookup a = none → ∃ o, H0 a = some (.frz o (.lst (ns.map V.int)))) → (∀ b u, H0 b = some u → ObjOk P w (fun c => if c ∈ cs.map (·.2) then some (.tbl #[]) else H0 c) s.heap b u) → Won P w s fa a by
    cases look : K.lookup a with
    | some o => exact main (fun _ => none) (fun _ => .inl rfl) (fun b z => (z rfl).elim) (fun z => by rw [look] at z; cases z) (fun b u z => nomatch z)
    | none =>
      refine main (fun b => if b = a then some (.frz { cls := .type "list", data := .seq vs.toArray } (.lst (ns.map V.int))) else none) (fun b => ?_) (fun b z => ?_) (fun _ => ⟨_, if_pos rfl⟩) (fun b u z => ?_)
      · by_cases e : b = a
        · exact .inr ⟨_, _, if_pos e⟩
        · exact .inl (if_neg e)
      · by_cases e : b = a
        · exact ⟨e, look⟩
        · exact (z (if_neg e)).elim
      · by_cases e : b = a
        · rw [if_pos e] at z
          obtain rfl := Option.some.inj z
          rw [e]
          exact ⟨obj, by simpa using few, vs, _, vals, obj⟩
        · rw [if_neg e] at z
          cases z
  intro H0 only here there ok0
  generalize eH : (fun c => if c ∈ cs.map (·.2) then some (.tbl #[]) else H0 c) = H at ok0
  have inT : ∀ {b}, b ∈ cs.map (·.2) → H b = some (.tbl #[]) := fun {b} hb => by rw [← eH]; exact if_pos hb
  have offT : ∀ {b}, b ∉ cs.map (·.2) → H b = H0 b := fun {b} hb => by rw [← eH]; exact if_neg hb
  have tbl : ∀ p ∈ cs, H p.2 = some (.tbl #[]) := fun p hp => inT (List.mem_map.mpr ⟨p, hp, rfl⟩)
  have ok : HOk P w H s.heap := fun b u z => by
    by_cases hb : b ∈ cs.map (·.2)
    · rw [inT hb] at z
      obtain rfl := Option.some.inj z
      exact (isT b hb).1
    · exact ok0 b u ((offT hb).symm.trans z)
  have sq : SqL K H a (ns.map V.int) := by
    cases look : K.lookup a with
    | some o =>
      have o2 := kIn a o look
      rw [obj] at o2
      obtain rfl := Option.some.inj o2
      exact .inr ⟨_, vs.toArray, _, look, rfl, rfl, rfl, by simpa [size] using few, by simpa using vals⟩
    | none =>
      obtain ⟨o, e⟩ := there look
      exact .inl (.inr ⟨o, (offT aT).trans e⟩)
  have free : ∀ {b : Addr} {o : Obj}, s.heap.get? b = some o → o.data ≠ .seq vs.toArray → o.data ≠ .fields #[] → H b = none := fun {b o} e d d2 => by
    by_cases hb : b ∈ cs.map (·.2)
    · have := (isT b hb).1
      rw [e] at this
      obtain rfl := Option.some.inj this
      exact (d2 rfl).elim
    · rw [offT hb]
      rcases only b with z | ⟨_, _, z⟩
      · exact z
      · obtain ⟨rfl, _⟩ := here b (by rw [z]; simp)
        rw [obj] at e
        obtain rfl := Option.some.inj e
        exact (d rfl).elim
  have kfree : ∀ {b : Addr} {o : Obj}, K.lookup b = some o → H b = none := fun {b o} e => by
    by_cases hb : b ∈ cs.map (·.2)
    · rw [(isT b hb).2] at e
      cases e
    · rw [offT hb]
      rcases only b with z | ⟨_, _, z⟩
      · exact z
      · obtain ⟨rfl, n⟩ := here b (by rw [z]; simp)
        rw [n] at e
        cases e
  have space : ∀ {b : Addr} {m : Str → Option Value}, s.heap.Ns b m → (hidT s.heap H).Ns b m := fun {b m} ⟨o, es, ep, e, d, r⟩ =>
    ⟨o, es, ep, hidT_get e (free e (by rw [d]; intro z; cases z) (by rw [d]; intro z; cases z)), d, r⟩
  have kIn2 : K.In (hidT s.heap H) := fun b o e => hidT_get (kIn b o e) (kfree e)
  obtain ⟨mc, l1, l2⟩ := lim
  have env : Env0 P w K mg (hidT s.heap H) callerA [] s H := {
    frames := rfl
    mod := ⟨kIn2, space glo, ⟨mb, space bns, bbo⟩, ⟨mc, space l1, l2⟩⟩
    bs := fun b o e => of_hidT e
    bsz := Nat.le_of_eq (hidT_size _ _)
    funs := trivial
    frf := fun b hb => by simp [frs] at hb
    hok := ok
    bare := .of_eq gen }
  have TB : ∀ p ∈ cs, LamX.TabB (hidT s.heap H) mg p.1 p.2 := fun p hp => by
    have t := tabs p hp
    refine ⟨?_, ?_, fun z => ?_⟩
    · obtain ⟨o, us, file, tf, flags, tg, inF, text, tt, e1, r1, r2, r3, r⟩ := t.hd
      refine ⟨o, us, file, tf, flags, tg, inF, text, tt, hidT_get e1 (free e1 (fun z => ?_) fun z => ?_), r1, r2, r3, r⟩ <;> rw [r2] at z
      · cases z
      · cases z
        simp at r3
    · obtain ⟨bm, ob, b1, b2, b3, b4, b5, b6⟩ := bmain
      refine ⟨bm, ob, b1, b2, fun q => ?_, fun q => ?_, hidT_get b3 (free b3 (fun z => ?_) fun z => ?_), b4, b5, b6⟩
      · obtain ⟨o, es, ep, e, hd, _⟩ := glo
        rw [q, e] at b3
        cases b3
        rw [hd] at b6
        cases b6
      · rw [q, t.tab] at b3
        cases b3
        cases b6
      · rw [b6] at z
        cases z
      · rw [b6] at z
        cases z
    · obtain ⟨o, es, ep, e, hd, _⟩ := glo
      rw [z, t.tab] at e
      cases e
      cases hd
  refine codeAny_mono (run _ H kIn2 (space glo) TB env tbl sq) fun r s' z => ?_
  match r, z with
  | .error e, z => exact z.elim
  | .ok .next, z => exact z.elim
  | .ok .brk, z => exact z.elim
  | .ok .cont, z => exact z.elim
  | .ok (.ret u), ⟨v, H', os, bare, un, ok', rv, q⟩ =>
    subst q
    obtain rfl : u = Value.bool true := rv
    have stays : ∀ b o, b ∉ cs.map (·.2) → s.heap.get? b = some o → s'.heap.get? b = some o := fun b o nb e => by
      rcases only b with z | ⟨ob, xs, z⟩
      · exact un.keep b o e ((offT nb).trans z) (by simp [frs]) (by simp)
      · have z1 := (offT nb).trans z
        have y1 := (ok b _ z1).1
        have y2 := (ok' b _ (un.frzs b ob _ z1)).1
        rw [e] at y1
        obtain rfl := Option.some.inj y1
        exact y2
    have grown : ∀ p ∈ cs, ∃ more : Array Value, s'.heap.get? p.2 = some (W.tabObj more) := fun p hp => by
      obtain ⟨more, z⟩ := un.tbls p.2 #[] (tbl p hp)
      exact ⟨_, ok' p.2 _ z⟩
    refine ⟨rfl, ⟨fun b o e => ?_, fun b o e => ?_⟩, os, bare⟩ <;> by_cases hb : b ∈ cs.map (·.2)
    · obtain ⟨p, hp, rfl⟩ := List.mem_map.mp hb
      obtain ⟨more, hm⟩ := grown p hp
      rw [(tabs p hp).tab] at e
      cases e
      exact .inr (.inl ⟨((tabs p hp).hd.tab (tabs p hp).tab).isCodeTable, rfl, #[], more, rfl, by rw [Array.empty_append]; exact hm⟩)
    · exact .inl (stays b o hb e)
    · obtain ⟨p, hp, rfl⟩ := List.mem_map.mp hb
      obtain ⟨more, hm⟩ := grown p hp
      exact ⟨_, hm⟩
    · exact ⟨o, stays b o hb e⟩

/-- the goal that k_head leaves, where lambdas are made: the defs that make them by their names -/
theorem walkT {l : PySem.W.OpenLaw} {n : Nat} {q : Program} {loose : List Str} {XP : (Str → Option Value) → Heap → Prop} {YP : World → Heap → Prop} {d : DefRec} {K : Params → PySem.W.Frag} (xs : List Str)
    (most : l.most = some n) (few : n ≤ sizeLine) (dfl : d.params.defaults = []) (hY : ∀ (w : World) (h : Heap), YP w h → (K w.params).In h) (recs : ∀ x ∈ xs, ((recsOf q).find? (fun e => e.name == x)).isSome = true)
    (run : ∀ (w : World) (mg : Str → Option Value) (fa : Addr) (h : Heap), (K w.params).In h → h.Ns mainGlobals mg → mg d.name = some (.ref fa) →
      ∃ cs : List (Addr × Addr), (∀ p ∈ cs, (K w.params).lookup p.2 = none ∧ ∃ x ∈ xs, W.tabIn (K w.params) x = some p) ∧
      ∀ (s : Shared) (a : Addr) (ns : List Int) (base : Heap) (H : Hp), ns.length ≤ n → (K w.params).In base → base.Ns mainGlobals mg → (∀ p ∈ cs, LamX.TabB base mg p.1 p.2) → Env0 l.prog w (K w.params) mg base callerA [] s H → (∀ p ∈ cs, H p.2 = some (.tbl #[])) → SqL (K w.params) H a (ns.map V.int) →
        codeAny (model l.prog w) callerA (.call (.ref fa) ⟨[.ref a], []⟩) (CR CX0 [] l.prog w H s (fun v _ => v = .bl true) E0) s) :
    PySem.W.WalkO q loose XP YP l.row.toRowW d [] (fun f vs => PySem.call f vs) := by
  refine Att.attach_call most dfl fun w s₀ s₁ mg mb fa o pm cd doc a vs ns G Y ho hd hcd hmg hobj hints hlen hg => ?_
  have KX := hY w _ Y
  obtain ⟨cs, ht, go⟩ := run w mg fa _ KX G.T.g hmg
  refine wonT (cs := cs) KX G.T.g G.T.b G.T.builtins G.T.nolimit hg hobj hints (Nat.le_trans hlen few) (fun p hp => ?_) G.T.bmain fun base H b1 b2 tb e0 h0 sq => go s₁ a ns base H hlen b1 b2 tb e0 h0 sq
  obtain ⟨no, x, hx, e⟩ := ht p hp
  obtain ⟨dd, hdd⟩ := Option.isSome_iff_exists.mp (recs x hx)
  obtain ⟨c1, c2⟩ := W.tab_of (c := p.1) (P := p.2) G.T KX hdd e
  exact ⟨c2, no, c1⟩
end Cal

/-! x == y by x's own __eq__, whatever it answers -/
namespace Oeq
open PySem PySem.Spec PyProof.Rows L2
/-- what y's type is -/
inductive TyEq (H : Hp) : V → Value → Prop
  | str (s : Str) : TyEq H (.str s) (.type "str")
  | lst {a : Addr} {xs : List V} (h : H a = some (.lst xs)) : TyEq H (.ref a) (.type "list")
  | tup {a : Addr} {xs : List V} (h : H a = some (.tup xs)) : TyEq H (.ref a) (.type "tuple")
  | ins {a C dx : Addr} {fs : List (Str × V)} (h : H a = some (.ins C dx fs)) : TyEq H (.ref a) (.ref C)
theorem TyEq.looks {X : Cx} {pins : List (Addr × Obj)} {σ : L2.St} {H : Hp} {s : Shared} {y : V} {v tb : Value} (t : TyEq H y tb) (I : Inv X pins σ H s) (r : RelV y v) : PySem.W.Looks (model X.prog X.w) s.heap (typeOf v) tb := by
  cases t with
  | str z =>
    obtain ⟨t, rfl⟩ := r
    exact PySem.W.Looks.of_pure rfl
  | lst h =>
    cases r
    obtain ⟨z, its, k, r, e⟩ := I.hok _ _ h
    exact fun A Q E s k q => wpAny_typeOf_ref (k _ _ e) q
  | tup h =>
    cases r
    obtain ⟨its, r, e, z⟩ := I.tuple (X := X) (.inl (.inl h))
    obtain ⟨o, ho, hc, n, hd⟩ := e
    exact fun A Q E s k q => wpAny_typeOf_ref (k _ _ ho) (by rw [hc]; exact q)
  | ins h =>
    cases r
    obtain ⟨mB, J, _⟩ := ins_get I.hok h
    obtain ⟨od, J, _⟩ := J.look
    exact J.type
def rEqO (K : PySem.W.Frag) (C : Addr) (sp : Sp) : R2 := fun x y H Q => ∃ a dx fs tb, x = .ref a ∧ H a = some (.ins C dx fs) ∧ TyEq H y tb ∧ PySem.W.notFirst K C tb = true ∧ sp [x, y] H (fun v H' => ∃ b, v = .bl b ∧ Q (.bl b) H') E0
theorem op_eqO {X : Cx} {n : Nat} {C f : Addr} {fd : FuncData} {ps : List Str} {sp : Sp} (F : FnOk X.prog X.w X.K X.mg X.base CX0 n f fd ps sp) (hs : PySem.W.findIn X.K (.ref C) "__eq__" = some (some (.ref f))) (hf : PySem.W.isFn X.K (.ref f) = true) (hb : Binds X.K fd ps []) (hr : Room n X.A) :
    OpR X (compareOp .Eq) (rEqO X.K C sp) := by
  intro pins s σ H x y v u Q I rx ry h
  obtain ⟨a, dx, fs, tb, rfl, ha, ty, nf, q⟩ := h
  cases rx
  obtain ⟨mA, J, _⟩ := ins_get I.hok ha
  obtain ⟨od, J, _⟩ := J.look
  obtain ⟨m, hF⟩ := I.fr
  show wpAny (model X.prog X.w) X.A (richCompare .Eq (.ref a) u) _ _ _
  refine PySem.W.cmp_K (op := .Eq) (tb := tb) hr.units0 hF I.ok.mod.kin J (ty.looks I ry) nf hs hf ?_
  refine thn (run_fn (us := [.ref a, u]) (vs := [.ref a, y]) F hr hb .nil pass0 I (.cons rfl (.cons ry .nil)) q) fun w s1 z => ?_
  obtain ⟨v1, H1, I1, r1, b, rfl, q1⟩ := z
  cases r1
  exact ⟨.bl b, H1, I1, rfl, q1⟩
end Oeq

namespace Exn
open PySem PySem.Spec PyProof.Rows L2
theorem Ecl.xf {K : W.Frag} {C : Addr} {B newId initId : String} {bmB : List Value} (T : Ecl K C B newId initId bmB) : XfC K C := ⟨T.ga, T.gt, T.sub, T.hd⟩
section
variable {X : Cx} {a : Addr} {oe : Obj} {cls : Value} {d : Option Addr} {pn : List (Addr × Obj)}
/-- error.f in a suite, of whichever of the told classes the error is -/
theorem pe_errF {e : Expr} {te : TE} {pos : Pos} {n : Str} (hz : Zc cls d oe) (hf : ∃ vs, oe.data = .fields vs) (he : PE (X.suite a ((a, oe) :: pn)) e te) (hb : attributeBase e n X.env (eval e X.env) = eval e X.env := by rfl) :
    PE (X.suite a ((a, oe) :: pn)) (.Attribute e n pos) (fun σ H Q => (∃ C, cls = .ref C ∧ XfC X.K C ∧ W.findIn X.K (.ref C) n = some none) ∧
      te σ H fun x H1 => x = .ref a ∧ ∃ (dd : Addr) (fs : List (Str × V)) (v : V), d = some dd ∧ H1 dd = some (.xd fs) ∧ fs.lookup n = some v ∧ Q v H1) := by
  refine ⟨fun pins s σ H Q I h => ?_⟩
  obtain ⟨⟨C, ec, T, no⟩, h⟩ := h
  refine (pe_xf T no hz hf he hb).run pins s σ H Q I (Eq.mp (congrArg (te σ H) ?_) h)
  funext x H1
  exact propext ⟨fun ⟨e1, r⟩ => ⟨e1, ec, r⟩, fun ⟨e1, _, r⟩ => ⟨e1, r⟩⟩
/-- isinstance(error, c) in a suite -/
theorem call_isF (G : ClsGet X.K) (hz : Zc cls d oe) (hf : ∃ vs, oe.data = .fields vs) :
    CallR (X.suite a ((a, oe) :: pn)) (.builtin "isinstance") (fun xs H Q => ∃ (D : Addr) (B newId initId : String) (bmB : List Value), Ecl X.K D B newId initId bmB ∧ ∃ (c : V) (u : Value) (b : Bool) (dd : Addr) (fs : List (Str × V)), xs = [.ref a, c] ∧ ClsV c u ∧ cls = .ref D ∧ d = some dd ∧ H dd = some (.xd fs) ∧
      W.kitOne X.K (.ref D) u = some b ∧ Q (.bl b) H) := by
  intro pins s σ H xs us Q I r h
  obtain ⟨D, B, newId, initId, bmB, T, h⟩ := h
  exact call_isS T G hz hf pins s σ H xs us Q I r h
end
end Exn

/-! a def whose code object is told: it makes lambdas -/
namespace Cal
open PySem PySem.Spec PyProof.Rows L2
section
variable {P : Program} {w : World} {K : PySem.W.Frag} {mg : Str → Option Value} {base : Heap} {x qual : Str} {st : Stmt} {f c T : Addr} {fd : FuncData} {N ps : List Str}
theorem code_of {oc : Value} {od : Option Addr} {sl : Array (Option Value)} (a : W.nsIn K mainGlobals x = some (some (.ref f))) (l : K.lookup f = some ⟨oc, od, .func fd, sl⟩) (t : W.tabIn K x = some (c, T)) : fd.code = .ref c := by
  unfold W.tabIn at t
  rw [a] at t
  simp only [l] at t
  split at t
  · rename_i c2 e
    split at t
    · split at t
      · cases t
        exact e
      · cases t
    · cases t
  · cases t
theorem okC {k : Nat} {sp : Sp} (F : Fun K x qual st f fd) (hc : fd.code = .ref c) (S : FnScope N ps (defScope st)) (len : ∀ vs H Q E, sp vs H Q E → vs.length = ps.length)
    (hbody : ∀ (A : Around) (outer : List Env) (s : Shared) (H : Hp) (vs : List V) (Q : VK) (E : XK), Room k (A.deeper (envOfC qual (defScope st) s.heap.objs.size f (.ref c))) → sp vs H Q E →
      ∃ t, PSs (cxOf CX0 P w K mg base N qual (defScope st) f (.ref c) A outer s H E).nox (defBody st) t ∧ t { nx := fun _ H' => Q .non H', rt := Q } (start N vs) H) : FnOk P w K mg base CX0 (k + 1) f fd ps sp := by
  obtain ⟨oc, od, kV, doc, pm, an, cdv, ct, osl, rfl, lk, hcd⟩ := F.ex
  obtain rfl : cdv = .ref c := hc
  refine fn_of lk hcd S len fun A outer s H vs Q E hr hsp => ?_
  obtain ⟨t, h, q⟩ := hbody A outer s H vs Q E hr hsp
  exact ⟨t, h.nox, q⟩
theorem law_runC {s : Shared} {H : Hp} {us : List Value} {vs : List V} {Q : VK}
    (F : Fun K x qual st f fd) (hc : fd.code = .ref c) (S : FnScope N ps (defScope st)) (e0 : Env0 P w K mg base callerA [] s H) (bind : Binds K fd ps []) (r : Vals vs us) (hl : vs.length = ps.length)
    (body : ∃ t, PSs (cxOf CX0 P w K mg base N qual (defScope st) f (.ref c) callerA [] s H E0).nox (defBody st) t ∧ t { nx := fun _ H' => Q .non H', rt := Q } (start N vs) H) :
    codeAny (model P w) callerA (.call (.ref f) ⟨us, []⟩) (CR CX0 [] P w H s Q E0) s := by
  obtain ⟨oc, od, kV, doc, pm, an, cdv, ct, osl, rfl, lk, hcd⟩ := F.ex
  obtain rfl : cdv = .ref c := hc
  obtain ⟨t, ht, hq⟩ := body
  have keep : ∀ b o, base.get? b = some o → s.heap.get? b = some o := fun b o e => (e0.bs b o e).1
  have kIn := e0.mod.kin.keeps keep
  have ul : us.length = ps.length := by rw [← r.length]; exact hl
  have hb := bind s us kIn (by simpa using ul)
  rw [List.append_nil] at hb
  refine codeAny_call_function (by decide) (kIn _ _ lk) rfl S.co S.gen rfl (PySem.W.codeRec_of kIn hcd) (hb _ _ _ _ ?_)
  refine wpAny_newFunctionEnv_cells S.kind (fun ⟨y, v⟩ hy => ?_) fun env he s1 z => ?_
  · rcases S.par y (List.of_mem_zip hy).1 with q | q
    · exact Or.inl q
    · exact Or.inr ⟨q, PySem.W.cellsFrom_some _ _ _ (Or.inl q)⟩
  · subst he
    refine ⟨(e0.mod.nolimit.keeps keep).keeps z.toInCall.keep, codeAny_func ?_⟩
    have I : Inv (cxOf CX0 P w K mg base N qual (defScope st) f (.ref c) callerA [] s H E0) [] (start N vs) H s1 := inv_start S rfl e0 hl r z
    refine wpAny_mono (ht.nox.run [] s1 _ H _ I hq) (fun fl s' y => ?_) fun _ _ y => y
    match fl, y with
    | .ret u, ⟨v, σ', H', J, rv, q⟩ => exact ⟨v, H', J.os, J.bare, J.base, J.hok, rv, q⟩
    | .next, ⟨σ', H', J, q⟩ => exact ⟨.non, H', J.os, J.bare, J.base, J.hok, rfl, q⟩
    | .brk, ⟨_, _, _, q⟩ => exact q.elim
    | .cont, ⟨_, _, _, q⟩ => exact q.elim
end
end Cal

/-! split undoes join -/
namespace Tx
open PySem
abbrev L (s : Str) : List Nat := s.cps.toList
theorem ext {a b : Str} (h : L a = L b) : a = b := Str.ext' (Array.toList_inj.mp h)
theorem L_append (a b : Str) : L (a ++ b) = L a ++ L b := by simp [L, Str.cps_append]
theorem len_L (s : Str) : s.length = (L s).length := by simp [L, Str.length]
theorem cut_eq {c : Nat} : ∀ {a b r q : List Nat}, c ∉ a → c ∉ b → a ++ c :: r = b ++ c :: q → a = b ∧ r = q
  | [], [], _, _, _, _, h => ⟨rfl, by simpa using h⟩
  | [], y :: b, _, _, _, hb, h => by
    simp at h
    exact absurd (List.mem_cons.mpr (.inl h.1)) hb
  | x :: a, [], _, _, ha, _, h => by
    simp at h
    exact absurd (List.mem_cons.mpr (.inl h.1.symm)) ha
  | x :: a, y :: b, r, q, ha, hb, h => by
    simp at h
    obtain ⟨rfl, h⟩ := h
    obtain ⟨e1, e2⟩ := cut_eq (a := a) (b := b) (fun z => ha (List.mem_cons_of_mem _ z)) (fun z => hb (List.mem_cons_of_mem _ z)) h
    exact ⟨by rw [e1], e2⟩
theorem L_join (sep x y : Str) (r : List Str) : L (Str.join sep (x :: y :: r)) = L x ++ (L sep ++ L (Str.join sep (y :: r))) := by
  show L (x ++ sep ++ Str.join sep (y :: r)) = _
  rw [L_append, L_append, List.append_assoc]
theorem join_inj {c : Nat} : ∀ {xs ys : List Str}, xs ≠ [] → ys ≠ [] → (∀ p, p ∈ xs → c ∉ L p) → (∀ p, p ∈ ys → c ∉ L p) → Str.join ⟨#[c]⟩ xs = Str.join ⟨#[c]⟩ ys → xs = ys
  | [], _, h, _, _, _, _ => absurd rfl h
  | _ :: _, [], _, h, _, _, _ => absurd rfl h
  | [x], [y], _, _, _, _, h => by
    have h : x = y := h
    rw [h]
  | [x], y :: z :: r, _, _, hx, _, h => by
    have e : L x = L y ++ (c :: L (Str.join ⟨#[c]⟩ (z :: r))) := by
      have := congrArg L h
      rw [L_join] at this
      exact this
    exact absurd (by rw [e]; simp) (hx x (List.mem_cons_self ..))
  | x :: z :: r, [y], _, _, _, hy, h => by
    have e : L y = L x ++ (c :: L (Str.join ⟨#[c]⟩ (z :: r))) := by
      have := congrArg L h
      rw [L_join] at this
      exact this.symm
    exact absurd (by rw [e]; simp) (hy y (List.mem_cons_self ..))
  | x :: z :: r, y :: w :: q, _, _, hx, hy, h => by
    have e : L x ++ c :: L (Str.join ⟨#[c]⟩ (z :: r)) = L y ++ c :: L (Str.join ⟨#[c]⟩ (w :: q)) := by
      have := congrArg L h
      rw [L_join, L_join] at this
      exact this
    obtain ⟨e1, e2⟩ := cut_eq (hx x (List.mem_cons_self ..)) (hy y (List.mem_cons_self ..)) e
    rw [ext e1, join_inj (List.cons_ne_nil _ _) (List.cons_ne_nil _ _) (fun p hp => hx p (List.mem_cons_of_mem _ hp)) (fun p hp => hy p (List.mem_cons_of_mem _ hp)) (ext e2)]
theorem split_ne (x y : Str) : Txt.split x y ≠ [] := by
  unfold Txt.split
  split
  · exact List.cons_ne_nil _ _
  · split
    · exact List.cons_ne_nil _ _
    · rw [StrLaws.partsBetween_eq]
      obtain ⟨p, r, e⟩ := StrLaws.partsFrom_ne x y.length 0 (Builtin.Str.occurrences x y 0 x.length (x.length + 1))
      rw [e]
      exact List.cons_ne_nil _ _
/-- split undoes join, where no part has the sign -/
theorem split_join {c : Nat} {xs : List Str} (ne : xs ≠ []) (h : ∀ p, p ∈ xs → c ∉ L p) : Txt.split (Txt.join ⟨#[c]⟩ xs) ⟨#[c]⟩ = xs := by
  refine join_inj (split_ne _ _) ne (fun p hp => StrLaws.split_free _ c p hp) h ?_
  rw [StrLaws.join_split]
  exact StrLaws.glued_eq_join _ _
theorem split_len {c : Nat} {s : Str} : ∀ p, p ∈ Txt.split s ⟨#[c]⟩ → p.length ≤ s.length := by
  intro p hp
  have e := StrLaws.join_split s ⟨#[c]⟩
  have key : ∀ (xs : List Str), p ∈ xs → p.length ≤ (Str.join ⟨#[c]⟩ xs).length := by
    intro xs
    induction xs with
    | nil => intro h; cases h
    | cons x xs ih =>
      intro h
      cases xs with
      | nil =>
        obtain rfl := List.mem_singleton.mp h
        exact Nat.le_refl _
      | cons y r =>
        rw [len_L (Str.join _ _), L_join]
        simp only [List.length_append]
        rcases List.mem_cons.mp h with rfl | z
        · rw [len_L]; omega
        · have := ih z
          rw [len_L (Str.join _ _)] at this
          omega
  rw [← e]
  exact key _ hp
end Tx

/-! what the written part says of own exception classes, of own classes, of constant tuples of words -/
namespace Fx
open PySem PySem.Spec PyProof.Rows L2
open Exn Keys
def clsB (K : W.Frag) (C : Addr) (bm : List Value) (newId : String) (f : Str) : Bool :=
  W.excInitIn K C bm newId && W.excOver K C bm && decide (W.findIn K (.ref C) "__setattr__" = some (some (.builtin "object.__setattr__"))) &&
  decide (W.findIn K (.ref C) "__getattribute__" = some (some (.builtin "BaseException.__getattribute__"))) && decide (W.findIn K (.ref C) "__getattr__" = some none) && W.hasDictIn K C &&
  decide (W.subIn K (.ref C) (.type "BaseException") = some true) && decide (W.findIn K (.ref C) "__class__" = some (some (.builtin "object.__class__"))) && decide (W.mroIn K C (.type "object") = some true) &&
  W.keepIn K (.ref C) && decide (W.findIn K (.ref C) f = some none) && decide (W.typeIn K (.ref C) = some (.type "type"))
theorem ecl_of {K : W.Frag} {C : Addr} {bm : List Value} {B newId initId : String} {f : Str} (h : clsB K C bm newId f = true) (hb : ∃ bm', ExcBaseFacts B newId initId bm') (ht : Tail bm B) (hs : ∃ B', StoreFacts B' bm "object.__setattr__" "object") :
    Ecl K C B newId initId bm ∧ W.findIn K (.ref C) f = some none ∧ W.typeIn K (.ref C) = some (.type "type") := by
  unfold clsB at h
  simp only [Bool.and_eq_true, decide_eq_true_eq] at h
  obtain ⟨⟨⟨⟨⟨⟨⟨⟨⟨⟨⟨h1, h2⟩, h3⟩, h4⟩, h5⟩, h6⟩, h7⟩, h8⟩, h9⟩, h10⟩, h11⟩, h12⟩ := h
  exact ⟨⟨hb, ht, hs, h1, h2, h3, h4, h5, h6, h7, h8, h9, h10⟩, h11, h12⟩
/-- the text of an __init__ that keeps one thing -/
structure InitTxt (st : Stmt) (f : Str) : Prop where
  body : ∃ p1 p2 p3 p4, defBody st = [.Assign [.Attribute (.Name "self" p1) f p2] (.Name f p3) p4]
  sc : FnScope ["self", f] ["self", f] (defScope st)
  v0 : Vis (defScope st) "self"
  v1 : Vis (defScope st) f
  n1 : (f == ("__debug__" : Str)) = false
  n2 : (f == ("__classdict__" : Str)) = false
  bp : ∀ (qual : Str) (kV doc pm : Value) (an : Option Addr) (cdv ct a u : Value), bindArgs (W.fnOf "__init__" qual (defArgs st) (defBody st) (defScope st) .none kV doc pm an cdv ct) ⟨[a, u], []⟩ = pure [(("self" : Str), a), (f, u)]
  bk : ∀ (qual : Str) (kV doc pm : Value) (an : Option Addr) (cdv ct a u : Value), bindArgs (W.fnOf "__init__" qual (defArgs st) (defBody st) (defScope st) .none kV doc pm an cdv ct) ⟨[a], [(f, u)]⟩ = pure [(("self" : Str), a), (f, u)]
theorem exE : ∃ bm', ExcBaseFacts "Exception" "Exception.__new__" "Exception.__init__" bm' := ⟨_, PySem.F.excBase_Exception⟩
theorem exS : ∃ B', StoreFacts B' exTail "object.__setattr__" "object" := ⟨_, PySem.F.store_Exception⟩
theorem keE : ∃ bm', ExcBaseFacts "LookupError" "LookupError.__new__" "LookupError.__init__" bm' := ⟨_, PySem.F.excBase_LookupError⟩
theorem keS : ∃ B', StoreFacts B' keyTail "object.__setattr__" "object" := ⟨_, store_KeyError⟩
section
variable {P : Program} {w : World} {K : W.Frag} {h : Heap} {mg : Str → Option Value} {base : Heap}
theorem cl1_mk {x : Str} {C fI : Addr} {f qual : Str} {st : Stmt} {bm : List Value} {B newId initId : String} {oc kV doc pm cdv ct : Value} {od an : Option Addr} {sl : Array (Option Value)} (X : K.In h) (G : h.Ns mainGlobals mg)
    (aC : W.nsIn K mainGlobals x = some (some (.ref C))) (cb : clsB K C bm newId f = true) (iC : W.findIn K (.ref C) "__init__" = some (some (.ref fI))) (tI : W.typeIn K (.ref fI) = some (.type "function"))
    (l : K.lookup fI = some ⟨oc, od, .func (W.fnOf "__init__" qual (defArgs st) (defBody st) (defScope st) .none kV doc pm an cdv ct), sl⟩) (c : W.codeIn K cdv qual = true) (kI : W.keepIn K (.ref fI) = true)
    (ke : InitTxt st f) (hb : ∃ bm', ExcBaseFacts B newId initId bm') (ht : Tail bm B) (hs : ∃ B', StoreFacts B' bm "object.__setattr__" "object") : Cl1 P w K mg base x C f B newId initId bm := by
  obtain ⟨E, no, ty⟩ := ecl_of (initId := initId) cb hb ht hs
  obtain ⟨p1, p2, p3, p4, hB⟩ := ke.body
  have F := fun_mk (st := st) l c kI
  exact ⟨E, no, W.mg_of X G aC, ty, fI, _, iC, tI, ok_keep F E no hB ke.sc ke.v0 ke.v1 ke.n1 ke.n2, fun s a u => .of_eq (ke.bp ..), fun s a u => .of_eq (ke.bk ..)⟩
end
/-- what the written part says of an own class whose objects keep what they are given: its attributes fs -/
def ownB (K : W.Frag) (C : Addr) (fs : List Str) : Bool :=
  W.plainGet K C Str.empty && W.hasDictIn K C && W.plainOver K C && decide (W.findIn K (.ref C) "__setattr__" = some (some (.builtin "object.__setattr__"))) && W.makesIn K C && W.keepIn K (.ref C) &&
  decide (W.findIn K (.ref C) "__class__" = some (some (.builtin "object.__class__"))) && decide (W.specialIn K (.builtin "object.__class__") "__get__" = some (some (.builtin "getset_descriptor.__get__"))) &&
  decide (W.takesIn K (.builtin "object.__class__") = some true) && decide (W.mroIn K C (.type "object") = some true) && decide (W.kitOne K (.ref C) (.ref C) = some true) &&
  decide (W.specialIn K (.ref C) "__getattribute__" = some (some (.builtin "type.__getattribute__"))) && W.readsIn K C (.type "type") && fs.all fun f => decide (W.findIn K (.ref C) f = some none)
structure Own (K : W.Frag) (C : Addr) (fs : List Str) : Prop where
  cl : Cls K C
  makes : W.makesIn K C = true
  kp : W.keepIn K (.ref C) = true
  ty : ∀ (H : Hp) (a dx : Addr) (gs : List (Str × V)), H a = some (.ins C dx gs) → TyX K H (.ref a) (.ref C)
  self : W.kitOne K (.ref C) (.ref C) = some true
  cg : ClsGet K
  rd : ClX.CRead K C (.type "type")
  no : ∀ f, f ∈ fs → NoAttr K C f
theorem own_of {K : W.Frag} {C : Addr} {fs : List Str} (h : ownB K C fs = true) : Own K C fs := by
  unfold ownB at h
  simp only [Bool.and_eq_true, decide_eq_true_eq] at h
  obtain ⟨⟨⟨⟨⟨⟨⟨⟨⟨⟨⟨⟨⟨h1, h2⟩, h3⟩, h4⟩, h5⟩, h6⟩, h7⟩, h8⟩, h9⟩, h10⟩, h11⟩, h12⟩, h13⟩, h14⟩ := h
  have cl : Cls K C := ⟨h1, h2, h3, h4⟩
  exact ⟨cl, h5, h6, fun H a dx gs e => .base (.ins e cl h7 h8 h9 h10), h11, ⟨h8, h9⟩, ⟨h13, h12⟩, fun f hf => show W.findIn K (.ref C) f = some none from of_decide_eq_true (List.all_eq_true.mp h14 f hf)⟩
def strOf : Value → Option Str
  | .str s _ => some s
  | _ => none
theorem vals_strs : ∀ {us : List Value} {xs : List Str}, us.map strOf = xs.map some → Vals (xs.map V.str) us
  | [], [], _ => .nil
  | [], _ :: _, h => by cases h
  | _ :: _, [], h => by cases h
  | u :: us, x :: xs, h => by
    simp only [List.map_cons, List.cons.injEq] at h
    obtain ⟨h1, h2⟩ := h
    refine .cons ?_ (vals_strs h2)
    cases u <;> first | (cases h1; exact ⟨_, rfl⟩) | cases h1
/-- the module's name x holds a tuple of these words -/
def wordsB (K : W.Frag) (x : Str) (xs : List Str) : Bool := match W.nsIn K mainGlobals x with
  | some (some (.ref a)) => (match K.lookup a with
    | some ⟨.type t, _, .seq its _, _⟩ => decide (t = "tuple") && decide (its.toList.map strOf = xs.map some) && decide (its.size ≤ 1000)
    | _ => false)
  | _ => false
theorem words_of {K : W.Frag} {h : Heap} {mg : Str → Option Value} {x : Str} {xs : List Str} (X : K.In h) (G : h.Ns mainGlobals mg) (b : wordsB K x xs = true) : ∃ a, mg x = some (.ref a) ∧ ∀ H, SqT K H a (xs.map V.str) := by
  unfold wordsB at b
  split at b
  · rename_i a ha
    split at b
    · rename_i t d its n sl hl
      simp only [Bool.and_eq_true, decide_eq_true_eq] at b
      obtain ⟨⟨rfl, e⟩, sz⟩ := b
      refine ⟨a, W.mg_of X G ha, fun H => .inr ⟨_, its, n, hl, rfl, rfl, ?_, vals_strs e⟩⟩
      have : (1000 : Nat) ≤ sizeLine := by decide
      omega
    · cases b
  · cases b
end Fx

/-! x != y of an instance whose class has an __eq__ of its own, and object's __ne__ -/
namespace Oeq
open PySem PySem.Spec PyProof.Rows L2
section
variable {prog : Program} {w : World} {M : Model} {A : Around} {E : Value → Shared → Prop} {s : Shared} {K : W.Frag} {x C f L : Addr} {ox : Obj} {od : Option Obj} {h₀ : Heap} {m : Str → Option Value} {b tb : Value}
open PySem.W Builtin in
theorem ifBound_B {name : Str} {id : String} {args : List Value} {Q : Option Value → Shared → Prop} (X : K.In s.heap) (I : InstAt s.heap x ox C od) (hs : findIn K (.ref C) name = some (some (.builtin id)))
    (hb : ∀ self, bindSpecial (.builtin id) self = pure (.builtin id, [self])) (h : wpAny M A (call (.builtin id) (.ref x :: args)) (fun v => Q (some v)) E s) : wpAny M A (callSpecialIfBound? (.ref x) name args) Q E s := by
  simp only [callSpecialIfBound?, bindSpecialIfBound?]
  refine wpAny_holding (wpAny_bind (wpAny_bind (wpAny_bind (I.type.here ((looks_findIn X hs).here ?_)))))
  refine wpAny_bind (wpAny_askSetting (wpAny_ite ?_))
  have fin : wpAny M A (call (.builtin id) ([.ref x] ++ args) >>= fun v => pure (some v)) Q E s := wpAny_bind (wpAny_mono h (fun v s' h' => wpAny_pure h') fun _ _ h' => h')
  simp only [hb]
  split
  · exact wpAny_bind (wpAny_pure (wpAny_pure fin))
  · exact wpAny_tryCatch (wpAny_bind (wpAny_pure (wpAny_pure fin)))
open PySem.W Builtin in
theorem call_object_ne {Q : Value → Shared → Prop} (hu : A.in1.units < cLine) (X : K.In s.heap) (I : InstAt s.heap x ox C od) (hm : mroIn K C (.type "object") = some true) (he : findIn K (.ref C) "__eq__" = some (some (.ref f))) (hf : isFn K (.ref f) = true)
    (h : wpAny (model prog w) A.in1 (call (.ref f) [.ref x, b]) (fun v s' => ∃ c, v = .bool c ∧ Q (.bool (!c)) s') E s) : wpAny (model prog w) A (call (.builtin "object.__ne__") [.ref x, b]) Q E s := by
  refine wpAny_call (codeAny_call_builtin PySem.F.cmp_object.ne.plain PySem.F.cmpEntry_ne (check_slot (i := "object.__ne__") (owner := "object") (n := "__ne__") PySem.F.cmpKind_ne PySem.F.cmpSplit_ne (I.type.andThen (looks_mroIn X hm)) (PySem.F.cmpArgs_ne _ _) ?_))
  unfold Builtin.«object.__ne__»
  refine wpAny_bind (m := slotArgs "__ne__" 1 _) (wpAny_pure ?_)
  refine wpAny_bind (m := cRoomFor _ _) (wpAny_cRoomFor hu ?_)
  refine wpAny_bind (m := callSpecialIfBound? (.ref x) (Str.ofString "__eq__") _) (ifBound_K X I he hf (wpAny_mono h (fun r s' hq => ?_) fun _ _ y => y))
  obtain ⟨c, rfl, q⟩ := hq
  show wpAny _ _ (truthy (.bool c) >>= fun k => ret (.bool (!k))) _ _ _
  exact wpAny_bind (m := truthy (.bool c)) (wpAny_truthy_bool (wpAny_pure q))
open PySem.W in
theorem cmp_neK {Q : Value → Shared → Prop} (hu : A.units + 1 < cLine) (F : Fr h₀ L s.heap m) (X₀ : K.In h₀) (I : InstAt s.heap x ox C od) (hb : Looks (model prog w) s.heap (typeOf b) tb) (hn : notFirst K C tb = true)
    (hne : findIn K (.ref C) "__ne__" = some (some (.builtin "object.__ne__"))) (hm : mroIn K C (.type "object") = some true) (hs : findIn K (.ref C) "__eq__" = some (some (.ref f))) (hf : isFn K (.ref f) = true)
    (h : wpAny (model prog w) A.in1 (call (.ref f) [.ref x, b]) (fun v s' => ∃ c, v = .bool c ∧ Q (.bool (!c)) s') E s) : wpAny (model prog w) A (richCompare .NotEq (.ref x) b) Q E s := by
  have X := X₀.keeps F.keep
  have one : wpAny (model prog w) A (tryCompare (.ref x) (cmpInfo .NotEq).2.1 b) (fun r s' => ∃ v, r = some v ∧ Q v s') E s := by
    unfold tryCompare
    have z : wpAny (model prog w) A (callSpecialIfBound? (.ref x) "__ne__" [b]) (fun r s' => ∃ c, r = some (.bool c) ∧ Q (.bool c) s') E s :=
      ifBound_B X I hne PySem.F.cmp_object.ne.bind (call_object_ne (A := A) (Q := fun v s' => ∃ c, some v = some (.bool c) ∧ Q (.bool c) s') (by show A.units + 1 < cLine; exact hu) X I hm hs hf (wpAny_mono h (fun v s' hv => by
        obtain ⟨c, rfl, q⟩ := hv
        exact ⟨c, rfl, !c, rfl, q⟩) fun _ _ e => e))
    refine wpAny_bind (wpAny_mono z (fun v s' hv => ?_) fun _ _ e => e)
    obtain ⟨c, rfl, q⟩ := hv
    exact wpAny_pure ⟨_, rfl, q⟩
  unfold richCompare
  simp only [oneThing_ref]
  refine wpAny_holding (wpAny_bind (wpAny_cRoomFor (Nat.lt_of_succ_lt hu) ?_))
  refine wpAny_bind (I.type.here (wpAny_bind (hb.here ?_)))
  split
  · rename_i q
    have e : subIn K tb (.ref C) = some false := by
      rcases Bool.or_eq_true_iff.mp hn with e | e
      · rw [beq_iff_eq.mp e] at q; simp at q
      · exact beq_iff_eq.mp e
    refine wpAny_bind ((looks_subIn X e).here ?_)
    simp only [Bool.false_eq_true, if_false]
    refine wpAny_bind (wpAny_mono one (fun r s' z => ?_) fun _ _ e => e)
    obtain ⟨v, rfl, hq⟩ := z
    exact wpAny_pure hq
  · refine wpAny_bind (wpAny_pure ?_)
    simp only [Bool.false_eq_true, if_false]
    refine wpAny_bind (wpAny_mono one (fun r s' z => ?_) fun _ _ e => e)
    obtain ⟨v, rfl, hq⟩ := z
    exact wpAny_pure hq
end
section
variable {X : Cx}
/-- a call of a def from within a builtin -/
theorem run_in1 {k : Nat} {f : Addr} {fd : FuncData} {ps : List Str} {sp : Sp} {pins : List (Addr × Obj)} {σ : L2.St} {H : Hp} {s : Shared} {Q : VK} {us : List Value} {vs : List V} (F : FnOk X.prog X.w X.K X.mg X.base CX0 k f fd ps sp) (hr : Room (k + 1) X.A) (hb : Binds X.K fd ps [])
    (I : Inv X pins σ H s) (r : Vals vs us) (h : sp vs H Q E0) : wpAny (model X.prog X.w) X.A.in1 (call (.ref f) us) (EP X pins σ Q) X.xe s := by
  have hl : us.length = ps.length := by rw [← r.length]; exact F.len _ _ _ _ h
  have b := hb s us I.kIn (by rw [List.append_nil]; exact hl)
  rw [List.append_nil] at b
  refine wpAny_call (codeAny_mono (F.run X.A.in1 X.stack s H ⟨us, []⟩ us vs Q E0 hr.in1 I.env0.in1 b r h) fun r s' hq => ?_)
  cases r with
  | error e => exact pass0 pins σ H s e s' I hq
  | ok fl =>
    cases fl with
    | ret u => exact I.after hq
    | next => exact False.elim hq
    | brk => exact False.elim hq
    | cont => exact False.elim hq
def rNeO (K : PySem.W.Frag) (C : Addr) (sp : Sp) : R2 := fun x y H Q => ∃ a dx fs tb, x = .ref a ∧ H a = some (.ins C dx fs) ∧ TyEq H y tb ∧ PySem.W.notFirst K C tb = true ∧ sp [x, y] H (fun v H' => ∃ b, v = .bl b ∧ Q (.bl (!b)) H') E0
theorem op_neO {n : Nat} {C f : Addr} {fd : FuncData} {ps : List Str} {sp : Sp} (F : FnOk X.prog X.w X.K X.mg X.base CX0 n f fd ps sp) (hne : PySem.W.findIn X.K (.ref C) "__ne__" = some (some (.builtin "object.__ne__"))) (hm : PySem.W.mroIn X.K C (.type "object") = some true)
    (hs : PySem.W.findIn X.K (.ref C) "__eq__" = some (some (.ref f))) (hf : PySem.W.isFn X.K (.ref f) = true) (hb : Binds X.K fd ps []) (hr : Room (n + 1) X.A) :
    OpR X (compareOp .NotEq) (rNeO X.K C sp) := by
  intro pins s σ H x y v u Q I rx ry h
  obtain ⟨a, dx, fs, tb, rfl, ha, ty, nf, q⟩ := h
  cases rx
  obtain ⟨mA, J, _⟩ := ins_get I.hok ha
  obtain ⟨od, J, _⟩ := J.look
  obtain ⟨m, hF⟩ := I.fr
  show wpAny (model X.prog X.w) X.A (richCompare .NotEq (.ref a) u) _ _ _
  refine cmp_neK (tb := tb) hr.in1.units0 hF I.ok.mod.kin J (ty.looks I ry) nf hne hm hs hf ?_
  refine thn (run_in1 (us := [.ref a, u]) (vs := [.ref a, y]) F hr hb I (.cons rfl (.cons ry .nil)) q) fun w s1 z => ?_
  obtain ⟨v1, H1, I1, r1, b, rfl, q1⟩ := z
  cases r1
  exact ⟨b, rfl, .bl (!b), H1, I1, rfl, q1⟩
end
end Oeq

/-! what is a list or a tuple: walked, told off, made a tuple -/
namespace Sqx
open PySem PySem.Spec PyProof.Rows L2
open EnuT
def SeqAt (H : Hp) (a : Addr) (xs : List V) : Prop := H a = some (.lst xs) ∨ H a = some (.tup xs)
theorem SeqAt.same {H H' : Hp} (s : Same H H') {a : Addr} {xs : List V} (x : SeqAt H a xs) : SeqAt H' a xs := x.imp (s _ _) (s _ _)
theorem SeqAt.sq {K : W.Frag} {H : Hp} {a : Addr} {xs : List V} (x : SeqAt H a xs) : SqL K H a xs ∨ SqT K H a xs := x.imp SqL.of SqT.of
/-- the walk of enumerate over a list or a tuple -/
theorem en_for {K : W.Frag} {a : Addr} {xs : List V} {g : TG} {tb : TS} {D : Ends} {σ : L2.St} {H : Hp} (Pv : Nat → L2.St → Hp → Prop) (sq : SeqAt H a xs) (h0 : Pv 0 σ H)
    (hG : ∀ i σ' H', i ≤ xs.length → Pv i σ' H' → ∀ o, H a = some o → H' a = some o)
    (hs : ∀ i x σ' H' T, xs[i]? = some x → Pv i σ' H' → H' T = none → g (.ref T) σ' (upd H' T (.tup [.int (i : Nat), x])) fun σ2 H2 => tb { D with nx := Pv (i + 1), ct := Pv (i + 1), bk := D.nx } σ2 H2) (hd : ∀ σ' H', Pv xs.length σ' H' → D.nx σ' H') :
    (∃ ys : List V, SqL K H a ys ∧ ∃ W : Nat → Nat → L2.St → Hp → Prop, (∃ m, W 0 m σ H) ∧ ∀ i m σ H, W i m σ H →
      ((Ite K a).stop i H ∧ D.nx σ H) ∨ ((Ite K a).go i H ∧ ∃ N : L2.St → Hp → Prop, (∀ σ' H', N σ' H' → ∃ m', m' < m ∧ W (i + 1) m' σ' H') ∧ ∀ x H', (Ite K a).yld i H x H' → g x σ H' fun σ2 H2 => tb { D with nx := N, ct := N, bk := D.nx } σ2 H2)) ∨
    (∃ ys : List V, SqT K H a ys ∧ ∃ W : Nat → Nat → L2.St → Hp → Prop, (∃ m, W 0 m σ H) ∧ ∀ i m σ H, W i m σ H →
      ((Iet K a).stop i H ∧ D.nx σ H) ∨ ((Iet K a).go i H ∧ ∃ N : L2.St → Hp → Prop, (∀ σ' H', N σ' H' → ∃ m', m' < m ∧ W (i + 1) m' σ' H') ∧ ∀ x H', (Iet K a).yld i H x H' → g x σ H' fun σ2 H2 => tb { D with nx := N, ct := N, bk := D.nx } σ2 H2)) := by
  have step : ∀ (i : Nat) (x : V) (σ' : L2.St) (H' H'' : Hp), i < xs.length → Pv i σ' H' → YPair (fun i => some (.int (i : Nat))) (fun i => xs[i]?) i H' x H'' → g x σ' H'' fun σ2 H2 => tb { D with nx := Pv (i + 1), ct := Pv (i + 1), bk := D.nx } σ2 H2 := by
    rintro i x σ' H' H'' hi p ⟨t, y, z, rfl, nt, rfl, hy, hz⟩
    cases hy
    exact hs i z σ' H' t hz p nt
  rcases sq with e | e
  · exact .inl ⟨xs, SqL.of e, for_it (walk_enum (xs := xs)) Pv h0 (fun i σ' H' hi p => SqL.of (hG i σ' H' hi p _ e)) step hd⟩
  · exact .inr ⟨xs, SqT.of e, for_it (walk_enumT (xs := xs)) Pv h0 (fun i σ' H' hi p => SqT.of (hG i σ' H' hi p _ e)) step hd⟩
/-- what is walked in one of two ways -/
def iOr (a b : TI) : TI := fun σ H R => a σ H R ∨ b σ H R
theorem PI_or {X : Cx} {tg e : Expr} {a b : TI} (ha : PI X tg e a) (hb : PI X tg e b) : PI X tg e (iOr a b) where
  run := fun pins s σ H R I h => h.elim (ha.run pins s σ H R I) (hb.run pins s σ H R I)
/-- a comprehension over a local that is a list or a tuple -/
theorem lc_seq {K : W.Frag} {j : Nat} {a : Addr} {xs : List V} {g : TG} {tt : TT} {te : TE} {vs : List Nat} {σ : L2.St} {H : Hp} {Q : VK} (Pv : Addr → Nat → Hp → Prop) (hv : σ[j]? = some (some (.ref a))) (sq : SeqAt H a xs)
    (h0 : ∀ D, H D = none → Pv D 0 (upd H D (.lst []))) (hG : ∀ D i H', H D = none → i ≤ xs.length → Pv D i H' → ∀ o, H a = some o → H' a = some o)
    (hs : ∀ D i x H', H D = none → xs[i]? = some x → Pv D i H' → g x (wipe σ vs) H' fun σ2 H2 => wipe σ2 vs = wipe σ vs ∧ tt σ2 H2 fun b H3 =>
      if b = true then te σ2 H3 fun y H4 => ∃ acc, H4 D = some (.lst acc) ∧ acc.length < sizeLine ∧ Pv D (i + 1) (upd H4 D (.lst (acc ++ [y]))) else Pv D (i + 1) H3)
    (hd : ∀ D H', H D = none → Pv D xs.length H' → Q (.ref D) H') : tLc (iOr (iList K (tVar j)) (iTup K (tVar j))) g tt te vs σ H Q := by
  rcases sq with e | e
  · exact .inl ⟨_, hv, a, rfl, ⟨xs, SqL.of e⟩, fun D nD => lc_list (xs := xs) (Pv D) (h0 D nD) (fun i H' hi z => SqL.of (hG D i H' nD hi z _ e)) (fun i x H' hx p => hs D i x H' nD hx p) (fun H' p => hd D H' nD p)⟩
  · exact .inr ⟨_, hv, a, rfl, ⟨xs, SqT.of e⟩, fun D nD => lc_tup (xs := xs) (Pv D) (h0 D nD) (fun i H' hi z => SqT.of (hG D i H' nD hi z _ e)) (fun i x H' hx p => hs D i x H' nD hx p) (fun H' p => hd D H' nD p)⟩
/-- a target in one of two ways -/
def gOr (a b : TG) : TG := fun v σ H Q => a v σ H Q ∨ b v σ H Q
theorem PG_or {X : Cx} {tg : Expr} {a b : TG} (ha : PG X tg a) (hb : PG X tg b) : PG X tg (gOr a b) where
  run := fun pins s σ H v u Q I r h => h.elim (ha.run pins s σ H v u Q I r) (hb.run pins s σ H v u Q I r)
theorem ix_sq {K : W.Frag} {H : Hp} {a : Addr} {xs : List V} {i : Int} {x : V} {Q : VK} (sq : SeqAt H a xs) (e : atI xs i = some x) (q : Q x H) : rIx K (.ref a) (.int i) H Q := by
  rcases sq with h | h
  · exact .inl ⟨a, xs, i, x, rfl, rfl, SqL.of h, e, q⟩
  · exact .inr (.inl ⟨a, xs, i, x, rfl, rfl, SqT.of h, e, q⟩)
theorem un_sq {K : W.Frag} {H : Hp} {a : Addr} {xs : List V} {n : Nat} {t : TGs} {σ : L2.St} {Q : L2.St → Hp → Prop} (sq : SeqAt H a xs) (e : xs.length = n) (q : t xs σ H Q) : gOr (gTup K n t) (gUnl K n t) (.ref a) σ H Q := by
  rcases sq with h | h
  · exact .inr ⟨a, xs, rfl, SqL.of h, e, q⟩
  · exact .inl ⟨a, xs, rfl, SqT.of h, e, q⟩
end Sqx

/-! what is written down: each thing in a list of them has a property that stays -/
namespace Gvx
open PySem PySem.Spec PyProof.Rows L2
def Stay (I : Hp → Prop) : Prop := ∀ H H', Same H H' → I H → I H'
def StayV (W : Hp → V → Prop) : Prop := ∀ H H' x, Same H H' → W H x → W H' x
def Gv (I : Hp → Prop) (W : Hp → V → Prop) (t : TE) (σ : L2.St) : Prop := ∀ (H : Hp) (Q : VK), I H → (∀ x H', Same H H' → W H' x → Q x H') → t σ H Q
def Gvs (I : Hp → Prop) (W : Hp → V → Prop) (ta : TA) (σ : L2.St) (n : Nat) : Prop := ∀ (H : Hp) (Q : List V → Hp → Prop), I H → (∀ xs H', Same H H' → xs.length = n → (∀ x, x ∈ xs → W H' x) → Q xs H') → ta σ H Q
def Gx (ta : TA) (σ : L2.St) (vals : List V) : Prop := ∀ (H : Hp) (Q : List V → Hp → Prop), Q vals H → ta σ H Q
section
variable {I : Hp → Prop} {W : Hp → V → Prop} {t : TE} {ta : TA} {σ : L2.St} {n : Nat} {vals xs : List V} {H : Hp} {Q : VK}
theorem gx_nil : Gx tNil σ [] := fun _ _ q => q
theorem gx_c {v : V} (g : Gx ta σ vals) : Gx (tCons (tC v) ta) σ (v :: vals) := fun H Q q => g H (fun xs H2 => Q (v :: xs) H2) q
theorem gx_v {i : Nat} {v : V} (g : Gx ta σ vals) (e : σ[i]? = some (some v)) : Gx (tCons (tVar i) ta) σ (v :: vals) := fun H Q q => ⟨v, e, g H (fun xs H2 => Q (v :: xs) H2) q⟩
theorem gv_c {v : V} (h : ∀ H, I H → W H v) : Gv I W (tC v) σ := fun H Q i k => k v H (Same.refl _) (h H i)
theorem gv_tup (g : Gx ta σ vals) (few : vals.length ≤ sizeLine) (h : ∀ H a, I H → H a = none → W (upd H a (.tup vals)) (.ref a)) : Gv I W (tTup ta) σ := fun H Q i k =>
  g H _ ⟨few, fun p np => k _ _ (fun b u e => by rw [upd_ne (ne_of_none e np)]; exact e) (h H p i np)⟩
theorem gv_lst (g : Gx ta σ vals) (few : vals.length ≤ sizeLine) (h : ∀ H a, I H → H a = none → W (upd H a (.lst vals)) (.ref a)) : Gv I W (tLst ta) σ := fun H Q i k =>
  g H _ ⟨few, fun p np => k _ _ (fun b u e => by rw [upd_ne (ne_of_none e np)]; exact e) (h H p i np)⟩
theorem gvs_nil : Gvs I W tNil σ 0 := fun H Q _ k => k [] H (Same.refl _) rfl (fun _ h => nomatch h)
theorem gvs_cons (sI : Stay I) (sW : StayV W) (g : Gv I W t σ) (gs : Gvs I W ta σ n) : Gvs I W (tCons t ta) σ (n + 1) := fun H Q i k =>
  g H _ i fun x H1 s1 w1 => gs H1 _ (sI _ _ s1 i) fun xs H2 s2 l2 all => k (x :: xs) H2 (s1.trans s2) (by rw [List.length_cons, l2]) fun y hy => by
    rcases List.mem_cons.mp hy with z | z
    · rw [z]
      exact sW _ _ _ s2 w1
    · exact all y z
/-- a list of them -/
theorem lst_gv (sW : StayV W) (g : Gvs I W ta σ n) (i : I H) (few : n ≤ sizeLine) (k : ∀ xs H' l, Same H H' → H l = none → H' l = some (.lst xs) → xs.length = n → (∀ x, x ∈ xs → W H' x) → Q (.ref l) H') : tLst ta σ H Q :=
  g H _ i fun xs H1 s1 l1 all => ⟨by omega, fun p np => by
    have s2 : Same H1 (upd H1 p (.lst xs)) := fun b u e => by rw [upd_ne (ne_of_none e np)]; exact e
    exact k xs _ p (s1.trans s2) (s1.free np) upd_same l1 fun x hx => sW _ _ _ s2 (all x hx)⟩
/-- a list and one of them -/
theorem cat_gv {j : Nat} {l : Addr} (sW : StayV W) (hv : σ[j]? = some (some (.ref l))) (hl : H l = some (.lst xs)) (aw : ∀ x, x ∈ xs → W H x) (g : Gvs I W ta σ n) (i : I H) (few : xs.length + n ≤ sizeLine)
    (k : ∀ ys H' p, Same H H' → H p = none → H' p = some (.lst ys) → ys.length = xs.length + n → (∀ x, x ∈ ys → W H' x) → Q (.ref p) H') : tOp rCat (tVar j) (tLst ta) σ H Q :=
  ⟨_, hv, lst_gv sW g i (by omega) fun zs H1 m s1 nm hm lm all => ⟨l, m, xs, zs, rfl, rfl, s1 _ _ hl, hm, by omega, fun p np => by
    have s2 : Same H1 (upd H1 p (.lst (xs ++ zs))) := fun b u e => by rw [upd_ne (ne_of_none e np)]; exact e
    refine k _ _ p (s1.trans s2) (s1.free np) upd_same (by rw [List.length_append, lm]) fun x hx => ?_
    rcases List.mem_append.mp hx with z | z
    · exact sW _ _ _ (s1.trans s2) (aw x z)
    · exact sW _ _ _ s2 (all x z)⟩⟩
theorem seq_set {te : TE} {i : Nat} {T : TS} {D : Ends} (h : te σ H fun x H1 => T D (σ.set i (some x)) H1) : tSeq (tAsg te (gName i)) T D σ H := h
theorem ret_of {te : TE} {D : Ends} (h : te σ H D.rt) : tRet te D σ H := h
end
end Gvx

/-! a comprehension over enumerate of a list or a tuple; the places at which something holds -/
namespace Sqx
open PySem PySem.Spec PyProof.Rows L2
open EnuT
theorem en_lc {K : W.Frag} {a : Addr} {xs : List V} {g : TG} {tt : TT} {te : TE} {vs : List Nat} {σ : L2.St} {H : Hp} {Q : VK} {ta : TA} (Pv : Addr → Nat → Hp → Prop) (hta : ∀ R : List V → Hp → Prop, R [.ref a] H → ta σ H R) (sq : SeqAt H a xs)
    (h0 : ∀ D, H D = none → Pv D 0 (upd H D (.lst []))) (hG : ∀ D i H', H D = none → i ≤ xs.length → Pv D i H' → ∀ o, H a = some o → H' a = some o)
    (hs : ∀ D i x H' T, H D = none → xs[i]? = some x → Pv D i H' → H' T = none → g (.ref T) (wipe σ vs) (upd H' T (.tup [.int (i : Nat), x])) fun σ2 H2 => wipe σ2 vs = wipe σ vs ∧ tt σ2 H2 fun b H3 =>
      if b = true then te σ2 H3 fun y H4 => ∃ acc, H4 D = some (.lst acc) ∧ acc.length < sizeLine ∧ Pv D (i + 1) (upd H4 D (.lst (acc ++ [y]))) else Pv D (i + 1) H3)
    (hd : ∀ D H', H D = none → Pv D xs.length H' → Q (.ref D) H') :
    tLc (iEnS K ta) g tt te vs σ H Q := by
  have step : ∀ (D : Addr), H D = none → ∀ (i : Nat) (x : V) (H' H'' : Hp), i < xs.length → Pv D i H' → YPair (fun i => some (.int (i : Nat))) (fun i => xs[i]?) i H' x H'' → g x (wipe σ vs) H'' fun σ2 H2 => wipe σ2 vs = wipe σ vs ∧ tt σ2 H2 fun b H3 =>
      if b = true then te σ2 H3 fun y H4 => ∃ acc, H4 D = some (.lst acc) ∧ acc.length < sizeLine ∧ Pv D (i + 1) (upd H4 D (.lst (acc ++ [y]))) else Pv D (i + 1) H3 := by
    rintro D nD i x H' H'' hi p ⟨t, y, z, rfl, nt, rfl, hy, hz⟩
    cases hy
    exact hs D i z H' t nD hz p nt
  rcases sq with e | e
  · exact hta _ ⟨a, rfl, .inl ⟨xs, SqL.of e, fun D nD => lc_it (walk_enum (xs := xs)) (Pv D) (h0 D nD) (fun i H' hi p => SqL.of (hG D i H' nD hi p _ e)) (step D nD) (fun H' p => hd D H' nD p)⟩⟩
  · exact hta _ ⟨a, rfl, .inr ⟨xs, SqT.of e, fun D nD => lc_it (walk_enumT (xs := xs)) (Pv D) (h0 D nD) (fun i H' hi p => SqT.of (hG D i H' nD hi p _ e)) (step D nD) (fun H' p => hd D H' nD p)⟩⟩
/-- the places, from k on, at which f holds -/
def ixsV {α : Type} (f : α → Bool) (k : Nat) : List α → List V
  | [] => []
  | x :: xs => (if f x = true then [V.int (k : Nat)] else []) ++ ixsV f (k + 1) xs
theorem ixsV_snoc {α : Type} (f : α → Bool) (x : α) : ∀ (k : Nat) (xs : List α), ixsV f k (xs ++ [x]) = ixsV f k xs ++ if f x = true then [V.int ((k + xs.length : Nat) : Int)] else []
  | k, [] => by simp [ixsV]
  | k, y :: ys => by
    show _ ++ ixsV f (k + 1) (ys ++ [x]) = (_ ++ ixsV f (k + 1) ys) ++ _
    rw [ixsV_snoc f x (k + 1) ys, List.append_assoc, List.length_cons, show k + 1 + ys.length = k + (ys.length + 1) from by omega]
theorem ixsV_take {α : Type} {f : α → Bool} {xs : List α} {i : Nat} {x : α} (h : xs[i]? = some x) : ixsV f 0 (xs.take (i + 1)) = ixsV f 0 (xs.take i) ++ if f x = true then [V.int ((i : Nat) : Int)] else [] := by
  obtain ⟨hi, rfl⟩ := List.getElem?_eq_some_iff.mp h
  rw [List.take_succ_eq_append_getElem hi, ixsV_snoc, List.length_take, Nat.min_eq_left (Nat.le_of_lt hi), Nat.zero_add]
theorem ixsV_len {α : Type} (f : α → Bool) : ∀ (k : Nat) (xs : List α), (ixsV f k xs).length ≤ xs.length
  | _, [] => Nat.le_refl _
  | k, x :: xs => by
    have := ixsV_len f (k + 1) xs
    show ((if f x = true then [V.int (k : Nat)] else []) ++ ixsV f (k + 1) xs).length ≤ xs.length + 1
    rw [List.length_append]
    split
    · rw [List.length_singleton]
      omega
    · rw [List.length_nil]
      omega
theorem ixsV_map {α β : Type} (f : β → Bool) (g : α → β) : ∀ (k : Nat) (xs : List α), ixsV f k (xs.map g) = ixsV (fun x => f (g x)) k xs
  | _, [] => rfl
  | k, x :: xs => by
    show _ ++ ixsV f (k + 1) (xs.map g) = _ ++ _
    rw [ixsV_map f g (k + 1) xs]
end Sqx

/-! data that can be laid and compared -/
namespace Lay
open PySem PySem.Spec PyProof.Rows L2
structure Lay (n : Nat) (d : PyData) : Prop where
  c : d.canLay0 = true
  d : d.depth ≤ n
theorem str {x : Str} (h : PyData.strOk x = true) : Lay 0 (.str x) := ⟨by simp only [PyData.canLay0, h], by simp [PyData.depth]⟩
theorem int (i : Int) : Lay 0 (.int i) := ⟨by simp [PyData.canLay0], by simp [PyData.depth]⟩
theorem bl (b : Bool) : Lay 0 (.bool b) := ⟨by simp [PyData.canLay0], by simp [PyData.depth]⟩
theorem non : Lay 0 .none := ⟨by simp [PyData.canLay0], by simp [PyData.depth]⟩
theorem all {n : Nat} : ∀ {xs : List PyData}, (∀ x, x ∈ xs → Lay n x) → PyData.canLayAll0 xs = true ∧ PyData.depthAll xs ≤ n
  | [], _ => ⟨by simp [PyData.canLayAll0], by simp [PyData.depthAll]⟩
  | x :: xs, h => by
    obtain ⟨h1, h2⟩ := all fun y hy => h y (List.mem_cons_of_mem _ hy)
    obtain ⟨e1, e2⟩ := h x (List.mem_cons_self ..)
    exact ⟨by rw [PyData.canLayAll0, e1, h1]; rfl, by rw [PyData.depthAll]; omega⟩
theorem tup {n : Nat} {xs : List PyData} (h : ∀ x, x ∈ xs → Lay n x) : Lay (n + 1) (.tuple xs) := by
  obtain ⟨h1, h2⟩ := all h
  exact ⟨by simp only [PyData.canLay0, h1], by simp only [PyData.depth]; omega⟩
theorem lst {n : Nat} {xs : List PyData} (h : ∀ x, x ∈ xs → Lay n x) : Lay (n + 1) (.list xs) := by
  obtain ⟨h1, h2⟩ := all h
  exact ⟨by simp only [PyData.canLay0, h1], by simp only [PyData.depth]; omega⟩
theorem Lay.up {n m : Nat} {d : PyData} (h : Lay n d) (l : n ≤ m := by decide) : Lay m d := ⟨h.c, Nat.le_trans h.d l⟩
theorem Lay.shaped {n : Nat} {d : PyData} (h : Lay n d) (l : n ≤ 64 := by decide) : SeqAt.shaped d = true := by
  simp only [SeqAt.shaped, h.c, Bool.true_and, decide_eq_true_eq]
  exact Nat.le_trans h.d l
theorem Lay.refl {n : Nat} {d : PyData} (h : Lay n d) : PyData.eqv d d = true := PySem.SeqAt.eqv_refl d h.c
end Lay

/-! a comprehension whose element may raise: its block says what may fly out of it (BlkE), and out_of brings that to the def around it -/
namespace Cxx
open PySem PySem.Spec PyProof.Rows L2
def BlkE (X : Cx) (s : Shared) (H : Hp) (scope : Scope) (ce : Env) (fp : List Addr) (Eb : XK) (u : Value) (s' : Shared) : Prop :=
  ∃ pb σb Hb s1, Inv (X.blk s H scope ce fp) pb σb Hb s1 ∧ L2.CX X.prog X.w X.stack Hb s1 Eb u s'
abbrev blkX (X : Cx) (s : Shared) (H : Hp) (scope : Scope) (ce : Env) (fp : List Addr) (Eb : XK) : Cx := { X.blk s H scope ce fp with xe := BlkE X s H scope ce fp Eb }
theorem other_xe {Y : Cx} {e e' : Value → Shared → Prop} {pins : List (Addr × Obj)} {σ : L2.St} {H : Hp} {s : Shared} (I : Inv { Y with xe := e } pins σ H s) : Inv { Y with xe := e' } pins σ H s := by
  obtain ⟨k, b1, b2, b3, b4, b5, b6, b7, b8, b9, b10⟩ := I
  obtain ⟨a1, a2, a3, a4, a5, a6, a7, a8, a9, a10, a11, a12, a13, a14, a15, a16, a17, a18⟩ := k
  exact ⟨⟨a1, a2, a3, a4, a5, a6, a7, a8, a9, a10, a11, a12, a13, a14, a15, a16, a17, a18⟩, b1, b2, b3, b4, b5, b6, b7, b8, b9, b10⟩
theorem pass_blk {X : Cx} {s : Shared} {H : Hp} {scope : Scope} {ce : Env} {fp : List Addr} {Eb : XK} : Passes (L2.CX X.prog X.w) (blkX X s H scope ce fp Eb) Eb :=
  fun pb σb Hb s1 _ _ I c => ⟨pb, σb, Hb, s1, other_xe I, c⟩
/-- of h what B or F names, but C -/
theorem part (h B : Heap) (C : Addr) (F : List Addr) : ∃ G : Heap, ∀ b o, G.get? b = some o ↔ (b ≠ C ∧ h.get? b = some o ∧ ((∃ z, B.get? b = some z) ∨ b ∈ F)) := by
  classical
  obtain ⟨G, yes, no⟩ := restrict h fun b => decide (b ≠ C ∧ ((∃ z, B.get? b = some z) ∨ b ∈ F))
  refine ⟨G, fun b o => ?_⟩
  by_cases m : b ≠ C ∧ ((∃ z, B.get? b = some z) ∨ b ∈ F)
  · rw [yes b (decide_eq_true m)]
    exact ⟨fun e => ⟨m.1, e, m.2⟩, fun e => e.2.1⟩
  · rw [no b (decide_eq_false m)]
    exact ⟨fun e => (nomatch e), fun e => absurd ⟨e.1, e.2.2⟩ m⟩
/-- noted still, when the names at C are gone -/
theorem held_on {B B0 h h2 : Heap} {l : List Env} {a C L : Addr} {Z : Obj → Prop} {m m2 : Str → Option Value} (x : HandSPX.HeldZ B l a Z L h) (hB : ∀ b o, B0.get? b = some o ↔ (b ≠ C ∧ B.get? b = some o ∧ ((∃ z, B.get? b = some z) ∨ b ∈ ([] : List Addr))))
    (n : h.Ns C m) (n2 : h2.Ns C m2) (sb : Heap.SameBut C h h2) : HandSPX.HeldZ B0 l a Z L h2 := by
  have gone : ∀ b, B.get? b = none → B0.get? b = none := fun b e => by
    cases q : B0.get? b with
    | none => rfl
    | some o => rw [((hB b o).mp q).2.1] at e; cases e
  have rec_ne : ∀ {b o vs}, h.get? b = some o → o.data = .fields vs → h2.get? b = some o := fun {b o vs} e d => by
    rw [sb.2 b (fun z => by obtain ⟨oC, _, _, eC, dC, _⟩ := n; rw [z, eC] at e; cases e; rw [dC] at d; cases d)]
    exact e
  obtain ⟨stay, out, ff, oe, vs, T, oT, ts, ea, za, da, v1, nT, ne, eT, dT, t3⟩ := x
  refine ⟨fun b o e => ?_, gone a out, Heap.FunFrames.sameBut sb n2 (funFrames_none ff fun b hb => gone b (ff.mem hb).1), oe, vs, T, oT, ts, rec_ne ea da, za, da, v1, gone T nT, ne, rec_ne eT dT, dT, t3⟩
  obtain ⟨bC, e, _⟩ := (hB b o).mp e
  exact (sb.2 b bC).trans (stay b o e)
/-- what flies out of the element's call reaches the def around -/
theorem out_of {X : Cx} {W : WX} {s3 s' : Shared} {H3 : Hp} {scope : Scope} {ce : Env} {fp : List Addr} {Eb : XK} {pins : List (Addr × Obj)} {σ : L2.St} {u : Value} (hst : X.stack = X.env :: X.outer) (hfl : X.env.frame = some X.env.locals) (tk : Takes X W) (hW : ∀ cls d σ H, Eb cls d H → W cls d σ H)
    (I3 : Inv X pins σ H3 s3) (f3 : ∀ b ∈ fp, FpOk X pins H3 b ∧ b < s3.heap.objs.size) (cF : ce.frame = X.env.frame) (cL : ce.locals = s3.heap.objs.size) (h : BlkE X s3 H3 scope ce fp Eb u s') :
    notedBy (model X.prog X.w) X.A ce (CompFails (model X.prog X.w) X.A X.xe ce) u s' := by
  obtain ⟨pb, σb, Hb, s1, Ib, a, B, H', cls, d, rfl, fl, hB, ub, fresh, os, gens, want⟩ := h
  have old : ∀ b o, s3.heap.get? b = some o → b ≠ ce.locals := fun b o e z => absurd (Heap.lt_size e) (by rw [z, cL]; exact Nat.lt_irrefl _)
  have noFr : ce.locals ∉ frs X.stack := fun z => by
    obtain ⟨_, o, e, _⟩ := I3.stack.mem z
    exact old _ o e rfl
  have HbC : Hb ce.locals = none := Ib.free
  obtain ⟨m, ⟨oC, es, ep, eC, dC, rC⟩, _⟩ := Ib.loc
  have eC : s1.heap.get? ce.locals = some oC := eC
  have H'C : H' ce.locals = none := ub.free _ _ eC HbC
  unfold notedBy
  rw [noteFrame_env _ cF]
  refine HandSPX.looks_onZ Zc.steady (by rw [I3.ok.frames, hst]) hfl (by rw [← hst]; exact fl) fun h5 held up5 => ?_
  rw [← hst] at held
  have n5 : h5.Ns ce.locals m := Heap.Ns.upToSlots (h := s'.heap) ⟨oC, es, ep, fl.1 _ _ (ub.keep _ _ eC HbC noFr), dC, rC⟩ up5
  refine ⟨m, n5, fun h6 m6 n6 sb6 => ?_⟩
  obtain ⟨B0, hB0⟩ := part B B ce.locals []
  have held6 := held_on held hB0 n5 n6 sb6
  obtain ⟨oe, vs, T, _, _, ea, _, da, v1, _⟩ := held6.2.2.2
  show wpAny _ X.A (PySem.passOn _ _ ce) _ _ _
  unfold PySem.passOn
  refine wpAny_bind (wpAny_field ea da v1 ?_)
  rw [if_neg (by simp), cF, hfl]
  refine wpAny_bind (HandSPX.setFlight_onZ held6 fun h7 held7 up7 => wpAny_throw ?_)
  obtain ⟨G, hG⟩ := part s'.heap B ce.locals (frs X.stack)
  have base : Un (frs X.stack) fp H3 Hb s3.heap s1.heap := Ib.base
  have keepB : ∀ {b o}, b ≠ ce.locals → B.get? b = some o → G.get? b = some o := fun {b o} ne e => (hG b o).mpr ⟨ne, fl.1 b o e, .inl ⟨o, e⟩⟩
  have keepF : ∀ {b o}, b ∈ frs X.stack → s'.heap.get? b = some o → G.get? b = some o := fun {b o} hb e => (hG b o).mpr ⟨fun z => noFr (z ▸ hb), e, .inr hb⟩
  have hokG : HOk X.prog X.w H' G := fun b o e => (hB b o e).stay (fun c v hc ev => keepB (fun z => by
    subst z
    rcases hc with hc | hc
    · rw [hc, e] at H'C; cases H'C
    · rw [hc] at H'C; cases H'C) ev) (fun _ z => z) (fun _ _ z => z)
  have un : Un (frs X.stack) fp H3 H' s3.heap G := {
    keep := fun b o e n nf nx => keepB (old b o e) (ub.keep b o (base.keep b o e n nf nx) (base.free b o e n nx) nf)
    slot := fun b o e n yf nx => by
      obtain ⟨_, e1⟩ := base.slot b o e n yf nx
      obtain ⟨sl, e2⟩ := ub.slot b _ e1 yf
      exact ⟨sl, keepF yf e2⟩
    free := fun b o e n nx => by
      obtain ⟨o1, e1⟩ := base.there b o e nx
      exact ub.free b o1 e1 (base.free b o e n nx)
    there := fun b o e nx => by
      obtain ⟨o1, e1⟩ := base.there b o e nx
      by_cases yf : b ∈ frs X.stack
      · obtain ⟨_, e2⟩ := ub.slot b o1 e1 yf
        exact ⟨_, keepF yf e2⟩
      · obtain ⟨o2, e2⟩ := ub.there b o1 e1 yf
        exact ⟨o2, keepB (old b o e) e2⟩
    tups := fun b xs e => ub.tups b xs (base.tups b xs e)
    frzs := fun b o xs e => ub.frzs b o xs (base.frzs b o xs e)
    tbls := fun b ps e => by
      obtain ⟨x1, e1⟩ := base.tbls b ps e
      obtain ⟨x2, e2⟩ := ub.tbls b _ e1
      exact ⟨x1 ++ x2, by rw [e2, Array.append_assoc]⟩ }
  have J : Inv X pins σ H' { s3 with heap := G, gens := s'.gens, drawn := s'.drawn, toks := s'.toks } :=
    I3.call' (ch := fp) rfl un hokG gens fun b hb => by
      obtain ⟨_, x1, _, x2, x3, x4⟩ := (f3 b hb).1
      exact ⟨x2, x1, x3, x4⟩
  refine tk _ _ ⟨a, B0, _, pins, σ, H', cls, d, rfl, J, fun b o e nf => ?_, fun b o e nd => ?_, .inr (.inr held7), fresh, os.trans Ib.os, gens, hW _ _ _ _ want⟩
  · obtain ⟨bC, e1, (⟨o1, e2⟩ | yf)⟩ := (hG b o).mp e
    · have e3 := fl.1 b o1 e2
      rw [e1] at e3
      cases e3
      exact (hB0 b o).mpr ⟨bC, e2, .inl ⟨o, e2⟩⟩
    · exact absurd yf nf
  · obtain ⟨bC, e1, _⟩ := (hG b o).mp e
    obtain ⟨sl, e5⟩ := up5 b o e1 nd
    exact up7 b { o with slots := sl } ((sb6.2 b bC).trans e5) nd |>.imp fun sl2 e7 => e7
/-- the loop of the block -/
theorem loop_runs {X : Cx} {W : WX} {Eb : XK} {pins : List (Addr × Obj)} {σ : L2.St} {H3 : Hp} {s3 s4 : Shared} {scope : Scope} {ce : Env} {fp : List Addr} {it D : Addr} {tn : Nat → Heap → Prop} {J : It} {elt tg iter : Expr} {ifs : List Expr} {pos : Pos} {g : TG} {tt : TT} {te : TE} {vs : List Nat} {Q : VK}
    {use : Option (Value → Sem Unit)} {Qf : Value → Shared → Prop} {Wd : Nat → Nat → Hp → Prop} {m0 : Nat} (hst : X.stack = X.env :: X.outer) (hfl : X.env.frame = some X.env.locals) (tk : Takes X W) (hW : ∀ cls d σ H, Eb cls d H → W cls d σ H) (calm : X.calm = true)
    (I3 : Inv X pins σ H3 s3) (f3 : ∀ b ∈ fp, FpOk X pins H3 b ∧ b < s3.heap.objs.size) (cF : ce.frame = X.env.frame) (cL : ce.locals = s3.heap.objs.size) (T : Turn X.prog X.w X.K tg J fp it tn)
    (pg : PG (X.blk s3 H3 scope ce fp) tg g) (pt : PTs (X.blk s3 H3 scope ce fp) ifs tt) (pe : PE (blkX X s3 H3 scope ce fp Eb) elt te) (I4 : Inv (X.blk s3 H3 scope ce fp) [] (wipe σ vs) H3 s4) (st4 : tn 0 s4.heap) (w0 : Wd 0 m0 H3)
    (turn : ∀ i m H, Wd i m H → (J.stop i H ∧ Q (.ref D) H) ∨ (J.go i H ∧ ∃ Nx : Hp → Prop, (∀ H', Nx H' → ∃ m', m' < m ∧ Wd (i + 1) m' H') ∧ ∀ x H', J.yld i H x H' → g x (wipe σ vs) H' fun σ2 H2 => wipe σ2 vs = wipe σ vs ∧ tt σ2 H2 fun b H3 =>
      if b = true then te σ2 H3 fun y H4 => ∃ acc, H4 D = some (.lst acc) ∧ acc.length < sizeLine ∧ Nx (upd H4 D (.lst (acc ++ [y]))) else Nx H3))
    (fin : ∀ s' m H', Inv X pins σ H' s' → Q (.ref D) H' → s'.heap.Ns ce.locals m → FpOk X pins H' ce.locals → compEnds (model X.prog X.w) X.A X.xe use Qf (.ref D) ce (.ok .next) s') :
    codeAny (model X.prog X.w) X.A (.compLoop (.ListComp elt [⟨tg, iter, ifs, 0⟩] scope pos) 0 (.ref it) (.ref D) ce) (compEnds (model X.prog X.w) X.A X.xe use Qf (.ref D) ce) s4 := by
  have spare : ∀ {σ' : L2.St} {H' : Hp} {s' : Shared}, Inv (X.blk s3 H3 scope ce fp) [] σ' H' s' → (∀ b ∈ fp, H' b = none) → ∀ b ∈ fp, FpOk (X.blk s3 H3 scope ce fp) [] H' b := fun {σ' H' s'} I no b hb => by
    obtain ⟨x1, x2⟩ := I.ok.exf b hb
    refine ⟨no b hb, x1, I.ok.exfs b hb, .inl hb, fun x c e => x2 x c e, fun p hp => ?_⟩
    cases hp
  refine compLoop_any (fun n s' => ∃ i H', (Inv (X.blk s3 H3 scope ce fp) [] (wipe σ vs) H' s' ∧ tn i s'.heap) ∧ (∀ b ∈ fp, H' b = none) ∧ Wd i n H') (fun n s5 z => ?_) m0 ⟨0, H3, ⟨I4, st4⟩, fun b hb => (f3 b hb).1.1, w0⟩
  obtain ⟨i, H5, ⟨I5, st5⟩, no5, w5⟩ := z
  rcases turn i n H5 w5 with ⟨stop, q⟩ | ⟨go, Nx, less, step⟩
  · refine thnF (T.done (X.blk s3 H3 scope ce fp) rfl rfl rfl calm i [] s5 _ H5 (fun _ _ => False) I5 (spare I5 no5) st5 stop) fun r s6 z => ?_
    obtain ⟨rfl, I6⟩ := z
    have I7 : Inv X pins σ H5 s6 := I3.call' (ch := fp) I6.os I6.base I6.hok I6.bare fun b hb => by
      obtain ⟨_, x1, _, x2, x3, x4⟩ := (f3 b hb).1
      exact ⟨x2, x1, x3, x4⟩
    obtain ⟨m, names, _⟩ := I6.loc
    have free : H5 ce.locals = none := I6.free
    exact fin s6 m H5 I7 q names (I3.fpOk (by rw [cL]; exact Nat.le_refl _) free)
  · refine thnF (T.item (X.blk s3 H3 scope ce fp) rfl rfl rfl calm i [] s5 _ H5 (fun _ _ => False) I5 (spare I5 no5) st5 go) fun r s6 z => ?_
    obtain ⟨u, rfl, z⟩ := z
    refine thnF z fun _ s7 z => ?_
    obtain ⟨x, H7, I7, rx, yx, st7, no7⟩ := z
    -- the iterator's objects stand where they stood
    have Ip := I7.pinned (spare I7 no7) (T.obj _ _ st7)
    have back : ∀ {s' : Shared} {σ' : L2.St} {H' : Hp}, wipe σ' vs = wipe σ vs → Inv (X.blk s3 H3 scope ce fp) ([] ++ pinsAt fp s7.heap) σ' H' s' → Nx H' → ∃ m, m < n ∧ ∃ i H', (Inv (X.blk s3 H3 scope ce fp) [] (wipe σ vs) H' s' ∧ tn i s'.heap) ∧ (∀ b ∈ fp, H' b = none) ∧ Wd i m H' := fun {s' σ' H'} hw I nx => by
      obtain ⟨m, lt, w⟩ := less H' nx
      have stands : ∀ b ∈ fp, ∀ o, s7.heap.get? b = some o → s'.heap.get? b = some o ∧ H' b = none := fun b hb o e => by
        obtain ⟨e1, e2, _⟩ := I.pin (b, o) (List.mem_append_right _ (mem_pinsAt (h := s7.heap) hb e))
        exact ⟨e1, e2⟩
      refine ⟨m, lt, i + 1, H', ⟨I.unpinned.weak (by rw [← hw, wipe_length]) fun j v e => ?_, T.keep _ _ _ st7 fun b hb o e => (stands b hb o e).1⟩, fun b hb => ?_, w⟩
      · rw [← hw] at e
        exact (wipe_some e).1
      · obtain ⟨o, e, _⟩ := T.obj _ _ st7 b hb
        exact (stands b hb o e).2
    refine thnF (pg.run _ s7 _ H7 x u _ Ip rx (step x H7 yx)) fun _ s8 z => ?_
    obtain ⟨σ8, H8, I8, hw, z⟩ := z
    refine thnF (pt.run _ s8 σ8 H8 _ I8 z) fun b s9 z => ?_
    obtain ⟨H9, I9, z⟩ := z
    cases b
    · exact back hw I9 z
    · refine wpAny_mono (pe.run _ s9 σ8 H9 _ (other_xe I9) z) (fun v s10 z => ?_) (fun u s' hu => out_of hst hfl tk hW I3 f3 cF cL hu)
      obtain ⟨y, H10, I10, ry, acc, at_D, few, nx⟩ := z
      exact app_ok (X := X.blk s3 H3 scope ce fp) (other_xe I10) at_D few ry fun s11 I11 => back hw I11 nx
/-- a list comprehension as a value; its element may raise what X takes -/
theorem pe_lcX {X : Cx} {W : WX} {Eb : XK} {elt tg iter : Expr} {ifs : List Expr} {scope : Scope} {own : List (Str × Nat)} {pos : Pos} {wi : TI} {g : TG} {tt : TT} {te : TE} (hst : X.stack = X.env :: X.outer) (hfl : X.env.frame = some X.env.locals) (tk : Takes X W)
    (hW : ∀ cls d σ H, Eb cls d H → W cls d σ H) (calm : X.calm = true) (nd : X.N.Nodup) (hi : PI X tg iter wi) (ok : BlkOk X.N X.env.scope scope own)
    (hg : ∀ s H C cl fp, PG (X.blk s H scope (compEnvC scope cl C X.env) fp) tg g) (ht : ∀ s H C cl fp, PTs (X.blk s H scope (compEnvC scope cl C X.env) fp) ifs tt) (he : ∀ s H C cl fp, PE (blkX X s H scope (compEnvC scope cl C X.env) fp Eb) elt te)
    (plain : ∀ x, foldedSetIterable iter X.env x = pure x := by intro _; rfl) : PE X (.ListComp elt [⟨tg, iter, ifs, 0⟩] scope pos) (tLc wi g tt te (own.map (·.2))) := by
  refine ⟨fun pins s σ H Q I h => ?_⟩
  rw [eval_ListComp]
  refine comprehension_at (use := none) rfl plain (closure_ok fun y hy e => ?_) ok.kind (fun y hy e => (ok.uniq y hy).trans (congrArg some e)) ?_
  · rcases ok.free y hy e with z | z
    · exact I.ok.has _ (.inl z)
    · exact I.ok.has _ (.inr z)
  refine thn (hi.run pins s σ H _ I h) fun xv s1 z => thn z fun itv s2 z => ?_
  obtain ⟨it, fp, tn, J, H2, rfl, I2, T, st, f2, z⟩ := z
  refine wpAny_newObj_type (newEnv_comp ?_) (Nat.zero_le _)
  have nD : H2 s2.heap.objs.size = none := I2.hok.fresh (Nat.le_refl _)
  obtain ⟨Wd, ⟨m0, w0⟩, turn⟩ := z _ nD
  have within : ∀ b ∈ fp, b < s2.heap.objs.size := fun b hb => by
    obtain ⟨_, e, _⟩ := T.obj _ _ st b hb
    exact Heap.lt_size e
  have I3 : Inv X pins σ (upd H2 s2.heap.objs.size (.lst [])) { s2 with heap := s2.heap.push { cls := .type "list", data := .seq ([] : List Value).toArray } } :=
    I2.laid (t' := s2.toks) (fun b o e => Heap.get?_push_of_some _ e) (Nat.le_refl _) ⟨Nat.zero_le _, [], 0, .nil, Heap.get?_push_size _ rfl⟩
  have f3 : ∀ b ∈ fp, FpOk X pins (upd H2 s2.heap.objs.size (.lst [])) b ∧ b < ({ s2 with heap := s2.heap.push { cls := .type "list", data := .seq ([] : List Value).toArray } } : Shared).heap.objs.size := fun b hb => by
    obtain ⟨x1, x2⟩ := f2 b hb
    refine ⟨⟨?_, x2⟩, ?_⟩
    · rw [upd_ne (Nat.ne_of_lt (within b hb))]
      exact x1
    · show b < (s2.heap.push _).objs.size
      rw [Heap.size_push]
      exact Nat.lt_succ_of_lt (within b hb)
  have st3 := T.keep _ _ (s2.heap.push { cls := .type "list", data := .seq ([] : List Value).toArray }) st fun b _ o e => Heap.get?_push_of_some _ e
  generalize hs3 : ({ s2 with heap := s2.heap.push { cls := .type "list", data := .seq ([] : List Value).toArray } } : Shared) = s3 at I3 f3
  have h3 : s3.heap = s2.heap.push { cls := .type "list", data := .seq ([] : List Value).toArray } := by rw [← hs3]
  rw [← h3] at st3
  have st4 : tn 0 (pushCells (s3.heap.push { cls := .type "dict", data := .dict #[] }) scope.names) := T.keep _ _ _ st3 fun b _ o e => pushCells_keeps _ _ _ _ (Heap.get?_push_of_some _ e)
  refine codeAny_compStart_list ?_ (T.self X.A 0 _ _ _ st4 ?_) <;>
    exact loop_runs hst hfl tk hW calm I3 f3 rfl rfl T (hg _ _ _ _ _) (ht _ _ _ _ _) (he _ _ _ _ _) (block_start I3 ok nd f3) st4 w0 turn fun s' m H' I' q names f => ⟨m, names, fun h'' sb => by
      obtain ⟨x0, x1, x2, x3, x4, x5⟩ := f
      exact ⟨V.ref s2.heap.objs.size, H', I'.turned (t' := s'.toks) (fun b o hb e => (sb.2 b hb).trans e) x0 x1 x3 x4 x5, rfl, q⟩⟩
end Cxx

/-! x(lambda: body, e2) -/
namespace LamY
open PySem PySem.Spec PyProof.Rows L2 LamX
/-- the lambda at f runs from within the def Z that was given it -/
theorem lam_runs {X : Cx} {pins : List (Addr × Obj)} {σ : L2.St} {H HZ : Hp} {s s1 : Shared} {g f c' : Addr} {cdg pm ctv : Value} {qg : Str} {sg : Scope} {params : Arguments} {body : Expr} {scope : Scope} {k : Nat} {E : XK} {Q : VK} {tb : TE}
    (I : Inv X pins σ H s) (L : LamS X.env.scope scope) (un : Un (frs X.stack) [] H HZ s.heap s1.heap) (e0 : Env0 X.prog X.w X.K X.mg X.base (X.A.deeper (envOfC qg sg s.heap.objs.size g cdg)) (envOfC qg sg s.heap.objs.size g cdg :: X.stack) s1 HZ)
    (code : HZ c' = some (CodeO c' (X.env.qual ++ "<lambda>"))) (room : Room (k + 1) (X.A.deeper (envOfC qg sg s.heap.objs.size g cdg)))
    (there : s1.heap.get? f = some (W.kla_obj "<lambda>" (X.env.qual ++ "<lambda>") params body scope (cloFrom X.env.cells scope.names []) pm c' ctv))
    (none_bound : bindArgs (W.kla_fn "<lambda>" (X.env.qual ++ "<lambda>") params body scope (cloFrom X.env.cells scope.names []) pm (.ref c') ctv) ⟨[], []⟩ = pure [])
    (runs : ∀ A outer s H, Room k (A.deeper (lamEnv X scope s.heap.objs.size f c')) → PE (lamCx X A outer s H E scope f c') body tb) (want : tb σ HZ Q) :
    codeAny (model X.prog X.w) (X.A.deeper (envOfC qg sg s.heap.objs.size g cdg)) (.call (.ref f) ⟨[], []⟩) (CR (L2.CX X.prog X.w) (envOfC qg sg s.heap.objs.size g cdg :: X.stack) X.prog X.w HZ s1 Q E) s1 := by
  obtain ⟨⟨oc, vs, t, e1, e2, e3⟩, _, _⟩ := e0.hok c' _ code
  have free := e0.mod.nolimit.keeps fun b o e => (e0.bs b o e).1
  refine W.kla_callFunE room.depth there rfl L.co L.gen rfl ⟨c', oc, vs, t, rfl, e1, e2, e3⟩ ?_
  rw [none_bound]
  refine wpAny_pure (wpAny_newFunctionEnv (fun y hy => (L.own y hy).2) (fun _ hy => nomatch hy) (fun h2 ns sb => ⟨free.fresh _ sb, W.kla_codeExpr ?_⟩) L.kind)
  refine wpAny_mono ((runs _ _ s1 HZ (room.deeper _)).run [] _ _ HZ Q (lam_start2 I L e0 room.hd un ns fun b o e => sb.extBut b o (Nat.ne_of_lt (Heap.lt_size e)) (Heap.get?_push_of_some _ e)) want) (fun v s' z => ?_) fun _ _ z => z
  obtain ⟨w, H', J', r, q⟩ := z
  exact ⟨w, H', J'.os, J'.bare, J'.base, J'.hok, r, q⟩
/-- x(), where it stands: what it may raise is told of these very slots -/
theorem pe_act2 {X : Cx} {pins : List (Addr × Obj)} {σ : L2.St} {H : Hp} {s : Shared} {CXg : CXT} {Eg : XK} {Ng : List Str} {qg : Str} {sg : Scope} {g f c' : Addr} {cdg pm ctv : Value} {params : Arguments} {body : Expr} {scope : Scope} {k i : Nat} {a : Str} {pn : List (Addr × Obj)} {xe : Value → Shared → Prop} {Wx : L2.WX} {E : XK} {tb : TE} {p1 p2 : Pos}
    (I : Inv X pins σ H s) (L : LamS X.env.scope scope) (at_f : s.heap.get? f = some (W.kla_obj "<lambda>" (X.env.qual ++ "<lambda>") params body scope (cloFrom X.env.cells scope.names []) pm c' ctv)) (free : H f = none) (noFr : f ∉ frs X.stack)
    (none_bound : bindArgs (W.kla_fn "<lambda>" (X.env.qual ++ "<lambda>") params body scope (cloFrom X.env.cells scope.names []) pm (.ref c') ctv) ⟨[], []⟩ = pure [])
    (tk : Takes ((cxOf CXg X.prog X.w X.K X.mg X.base Ng qg sg g cdg X.A X.stack s H Eg).tr pn xe) Wx) (room : Room (k + 1) (X.A.deeper (envOfC qg sg s.heap.objs.size g cdg)))
    (runs : ∀ A outer s H, Room k (A.deeper (lamEnv X scope s.heap.objs.size f c')) → PE (lamCx X A outer s H E scope f c') body tb) (hN : Ng[i]? = some a) (vis : Vis sg a) (hd : (a == ("__debug__" : Str)) = false) (hc : (a == ("__classdict__" : Str)) = false) :
    PE ((cxOf CXg X.prog X.w X.K X.mg X.base Ng qg sg g cdg X.A X.stack s H Eg).tr pn xe) (.Call (.Name a p1) [] [] p2) (fun σZ HZ Q => σZ[i]? = some (some (.ref f)) ∧ HZ c' = some (CodeO c' (X.env.qual ++ "<lambda>")) ∧ (∀ cls d H', E cls d H' → Wx cls d σZ H') ∧ tb σ HZ Q) := by
  refine ⟨fun pz sz σz HZ Q IZ h => ?_⟩
  obtain ⟨slot, code, out, want⟩ := h
  refine wpAny_Call_Name_kw (thn ((pe_var (pos := p1) (i := i) hN vis hd hc).run pz sz σz HZ (fun v H1 => v = .ref f ∧ H1 = HZ) IZ ⟨_, slot, rfl, rfl⟩) fun u s1 z => ?_)
  obtain ⟨v, H1, I1, r, rfl, rfl⟩ := z
  obtain rfl : u = Value.ref f := r
  have there := I1.base.keep f _ at_f free noFr (fun z => nomatch z)
  refine W.callWith_F0 ⟨_, _, _, _, there⟩ (wpAny_call (codeAny_mono (lam_runs I L I1.base I1.env0 code room there none_bound runs want) fun res s2 z => ?_))
  match res, z with
  | .error e, z => exact tk e s2 (XE.of_call I1 out z)
  | .ok (.ret _), z => exact I1.after z
def GivesTo2 (X : Cx) (Ng : List Str) (x : Str) (sg : Scope) (g : Addr) (cdg : Value) (bg : List Stmt) (a : Str) (q : Str) (TT : V → (XK → Hp → VK → Prop) → Hp → VK → Prop) : Prop :=
  ∀ (f c' : Addr) (v : V) (s : Shared) (H : Hp) (Q : VK) (tl : XK → Hp → VK → Prop),
    (∀ (W : L2.WX) (pn : List (Addr × Obj)) (xe : Value → Shared → Prop) (E : XK) (p1 p2 : Pos), Takes ((cxOf C8.CX0 X.prog X.w X.K X.mg X.base Ng x sg g cdg X.A X.stack s H C8.E0).tr pn xe) W →
      PE ((cxOf C8.CX0 X.prog X.w X.K X.mg X.base Ng x sg g cdg X.A X.stack s H C8.E0).tr pn xe) (.Call (.Name a p1) [] [] p2) (fun σZ HZ Q => σZ[0]? = some (some (.ref f)) ∧ HZ c' = some (CodeO c' q) ∧ (∀ cls d H', E cls d H' → W cls d σZ H') ∧ tl E HZ Q)) →
    H c' = some (CodeO c' q) → TT v tl H Q →
    ∃ t, PSs (cxOf C8.CX0 X.prog X.w X.K X.mg X.base Ng x sg g cdg X.A X.stack s H C8.E0).nox bg t ∧ t { nx := fun _ H' => Q .non H', rt := Q } (L2.start Ng [.ref f, v]) H
def tLam2 (T : List (Addr × Str)) (TT : V → (XK → Hp → VK → Prop) → Hp → VK → Prop) (t : XK → TE) (te : TE) : TE := fun σ H Q => Tabs T H ∧ ∀ H1, ExtN H H1 → Tabs T H1 → te σ H1 fun v H2 => H2 = H1 ∧ TT v (fun E H' Q' => t E σ H' Q') H1 Q
section
variable {X : Cx}
theorem pe_lamcall2 {T : List (Addr × Str)} {TT : V → (XK → Hp → VK → Prop) → Hp → VK → Prop} {x a b : Str} {g c P : Addr} {k : Nat} {pg : Arguments} {bg : List Stmt} {sg : Scope} {dV kV doc pm cdv ct oc : Value} {an od : Option Addr} {osl : Array (Option Value)} {Ng : List Str}
    {params : Arguments} {body e2 : Expr} {scope : Scope} {t : XK → TE} {te : TE} {p lpos pos : Pos} (hg : Gl X x) (hm : X.mg x = some (.ref g)) (hk : PySem.W.keepIn X.K (.ref g) = true)
    (lk : X.K.lookup g = some ⟨oc, od, .func (PySem.W.fnOf x x pg bg sg dV kV doc pm an cdv ct), osl⟩) (hcg : PySem.W.codeIn X.K cdv x = true) (hb : L2.Binds X.K (PySem.W.fnOf x x pg bg sg dV kV doc pm an cdv ct) [a, b] []) (Sg : FnScope Ng [a, b] sg) (hNg : Ng[0]? = some a) (hva : Vis sg a)
    (hG : GivesTo2 X Ng x sg g cdv bg a (X.env.qual ++ "<lambda>") TT)
    (TB : TabB X.base X.mg c P) (hcode : X.env.code = .ref c) (hmT : (P, X.env.qual ++ "<lambda>") ∈ T) (hu : ∀ p ∈ T, p.1 = P → p.2 = X.env.qual ++ "<lambda>") (hr : Room (k + 2) X.A) (L : LamS X.env.scope scope) (hdef : defaultsOf params X.env = ([], []))
    (hbind : ∀ (q : Str) (cl : List (Str × Addr)) (pm cv ctv : Value), bindArgs (PySem.W.kla_fn "<lambda>" q params body scope cl pm cv ctv) ⟨[], []⟩ = pure [])
    (hbody : ∀ (A : Around) (outer : List Env) (s : Shared) (H : Hp) (E : XK) (f c' : Addr), Room k (A.deeper (lamEnv X scope s.heap.objs.size f c')) → PE (lamCx X A outer s H E scope f c') body (t E)) (he2 : PE X e2 te)
    (hdb : (x == ("__debug__" : Str)) = false := by decide) (hd : (a == ("__debug__" : Str)) = false := by decide) (hcd : (a == ("__classdict__" : Str)) = false := by decide) (hs2 : starEach [e2] X.env = (false, eval e2 X.env) :: starEach [] X.env := by rfl) :
    PE X (.Call (.Name x p) [.Lambda params body scope lpos, e2] [] pos) (tLam2 T TT t te) := by
  refine ⟨fun pins s σ H Q I h => ?_⟩
  obtain ⟨hT, h⟩ := h
  refine wpAny_Call_Name_kw (ld_glob I hg hm ?_ hdb)
  refine PySem.W.callWith_K (h₀ := X.base) I.ok.mod.kin hk ?_ (by rfl) (by rw [hs2]; rfl)
  show wpAny _ _ (spliced ((false, eval (.Lambda params body scope lpos) X.env) :: backTo pos (starEach [e2] X.env))) _ _ s
  refine Calls.spliced_cons (lam_make2 I TB hcode hmT hu hT hdef (L.has I.ok) fun f c' pm' ctv H1 s' I1 eN T1 hf hfn hfr hco => ?_)
  have fL : f ≠ X.env.locals := fun z => by
    obtain ⟨m, ⟨o, es, ep, ho, hd, _⟩, _⟩ := I1.loc
    rw [z, ho] at hf
    cases hf
    cases hd
  have fS : f ∉ X.fs := fun z => hfr (by
    have z : f ∈ frs X.outer := z
    rcases I1.ok.stk with e | ⟨e, _⟩
    · rw [e]; exact z
    · rw [e]
      unfold frs at z ⊢
      rw [List.filterMap_cons]
      cases X.env.frame with
      | none => exact z
      | some y => exact List.mem_cons_of_mem _ z)
  have I1p : Inv X (pins ++ [(f, PySem.W.kla_obj "<lambda>" (X.env.qual ++ "<lambda>") params body scope (cloFrom X.env.cells scope.names []) pm' c' ctv)]) σ H1 s' := I1.pins_of fun q hq => by
    rcases List.mem_append.mp hq with z | z
    · exact I1.pin q (List.mem_append_right _ z)
    · obtain rfl := List.mem_singleton.mp z
      exact ⟨hf, hfn, fL, fS, fun v z => nomatch z⟩
  show wpAny _ _ (spliced (backTo pos (starEach [e2] X.env))) _ _ s'
  rw [hs2]
  show wpAny _ _ (spliced ((false, eval e2 X.env) :: backTo pos (starEach [] X.env))) _ _ s'
  refine Calls.spliced_cons (thn (he2.run _ s' σ H1 _ I1p (h H1 eN T1)) fun u s2 ⟨v, H2, I2p, rv, eH, hTT⟩ => ?_)
  subst eH
  have hf2 : s2.heap.get? f = some (PySem.W.kla_obj "<lambda>" (X.env.qual ++ "<lambda>") params body scope (cloFrom X.env.cells scope.names []) pm' c' ctv) := (I2p.pin _ (List.mem_append_right _ (List.mem_append_right _ (List.mem_singleton.mpr rfl)))).1
  have I2 : Inv X pins σ H2 s2 := I2p.unpinned
  refine Calls.spliced_nil ⟨I2.kIn, ?_⟩
  have rc : codeAny (model X.prog X.w) X.A (.call (.ref g) ⟨[.ref f, u], []⟩) (CR C8.CX0 X.stack X.prog X.w H2 s2 Q C8.E0) s2 := by
    refine run_ofS (N := Ng) (ps := [a, b]) (us := [.ref f, u]) (vs := [.ref f, v]) lk hcg Sg hr I2.env0 (hb s2 [.ref f, u] I2.kIn rfl) (.cons rfl (.cons rv .nil)) rfl fun hr' => ?_
    obtain ⟨t', ht', hq'⟩ := hG f c' v s2 H2 Q (fun E H' Q' => t E σ H' Q') (fun W pn xe E p1 p2 tk => pe_act2 (i := 0) I2 L hf2 hfn hfr (hbind _ _ _ _ _) tk hr' (fun A outer s H hr2 => hbody A outer s H E f c' hr2) hNg hva hd hcd) hco hTT
    exact ⟨t', ht'.nox, hq'⟩
  refine wpAny_call (codeAny_mono rc fun r s3 hq => ?_)
  cases r with
  | error e => exact (show False from hq).elim
  | ok fl =>
    cases fl with
    | ret u => exact I2.after hq
    | next => exact False.elim hq
    | brk => exact False.elim hq
    | cont => exact False.elim hq
end
end LamY

/-! a def called, its promise told of this very caller (where what is around the caller matters: repr in a def) -/
namespace LamY
open PySem PySem.Spec PyProof.Rows L2 LamX
theorem pe_callS {X : Cx} {TT : List V → Hp → VK → Prop} {x : Str} {ps Ng : List Str} {g : Addr} {k : Nat} {pg : Arguments} {bg : List Stmt} {sg : Scope} {dV kV doc pm cdv ct oc : Value} {an od : Option Addr} {osl : Array (Option Value)} {e : Expr} {es : List Expr} {ta : TA} {p pos : Pos}
    (hg : Gl X x) (hm : X.mg x = some (.ref g)) (hk : W.keepIn X.K (.ref g) = true) (lk : X.K.lookup g = some ⟨oc, od, .func (W.fnOf x x pg bg sg dV kV doc pm an cdv ct), osl⟩) (hcg : W.codeIn X.K cdv x = true) (hb : L2.Binds X.K (W.fnOf x x pg bg sg dV kV doc pm an cdv ct) ps []) (Sg : FnScope Ng ps sg)
    (hr : Room (k + 1) X.A) (ha : PA X (e :: es) ta) (len : ∀ vs H Q, TT vs H Q → vs.length = ps.length)
    (runs : ∀ (s : Shared) (H : Hp) (Q : VK) (vs : List V), Room k (X.A.deeper (envOfC x sg s.heap.objs.size g cdv)) → TT vs H Q → ∃ t, PSs (cxOf C8.CX0 X.prog X.w X.K X.mg X.base Ng x sg g cdv X.A X.stack s H C8.E0).nox bg t ∧ t { nx := fun _ H' => Q .non H', rt := Q } (L2.start Ng vs) H)
    (hdb : (x == ("__debug__" : Str)) = false := by decide) (h1 : starEach (e :: es) X.env = (false, eval e X.env) :: starEach es X.env := by rfl) (h2 : (backTo pos (starEach es X.env)).any (·.1) = false := by rfl) :
    PE X (.Call (.Name x p) (e :: es) [] pos) (fun σ H Q => ta σ H fun vs H1 => TT vs H1 Q) := by
  refine ⟨fun pins s σ H Q I h => ?_⟩
  refine wpAny_Call_Name_kw (ld_glob I hg hm ?_ hdb)
  refine W.callWith_K (h₀ := X.base) I.ok.mod.kin hk (thn (ha.run pos pins s σ H (fun vs H1 => TT vs H1 Q) I h) fun us s1 z => ?_) h1 h2
  obtain ⟨vs, H1, I1, rv, tt⟩ := z
  have ln := len vs H1 Q tt
  refine ⟨I1.kIn, wpAny_call (codeAny_mono (run_ofS (N := Ng) (CX := C8.CX0) (E := C8.E0) (Q := Q) lk hcg Sg hr I1.env0 (hb s1 us I1.kIn (by rw [List.append_nil, ← rv.length]; exact ln)) (by rw [List.append_nil]; exact rv) ln fun hr' => ?_) fun r s2 hq => ?_)⟩
  · obtain ⟨t, ht, q⟩ := runs s1 H1 Q vs hr' tt
    exact ⟨t, ht.nox, q⟩
  · match r, hq with
    | .ok (.ret _), hq => exact I1.after hq
end LamY

namespace K01
open PySem PySem.Spec PyProof.Rows L2
def top (i : Nat) : Stmt := PySem.Challenge.pw_lightsout_k01_houses_and_their_texts.main.body.getD i (.Pass ⟨0, 0, 0, 0⟩)
abbrev sIsSeq : Stmt := top 1
abbrev sIsName : Stmt := top 2
abbrev sChParts : Stmt := top 12
abbrev sIsDoor : Stmt := top 13
abbrev sIsCell : Stmt := top 14
abbrev sChThings : Stmt := top 15
abbrev sNumbers : Stmt := top 16
abbrev sNumOf : Stmt := top 17
abbrev sThing : Stmt := top 18
abbrev sHouse : Stmt := top 19
abbrev sBox : Stmt := top 21
abbrev sTake : Stmt := top 22
abbrev sPick : Stmt := top 23
abbrev sMixed : Stmt := top 24
abbrev sThings : Stmt := top 25
abbrev sLText : Stmt := top 26
abbrev sNumber : Stmt := top 27
abbrev sRight : Stmt := top 28
abbrev sUnknown : Stmt := top 29
abbrev sKeptRef : Stmt := top 30
abbrev sKeptRight : Stmt := top 31
abbrev sLaw : Stmt := top 32
abbrev sInit : Stmt := inClass sHouse 0
abbrev sEq : Stmt := inClass sHouse 1
abbrev sRead : Stmt := inClass sHouse 2
abbrev sText : Stmt := inClass sHouse 3
abbrev sNumPart : Stmt := inClass sHouse 4
abbrev sNumDoor : Stmt := inClass sHouse 5
abbrev sNumCell : Stmt := inClass sHouse 6
abbrev sFarEnd : Stmt := inClass sHouse 7
abbrev sDoorsAt : Stmt := inClass sHouse 8
abbrev sCellsIn : Stmt := inClass sHouse 9
abbrev sWithKept : Stmt := inClass sHouse 10
/-- the box at p -/
def Box (H : Hp) (p : Addr) : Prop := ∃ b0 b1 b2 : Int, H p = some (.lst [.int b0, .int b1, .int b2]) ∧ 0 ≤ b0 ∧ 0 ≤ b1 ∧ 0 ≤ b2
/-- all but the box is as it was -/
def But (p : Addr) (H H' : Hp) : Prop := ∀ b o, b ≠ p → H b = some o → H' b = some o

def spBox (K : W.Frag) : Sp := fun vs H Q _ => ∃ (a : Addr) (ns : List Int) (k : Nat), vs = [.ref a, .int k] ∧ SqL K H a (ns.map V.int) ∧ ns.length ≤ 63 ∧ k ≤ 2 ∧ (k < ns.length ∨ ns = []) ∧
  ∀ H' p, Same H H' → H p = none → Box H' p → Q (.ref p) H'
def spTake : Sp := fun vs H Q _ => ∃ (p : Addr) (m : Int), vs = [.ref p, .int m] ∧ Box H p ∧ 1 ≤ m ∧ m ≤ 1000 ∧
  ∀ (r : Int) H', 0 ≤ r → r < m → But p H H' → Box H' p → Q (.int r) H'
def spPick : Sp := fun vs H Q _ => ∃ (p q : Addr) (xs : List V), vs = [.ref p, .ref q] ∧ p ≠ q ∧ Box H p ∧ H q = some (.lst xs) ∧ 1 ≤ xs.length ∧ xs.length ≤ 1000 ∧
  ∀ x H', x ∈ xs → But p H H' → Box H' p → Q x H'

structure Nums (mg : Str → Option Value) : Prop where
  len : mg "len" = none
  abs : mg "abs" = none
  int : mg "int" = none

section
variable {P : Program} {w : World} {K : W.Frag} {mg : Str → Option Value} {base : Heap}
theorem scB : FnScope ["script", "k", "cell"] ["script", "k"] (defScope sBox) := ⟨rfl, rfl, rfl, by decide +kernel, rfl, by decide +kernel, by decide +kernel⟩
theorem ok_box {f : Addr} {fd : FuncData} (F : Fun K "_law_box" "_law_box" sBox f fd) (N : Nums mg) : FnOk P w K mg base CX0 1 f fd ["script", "k"] (spBox K) := by
  refine F.ok scB (fun vs H Q E h => ?_) (fun cdv A outer s H vs Q E hr h => ?_)
  · obtain ⟨a, ns, k, rfl, _⟩ := h
    rfl
  · obtain ⟨a, ns, k, rfl, hS, hl, hk, hcase, q⟩ := h
    obtain ⟨t, ht, hq⟩ : ∃ t, PSs (cxOf CX0 P w K mg base ["script", "k", "cell"] "_law_box" (defScope sBox) f cdv A outer s H E).nox ((defBody sBox).drop 2) t ∧
        ∀ c : Int, 0 ≤ c → t { nx := fun _ H' => Q .non H', rt := Q } [some (.ref a), some (.int (k : Nat)), some (.int c)] H := by
      refine ⟨_, pss_one (ps_ret (pe_lst (pa_cons (pe_ix ix_list (pe_lst (pa_cons pe_int (pa_cons (pv 2) pa_nil))) (pe_callTy call_int1 (by rfl) N.int (by decide +kernel) (pa_cons (pe_cmpR op_ge (pv 2) (pe_op op_pow pe_int pe_int) (nomark _)) pa_nil)) (fun _ _ => rfl))
        (pa_cons (pe_op op_add (pe_op op_mod (pe_callTy call_int1 (by rfl) N.int (by decide +kernel) (pa_cons (pe_op op_add (pe_op op_add (pe_op op_mul (pe_op op_mod (pe_callTy call_int1 (by rfl) N.int (by decide +kernel) (pa_cons (pv 2) pa_nil)) pe_int) pe_int) (pe_op op_mul pe_int (pv 1))) pe_int) pa_nil)) pe_int) pe_int)
        (pa_cons pe_int pa_nil))))), fun c hc => ?_⟩
      refine ⟨_, rfl, by show 2 ≤ sizeLine; decide, fun l hl => ?_⟩
      refine ⟨_, rfl, _, _, rfl, rfl, ⟨by decide, by decide, by decide⟩, _, _, rfl, rfl, ?_⟩
      refine .inr ⟨_, rfl, l, _, _, if decide ((10 : Int) ^ (18 : Int).toNat ≤ c) = true then .int c else .int 0, rfl, rfl, SqL.of upd_same, ?_, ?_⟩
      · by_cases hb : (10 : Int) ^ (18 : Int).toNat ≤ c
        · rw [decide_eq_true hb]
          rfl
        · rw [decide_eq_false hb]
          rfl
      · refine ⟨_, rfl, .inl ⟨_, rfl, ?_⟩⟩
        refine ⟨_, _, rfl, rfl, by show (0 : Int) < 2147483629; decide, _, _, rfl, rfl, .inr ⟨by decide, by decide⟩, _, rfl, _, _, rfl, rfl, .inl ⟨by decide, by decide⟩, _, _, rfl, rfl, _, _, rfl, rfl, .inl ⟨_, rfl, ?_⟩⟩
        refine ⟨_, _, rfl, rfl, by show (0 : Int) < 2147483629; decide, _, _, rfl, rfl, by show 3 ≤ sizeLine; decide, fun p hp => ?_⟩
        have npl : p ≠ l := fun z => by
          rw [z, upd_same] at hp
          cases hp
        have hp0 : H p = Option.none := by
          rw [upd_ne npl] at hp
          exact hp
        refine q _ p (fun b o e => ?_) hp0 ?_
        · rw [upd_ne (ne_of_none e hp0), upd_ne (ne_of_none e hl)]
          exact e
        · have hm : ∀ z : Int, 0 ≤ z % 2147483629 + 1 := fun z => by omega
          by_cases hb : (10 : Int) ^ (18 : Int).toNat ≤ c
          · rw [decide_eq_true hb]
            exact ⟨c, _, 0, upd_same, hc, hm _, by decide⟩
          · rw [decide_eq_false hb]
            exact ⟨0, _, 0, upd_same, by decide, hm _, by decide⟩
    refine ⟨_, pss_cons (ps_set (i := 2) scB.nd rfl (Or.inl rfl) (pe_op op_add (pe_op op_mul pe_int (pv 1)) pe_int))
      (pss_cons (ps_if (pt_cmpR op_lt (pv 1) (pe_callB call_len_seq (by rfl) N.len PySem.boot_len (pa_cons (pv 0) pa_nil)) (nomark _))
          (pss_one (ps_set (i := 2) scB.nd rfl (Or.inl rfl) (pe_callB call_abs (by rfl) N.abs (by decide +kernel) (pa_cons (pe_ix ix_list (pv 0) (pv 1) (fun _ _ => rfl)) pa_nil))))
          (pss_one (ps_if (pt_cmpR op_gt (pe_callB call_len_seq (by rfl) N.len PySem.boot_len (pa_cons (pv 0) pa_nil)) pe_int (nomark _)) (pss_one ps_never) pss_nil)))
      ht), ?_⟩
    refine ⟨_, rfl, _, _, rfl, rfl, .inl ⟨by decide, by decide⟩, _, _, rfl, rfl, ?_⟩
    refine ⟨_, rfl, _, rfl, a, _, rfl, .inl hS, _, _, rfl, rfl, _, rfl, ?_⟩
    refine ite2 (fun hb => ?_) (fun hb => ?_)
    · have hb2 := of_decide_eq_true hb
      rw [List.length_map] at hb2
      have hb3 : k < ns.length := by omega
      refine ⟨_, rfl, _, rfl, a, _, _, V.int ns[k], rfl, rfl, hS, atI_nat (by simp [hb3]), _, rfl, hq _ ?_⟩
      by_cases hn : ns[k] < 0
      · rw [if_pos hn]
        omega
      · rw [if_neg hn]
        omega
    · have hb2 : ¬ ((k : Int) < ((ns.map V.int).length : Nat)) := fun z => hb (decide_eq_true z)
      rw [List.length_map] at hb2
      have hn : ns = [] := by
        rcases hcase with z | z
        · omega
        · exact z
      subst hn
      refine ⟨_, rfl, a, _, rfl, .inl hS, _, _, rfl, rfl, _, rfl, ?_⟩
      refine iteF (hq _ ?_)
      show 0 ≤ 7919 * (k : Int) + 41543
      omega
theorem scT : FnScope ["box", "many", "digit", "raw"] ["box", "many"] (defScope sTake) := ⟨rfl, rfl, rfl, by decide +kernel, rfl, by decide +kernel, by decide +kernel⟩
theorem ok_take {f : Addr} {fd : FuncData} (F : Fun K "_law_take" "_law_take" sTake f fd) (N : Nums mg) : FnOk P w K mg base CX0 1 f fd ["box", "many"] spTake := by
  refine F.ok scT (fun vs H Q E h => ?_) (fun cdv A outer s H vs Q E hr h => ?_)
  · obtain ⟨p, m, rfl, _⟩ := h
    rfl
  · obtain ⟨p, m, rfl, ⟨b0, b1, b2, hB, n0, n1, n2⟩, m1, m2, q⟩ := h
    refine ⟨_, pss_cons (ps_if (pt_cmpR op_gt (pe_ix ix_list (pv 0) pe_int (fun _ _ => rfl)) pe_int (nomark _))
        (pss_cons (ps_set (i := 2) scT.nd rfl (Or.inl rfl) (pe_op op_mod (pe_callTy call_int1 (by rfl) N.int (by decide +kernel) (pa_cons (pe_ix ix_list (pv 0) pe_int (fun _ _ => rfl)) pa_nil)) (pv 1)))
        (pss_cons (ps_asg (pe_op op_fdiv (pe_ix ix_list (pv 0) pe_int (fun _ _ => rfl)) (pv 1)) (pg_sub (pv 0) pe_int set_list))
        (pss_one (ps_ret (pv 2))))) pss_nil)
      (pss_cons (ps_asg (pe_op op_add (pe_ix ix_list (pv 0) pe_int (fun _ _ => rfl)) pe_int) (pg_sub (pv 0) pe_int set_list))
      (pss_cons (ps_set (i := 3) scT.nd rfl (Or.inl rfl) (pe_op op_mod (pe_callTy call_int1 (by rfl) N.int (by decide +kernel) (pa_cons (pe_op op_add (pe_op op_mul (pe_op op_add (pe_ix ix_list (pv 0) pe_int (fun _ _ => rfl)) (pe_op op_mul pe_int (pe_ix ix_list (pv 0) pe_int (fun _ _ => rfl)))) pe_int) pe_int) pa_nil)) pe_int))
      (pss_cons (ps_asg (pe_op op_add (pe_op op_mod (pe_callTy call_int1 (by rfl) N.int (by decide +kernel) (pa_cons (pe_op op_add (pe_op op_mul (pv 3) pe_int) pe_int) pa_nil)) pe_int) pe_int) (pg_sub (pv 0) pe_int set_list))
      (pss_one (ps_ret (pe_op op_mod (pe_callTy call_int1 (by rfl) N.int (by decide +kernel) (pa_cons (pe_op op_fdiv (pe_op op_add (pe_op op_mul (pv 3) pe_int) (pe_ix ix_list (pv 0) pe_int (fun _ _ => rfl))) pe_int) pa_nil)) (pv 1)))))))
      , ?_⟩
    refine ⟨_, rfl, p, _, _, V.int b0, rfl, rfl, SqL.of hB, atI_nat (j := 0) rfl, _, _, rfl, rfl, _, rfl, ?_⟩
    refine ite2 (fun hb => ?_) (fun hb => ?_)
    · refine ⟨_, rfl, p, _, _, V.int b0, rfl, rfl, SqL.of hB, atI_nat (j := 0) rfl, .inl ⟨_, rfl, _, rfl, _, _, rfl, rfl, by show 0 < m; omega, ?_⟩⟩
      refine ⟨_, rfl, p, _, _, V.int b0, rfl, rfl, SqL.of hB, atI_nat (j := 0) rfl, _, rfl, _, _, rfl, rfl, ⟨by show 0 < m; omega, by show m < 1073741824; omega⟩, ?_⟩
      refine ⟨_, rfl, p, _, _, 0, rfl, rfl, hB, rfl, ?_⟩
      refine ⟨_, rfl, q (b0 % m) _ (Int.emod_nonneg _ (by omega)) (Int.emod_lt_of_pos _ (by omega)) (fun b o ne e => ?_) ⟨b0 / m, b1, b2, upd_same, Int.ediv_nonneg n0 (by omega), n1, n2⟩⟩
      rw [upd_ne ne]
      exact e
    · refine ⟨_, rfl, p, _, _, V.int b2, rfl, rfl, SqL.of hB, atI_nat (j := 2) rfl, _, _, rfl, rfl, _, rfl, p, _, _, 2, rfl, rfl, hB, rfl, ?_⟩
      refine ⟨_, rfl, p, _, _, V.int b1, rfl, rfl, SqL.of upd_same, atI_nat (j := 1) rfl, _, rfl, p, _, _, V.int (b2 + 1), rfl, rfl, SqL.of upd_same, atI_nat (j := 2) rfl, _, _, rfl, rfl, .inl ⟨by decide, by decide⟩, _, _, rfl, rfl,
        _, _, rfl, rfl, .inr ⟨by decide, by decide⟩, _, _, rfl, rfl, .inl ⟨_, rfl, _, _, rfl, rfl, by show (0 : Int) < 2147483563; decide, ?_⟩⟩
      refine ⟨_, rfl, _, _, rfl, rfl, .inr ⟨by decide, by decide⟩, _, _, rfl, rfl, .inl ⟨_, rfl, _, _, rfl, rfl, by show (0 : Int) < 2147483629; decide, _, _, rfl, rfl, _, rfl, p, _, _, 1, rfl, rfl, upd_same, rfl, ?_⟩⟩
      refine ⟨_, rfl, _, _, rfl, rfl, .inr ⟨by decide, by decide⟩, _, rfl, p, _, _, V.int _, rfl, rfl, SqL.of upd_same, atI_nat (j := 1) rfl, _, _, rfl, rfl, _, _, rfl, rfl, ⟨by decide, by decide⟩, .inl ⟨_, rfl, _, rfl, _, _, rfl, rfl, by show 0 < m; omega, ?_⟩⟩
      refine q _ _ (Int.emod_nonneg _ (by omega)) (Int.emod_lt_of_pos _ (by omega)) (fun b o ne e => ?_) ⟨b0, _, b2 + 1, upd_same, n0, ?_, by omega⟩
      · rw [upd_ne ne, upd_ne ne]
        exact e
      · have hm : ∀ z : Int, 0 ≤ z % 2147483629 + 1 := fun z => by omega
        exact hm _
theorem scP : FnScope ["box", "some"] ["box", "some"] (defScope sPick) := ⟨rfl, rfl, rfl, by decide +kernel, rfl, by decide +kernel, by decide +kernel⟩
theorem ok_pick {f fT : Addr} {fd fdT : FuncData} (F : Fun K "_law_pick" "_law_pick" sPick f fd) (N : Nums mg) (FT : Fun K "_law_take" "_law_take" sTake fT fdT) (bT : Binds K fdT ["box", "many"] []) (mT : mg "_law_take" = some (.ref fT)) :
    FnOk P w K mg base CX0 2 f fd ["box", "some"] spPick := by
  have GT : FnOk P w K mg base CX0 1 fT fdT ["box", "many"] spTake := ok_take FT N
  refine F.ok scP (fun vs H Q E h => ?_) (fun cdv A outer s H vs Q E hr h => ?_)
  · obtain ⟨p, q, xs, rfl, _⟩ := h
    rfl
  · obtain ⟨p, l, xs, rfl, ne, hB, hL, l1, l2, q⟩ := h
    refine ⟨_, pss_one (ps_ret (pe_ix ix_list (pv 1) (pe_call GT hr rfl mT FT.kp bT .nil pass0 (pa_cons (pv 0) (pa_cons (pe_callB call_len_seq (by rfl) N.len PySem.boot_len (pa_cons (pv 1) pa_nil)) pa_nil))) (fun _ _ => rfl))), ?_⟩
    refine ⟨_, rfl, _, rfl, _, rfl, l, _, rfl, .inl (SqL.of hL), p, _, rfl, hB, by omega, by omega, fun r H' r0 r1 but hB' => ?_⟩
    obtain ⟨j, rfl⟩ : ∃ j : Nat, r = (j : Int) := ⟨r.toNat, by omega⟩
    have hj : j < xs.length := by omega
    refine ⟨l, xs, _, xs[j], rfl, rfl, SqL.of (but _ _ (Ne.symm ne) hL), atI_nat (by simp [hj]), ?_⟩
    exact q _ _ (List.getElem_mem hj) but hB'
end
end K01

namespace K01
open PySem PySem.Spec PyProof.Rows L2
open Cal EnuT

/-- a def by its name in the module -/
def Callee (P : Program) (w : World) (K : W.Frag) (mg : Str → Option Value) (base : Heap) (x : Str) (k : Nat) (ps : List Str) (sp : Sp) : Prop :=
  ∃ f fd, mg x = some (.ref f) ∧ W.keepIn K (.ref f) = true ∧ Binds K fd ps [] ∧ FnOk P w K mg base CX0 k f fd ps sp
theorem pe_callee {X : Cx} {x : Str} {k : Nat} {ps : List Str} {sp : Sp} {p pos : Pos} {e : Expr} {es : List Expr} {t : TA} (c : Callee X.prog X.w X.K X.mg X.base x k ps sp) (hr : Room k X.A) (hg : Gl X x) (ha : PA X (e :: es) t)
    (hdb : (x == ("__debug__" : Str)) = false := by decide) (he : starEach (e :: es) X.env = (false, eval e X.env) :: starEach es X.env := by rfl) (hpl : (backTo pos (starEach es X.env)).any (·.1) = false := by rfl) :
    PE X (.Call (.Name x p) (e :: es) [] pos) (tCall sp [] E0 t) := by
  obtain ⟨f, fd, m, kp, b, F⟩ := c
  exact pe_call F hr hg m kp b .nil pass0 ha hdb he hpl
theorem But.of_same {p : Addr} {H H' : Hp} (s : Same H H') : But p H H' := fun b o _ e => s b o e
theorem But.same {p : Addr} {H0 H H' : Hp} (b : But p H H') (s : Same H0 H) (n : H0 p = none) : Same H0 H' := fun c o e => b c o (fun z => by
  rw [z, n] at e
  cases e) (s c o e)
theorem But.trans {p : Addr} {H H1 H2 : Hp} (a : But p H H1) (b : But p H1 H2) : But p H H2 := fun c o ne e => b c o ne (a c o ne e)
theorem Box.same {p : Addr} {H H' : Hp} (b : Box H p) (s : Same H H') : Box H' p := by
  obtain ⟨b0, b1, b2, e, h⟩ := b
  exact ⟨b0, b1, b2, s _ _ e, h⟩
theorem Box.ne {p b : Addr} {H : Hp} {o : HO} (x : Box H p) (e : H b = some o) (h : ∀ b0 b1 b2 : Int, o ≠ .lst [.int b0, .int b1, .int b2]) : b ≠ p := by
  obtain ⟨b0, b1, b2, at_p, _⟩ := x
  exact ne_of e at_p (h b0 b1 b2)
theorem Box.same' {p a b : Addr} {H : Hp} {o u : HO} (x : Box H p) (hb : b ≠ p) (ha : a ≠ p) : Box (upd (upd H a o) b u) p := by
  obtain ⟨b0, b1, b2, e, h⟩ := x
  exact ⟨b0, b1, b2, by rw [upd_ne (Ne.symm hb), upd_ne (Ne.symm ha)]; exact e, h⟩
theorem map_eraseIdx {α β : Type} (f : α → β) : ∀ (xs : List α) (j : Nat), (xs.map f).eraseIdx j = (xs.eraseIdx j).map f
  | [], _ => rfl
  | _ :: _, 0 => rfl
  | x :: xs, j + 1 => by simp [map_eraseIdx f xs j]
theorem erase_perm {α : Type} : ∀ (l : List α) (j : Nat) (h : j < l.length), (l[j] :: l.eraseIdx j).Perm l
  | x :: xs, 0, _ => .refl _
  | x :: xs, j + 1, h => by
    have h1 : j < xs.length := by simpa using h
    show (xs[j] :: x :: xs.eraseIdx j).Perm (x :: xs)
    exact (List.Perm.swap x xs[j] _).trans ((erase_perm xs j h1).cons x)
theorem same_upd {H : Hp} {l : Addr} {o : HO} (n : H l = none) : Same H (upd H l o) := fun b u e => by
  rw [upd_ne (ne_of_none e n)]
  exact e
theorem none_of_upd {H : Hp} {a b : Addr} {o : HO} (h : upd H a o b = none) : H b = none ∧ a ≠ b := by
  by_cases z : b = a
  · rw [z, upd_same] at h
    cases h
  · rw [upd_ne z] at h
    exact ⟨h, Ne.symm z⟩

/-! ### what the module has of none -/
structure Bl (mg : Str → Option Value) : Prop where
  nums : Nums mg
  range : mg "range" = none
  list : mg "list" = none
  tuple : mg "tuple" = none
  isi : mg "isinstance" = none
  enu : mg "enumerate" = none
  str : mg "str" = none
  bool : mg "bool" = none
  all : mg "all" = none
  repr : mg "repr" = none
  max : mg "max" = none
  min : mg "min" = none

/-! ### mixed -/
def spMixed : Sp := fun vs H Q _ => ∃ (p q : Addr) (xs : List Str), vs = [.ref p, .ref q] ∧ Box H p ∧ H q = some (.lst (xs.map V.str)) ∧ xs.length ≤ 100 ∧ (∀ x, x ∈ xs → PyData.strOk x = true) ∧
  ∀ (ys : List Str) H' l, ys.Perm xs → But p H H' → Box H' p → H l = none → H' l = some (.lst (ys.map V.str)) → Q (.ref l) H'
theorem dps_str {K : W.Frag} {H : Hp} : ∀ xs : List Str, DpAll K H (xs.map V.str) (xs.map PyData.str)
  | [] => .nil
  | _ :: xs => .cons (.str _) (dps_str xs)
theorem canLay_strs : ∀ xs : List Str, (∀ x, x ∈ xs → PyData.strOk x = true) → PyData.canLayAll0 (xs.map PyData.str) = true
  | [], _ => by simp [PyData.canLayAll0]
  | x :: xs, h => by
    have h1 := canLay_strs xs fun y hy => h y (List.mem_cons_of_mem _ hy)
    have h2 := h x (List.mem_cons_self ..)
    simp [PyData.canLayAll0, PyData.canLay0, h1, h2]
theorem depth_strs : ∀ xs : List Str, PyData.depthAll (xs.map PyData.str) ≤ 1
  | [] => by simp [PyData.depthAll]
  | x :: xs => by
    have := depth_strs xs
    simp [PyData.depthAll, PyData.depth]
    omega
theorem shaped_strs (xs : List Str) (h : ∀ x, x ∈ xs → PyData.strOk x = true) : SeqAt.shaped (.list (xs.map PyData.str)) = true := by
  have := depth_strs xs
  simp [SeqAt.shaped, PyData.canLay0, canLay_strs xs h, PyData.depth]
  omega
def lenAt (a : Addr) (H : Hp) : Nat := match H a with
  | some (.lst xs) => xs.length
  | _ => 0
section
variable {P : Program} {w : World} {K : W.Frag} {mg : Str → Option Value} {base : Heap}
theorem scM : FnScope ["box", "some", "left", "found"] ["box", "some"] (defScope sMixed) := ⟨rfl, rfl, rfl, by decide +kernel, rfl, by decide +kernel, by decide +kernel⟩
theorem ok_mixed {f : Addr} {fd : FuncData} (F : Fun K "_law_mixed" "_law_mixed" sMixed f fd) (B : Bl mg) (T : Callee P w K mg base "_law_take" 1 ["box", "many"] spTake) :
    FnOk P w K mg base CX0 2 f fd ["box", "some"] spMixed := by
  refine F.ok scM (fun vs H Q E h => ?_) (fun cdv A outer s H vs Q E hr h => ?_)
  · obtain ⟨p, q, xs, rfl, _⟩ := h
    rfl
  · obtain ⟨p, q, xs, rfl, hB, hq, few, ok, k⟩ := h
    have un := hr.units
    refine ⟨_, pss_cons (ps_par (i := 2) (j := 3) (by rfl) scM.nd rfl rfl (by decide) rfl rfl (pa_cons (pe_callTy call_list_of (by rfl) B.list (by decide +kernel) (pa_cons (pv 1) pa_nil)) (pa_cons (pe_lst pa_nil) pa_nil)) (by rfl))
      (pss_cons (ps_while PassesOwn.never (pt_cmpR (op_neD un) (pv 2) (pe_lst pa_nil) (nomark _))
        (pss_one (ps_expr (pe_bm PySem.F.plainAttrs_list PySem.F.slot_list_append PySem.F.type_list_append mt_append (pv 3)
          (pa_cons (pe_bm PySem.F.plainAttrs_list PySem.F.slot_list_pop PySem.F.type_list_pop mt_popAt (pv 2) (pa_cons (pe_callee T (hr.mono (by decide)) rfl (pa_cons (pv 0) (pa_cons (pe_callB call_len_seq (by rfl) B.nums.len PySem.boot_len (pa_cons (pv 2) pa_nil)) pa_nil))) pa_nil)) pa_nil)))))
      (pss_one (ps_ret (pv 3)))), ?_⟩
    refine ⟨_, rfl, q, _, rfl, .inl (SqL.of hq), fun a na => ⟨Nat.zero_le _, fun b nb => ⟨_, _, rfl, ?_⟩⟩⟩
    obtain ⟨nb0, ab⟩ := none_of_upd nb
    have ap : a ≠ p := fun z => by
      obtain ⟨b0, b1, b2, e, _⟩ := hB
      rw [z, e] at na
      cases na
    have bp : b ≠ p := fun z => by
      obtain ⟨b0, b1, b2, e, _⟩ := hB
      rw [z, e] at nb0
      cases nb0
    have s0 : Same H (upd (upd H a (.lst (xs.map V.str))) b (.lst [])) := (same_upd na).trans (same_upd nb)
    refine while_by (fun σ H' => ∃ ls fs : List Str, σ = [some (.ref p), some (.ref q), some (.ref a), some (.ref b)] ∧ (∀ c o, c ≠ p → H c = some o → H' c = some o) ∧ Box H' p ∧ H' a = some (.lst (ls.map V.str)) ∧
      H' b = some (.lst (fs.map V.str)) ∧ (ls ++ fs).Perm xs) (fun _ H' => lenAt a H') ⟨xs, [], rfl, fun c o _ e => s0 _ _ e, hB.same s0, by rw [upd_ne ab]; exact upd_same, upd_same, by rw [List.append_nil]⟩ ?_ ?_
    · rintro σ H1 ⟨ls, fs, rfl, keep, x1, at_a, at_b, perm⟩
      refine ⟨_, rfl, Nat.zero_le _, fun l nl => ?_⟩
      have s1 : Same H1 (upd H1 l (.lst [])) := same_upd nl
      refine ⟨.list (ls.map PyData.str), .list [], .lst (SqL.of (s1 _ _ at_a)) (dps_str ls), .lst (SqL.of upd_same) .nil, shaped_strs ls (fun x hx => ok x (perm.subset (List.mem_append_left _ hx))), rfl, _, rfl, ?_⟩
      cases ls with
      | nil =>
        refine iteF ?_
        refine ⟨_, rfl, k fs _ b (by simpa using perm) (fun c o ne e => s1 _ _ (keep c o ne e)) (x1.same s1) nb0 (s1 _ _ at_b)⟩
      | cons y ls =>
        refine iteT ?_
        have len : (y :: ls).length + fs.length = xs.length := by rw [← List.length_append]; exact perm.length_eq
        refine ⟨_, rfl, .inl ⟨rfl, _, SqL.of (s1 _ _ at_b)⟩, ?_⟩
        refine ⟨_, rfl, .inl ⟨rfl, _, SqL.of (s1 _ _ at_a)⟩, ?_⟩
        refine ⟨_, rfl, _, rfl, a, _, rfl, .inl (SqL.of (s1 _ _ at_a)), ?_⟩
        refine ⟨p, _, rfl, x1.same s1, by simp; omega, by simp at len ⊢; omega, fun r H3 r0 r1 but3 x3 => ?_⟩
        obtain ⟨j, rfl⟩ : ∃ j : Nat, r = (j : Int) := ⟨r.toNat, by omega⟩
        have hj : j < (y :: ls).length := by simp at r1 ⊢; omega
        have at_a3 : H3 a = some (.lst ((y :: ls).map V.str)) := but3 _ _ ap (s1 _ _ at_a)
        have at_b3 : H3 b = some (.lst (fs.map V.str)) := but3 _ _ bp (s1 _ _ at_b)
        refine ⟨a, _, _, j, V.str (y :: ls)[j], rfl, rfl, at_a3, by omega, by simp at hj len; omega, ?_, ?_, ?_⟩
        · have z := seqIndex_of (k := (j : Int)) (n := ((y :: ls).map V.str).length) (by omega) (by simp at hj ⊢; omega)
          simpa using z
        · rw [List.getElem?_map, List.getElem?_eq_getElem hj]
          rfl
        · refine ⟨b, _, _, rfl, rfl, (upd_ne (Ne.symm ab)).trans at_b3, ?_, ?_⟩
          · have : (100 : Nat) ≤ sizeLine := by decide
            rw [List.length_map]
            simp at len
            omega
          · refine ⟨⟨(y :: ls).eraseIdx j, fs ++ [(y :: ls)[j]], rfl, fun c o ne e => ?_, x3.same' ?_ ?_, ?_, ?_, ?_⟩, ?_⟩
            · have e3 := but3 c o ne (s1 _ _ (keep c o ne e))
              rw [upd_ne (fun z => by rw [z] at e; rw [nb0] at e; cases e), upd_ne (fun z => by rw [z] at e; rw [na] at e; cases e)]
              exact e3
            · exact bp
            · exact ap
            · rw [upd_ne ab, upd_same, map_eraseIdx]
            · rw [upd_same]
              simp
            · have e1 : ((y :: ls).eraseIdx j ++ (fs ++ [(y :: ls)[j]])).Perm ((y :: ls)[j] :: ((y :: ls).eraseIdx j ++ fs)) := by
                rw [← List.append_assoc]
                exact List.perm_append_singleton _ _
              have e2 : ((y :: ls)[j] :: ((y :: ls).eraseIdx j ++ fs)).Perm ((y :: ls) ++ fs) := (erase_perm (y :: ls) j hj).append_right fs
              exact (e1.trans e2).trans perm
            · have e1 : lenAt a (upd (upd H3 a (.lst ((List.map V.str (y :: ls)).eraseIdx j))) b (.lst (List.map V.str fs ++ [V.str (y :: ls)[j]]))) = ((List.map V.str (y :: ls)).eraseIdx j).length := by
                unfold lenAt
                rw [upd_ne ab, upd_same]
              have e2 : lenAt a H1 = (y :: ls).length := by
                unfold lenAt
                rw [at_a]
                simp
              show lenAt a _ < lenAt a H1
              rw [e1, e2, List.length_eraseIdx, List.length_map, if_pos hj]
              simp
    · rintro σ H1 Q1 Q2 m ⟨v, hv, h1, h2⟩
      refine ⟨v, hv, h1, fun l hl => ?_⟩
      obtain ⟨d, e, a1, a2, a3, a4, c, hc, q⟩ := h2 l hl
      exact ⟨d, e, a1, a2, a3, a4, c, hc, m _ _ q⟩
end
end K01

namespace K01
open PySem PySem.Spec PyProof.Rows L2
open Cal EnuT

def N16 : List Str := ["a", "hall", "loft", "b", "cellar", "yard", "c", "d", "gate", "e", "stair", "pad", "f", "g", "slot", "hh"]
structure Door where
  n : Str
  one : Str
  two : Str
  op : Bool
structure Cell where
  n : Str
  p : Str
  k : Bool
structure Hs where
  parts : List Str
  doors : List Door
  cells : List Cell
def Hs.names (h : Hs) : List Str := h.parts ++ (h.doors.map (·.n) ++ h.cells.map (·.n))
def EndIn (ps : List Str) (x : Str) : Prop := x = "out" ∨ x ∈ ps
structure Good (h : Hs) : Prop where
  p1 : 1 ≤ h.parts.length
  p6 : h.parts.length ≤ 6
  d7 : h.doors.length ≤ 7
  c3 : h.cells.length ≤ 3
  nodup : h.names.Nodup
  sub : ∀ x, x ∈ h.names → x ∈ N16
  ends : ∀ d, d ∈ h.doors → EndIn h.parts d.one ∧ EndIn h.parts d.two ∧ d.one ≠ d.two
  cin : ∀ c, c ∈ h.cells → c.p ∈ h.parts
def dvs (d : Door) : List V := [.str d.n, .str d.one, .str d.two, .bl d.op]
def cvs (c : Cell) : List V := [.str c.n, .str c.p, .bl c.k]
def DoorAt (H : Hp) (v : V) (d : Door) : Prop := ∃ t, v = .ref t ∧ H t = some (.tup (dvs d))
def CellAt (H : Hp) (v : V) (c : Cell) : Prop := ∃ t, v = .ref t ∧ H t = some (.tup (cvs c))
structure HsAt (H : Hp) (h : Hs) (a b c : Addr) : Prop where
  pa : H a = some (.lst (h.parts.map V.str))
  da : ∃ vs, H b = some (.lst vs) ∧ Paired (DoorAt H) vs h.doors
  ca : ∃ vs, H c = some (.lst vs) ∧ Paired (CellAt H) vs h.cells
theorem DoorAt.mono {H H' : Hp} {v : V} {d : Door} (x : DoorAt H v d) (f : ∀ t, H t = some (.tup (dvs d)) → H' t = some (.tup (dvs d))) : DoorAt H' v d := by
  obtain ⟨t, rfl, e⟩ := x
  exact ⟨t, rfl, f t e⟩
theorem CellAt.mono {H H' : Hp} {v : V} {d : Cell} (x : CellAt H v d) (f : ∀ t, H t = some (.tup (cvs d)) → H' t = some (.tup (cvs d))) : CellAt H' v d := by
  obtain ⟨t, rfl, e⟩ := x
  exact ⟨t, rfl, f t e⟩
theorem paired_mono {α β : Type} {R S : α → β → Prop} (f : ∀ a b, R a b → S a b) : ∀ {xs : List α} {ys : List β}, Paired R xs ys → Paired S xs ys
  | _, _, .nil => .nil
  | _, _, .cons r t => .cons (f _ _ r) (paired_mono f t)
theorem paired_snoc {α β : Type} {R : α → β → Prop} : ∀ {xs : List α} {ys : List β} {a : α} {b : β}, Paired R xs ys → R a b → Paired R (xs ++ [a]) (ys ++ [b])
  | _, _, _, _, .nil, h => .cons h .nil
  | _, _, _, _, .cons r t, h => .cons r (paired_snoc t h)
theorem paired_len {α β : Type} {R : α → β → Prop} : ∀ {xs : List α} {ys : List β}, Paired R xs ys → xs.length = ys.length
  | _, _, .nil => rfl
  | _, _, .cons _ t => by simp [paired_len t]

theorem But.free {p a : Addr} {H H' : Hp} (b : But p H H') (x : Box H' p) (n : H' a = none) : H a = none := by
  cases e : H a with
  | none => rfl
  | some o =>
    have ne : a ≠ p := fun z => by
      obtain ⟨b0, b1, b2, eb, _⟩ := x
      rw [← z, n] at eb
      cases eb
    have := b _ _ ne e
    rw [n] at this
    cases this
theorem cut_take (xs : List Str) (k : Nat) (h : k ≤ xs.length) : cutV (xs.map V.str) none (some ((k : Nat) : Int)) = (xs.take k).map V.str := by
  unfold cutV HT.sIx
  simp only [List.length_map]
  rw [if_neg (by omega)]
  simp [Nat.min_eq_left h, List.map_take]
theorem cut_drop (xs : List Str) (k : Nat) (h : k ≤ xs.length) : cutV (xs.map V.str) (some ((k : Nat) : Int)) none = (xs.drop k).map V.str := by
  unfold cutV HT.sIx
  simp only [List.length_map]
  rw [if_neg (by omega)]
  rw [Int.toNat_natCast, Nat.min_eq_left h, List.map_drop, List.take_of_length_le]
  simp
theorem strs_box (xs : List Str) (b0 b1 b2 : Int) : HO.lst (xs.map V.str) ≠ .lst [.int b0, .int b1, .int b2] := by
  intro z
  injection z with z
  match xs, z with
  | [], z => cases z
  | _ :: _, z =>
    simp only [List.map_cons, List.cons.injEq] at z
    exact nomatch z.1
theorem doors_box {H : Hp} {vs : List V} {ds : List Door} (h : Paired (DoorAt H) vs ds) (b0 b1 b2 : Int) : HO.lst vs ≠ .lst [.int b0, .int b1, .int b2] := by
  intro z
  injection z with z
  match vs, ds, h, z with
  | [], _, _, z => cases z
  | v :: _, _, .cons r _, z =>
    obtain ⟨t, rfl, _⟩ := r
    simp only [List.cons.injEq] at z
    exact nomatch z.1
theorem cells_box {H : Hp} {vs : List V} {ds : List Cell} (h : Paired (CellAt H) vs ds) (b0 b1 b2 : Int) : HO.lst vs ≠ .lst [.int b0, .int b1, .int b2] := by
  intro z
  injection z with z
  match vs, ds, h, z with
  | [], _, _, z => cases z
  | v :: _, _, .cons r _, z =>
    obtain ⟨t, rfl, _⟩ := r
    simp only [List.cons.injEq] at z
    exact nomatch z.1
/-- what _law_things has made so far -/
structure Th (H0 H : Hp) (p m q e dd : Addr) (ps R : List Str) (i : Nat) (ds : List Door) : Prop where
  but : But p H0 H
  box : Box H p
  at_m : H m = some (.lst ((R.drop i).reverse.map V.str))
  at_q : H q = some (.lst (ps.map V.str))
  at_e : H e = some (.lst (.str "out" :: .str "out" :: ps.map V.str))
  at_d : ∃ vs, H dd = some (.lst vs) ∧ Paired (DoorAt H) vs ds
  mq : m ≠ q
  me : m ≠ e
  md : m ≠ dd
  qd : q ≠ dd
  ed : e ≠ dd
section
variable {H0 H H' : Hp} {p m q e dd : Addr} {ps R : List Str} {i : Nat} {ds : List Door}
theorem Th.go (t : Th H0 H p m q e dd ps R i ds) (b : But p H H') (x : Box H' p) : Th H0 H' p m q e dd ps R i ds := by
  obtain ⟨vs, hv, pv⟩ := t.at_d
  exact { t with
    but := t.but.trans b
    box := x
    at_m := b _ _ (t.box.ne t.at_m (strs_box _)) t.at_m
    at_q := b _ _ (t.box.ne t.at_q (strs_box _)) t.at_q
    at_e := b _ _ (t.box.ne t.at_e (fun _ _ _ z => by cases z)) t.at_e
    at_d := ⟨vs, b _ _ (t.box.ne hv (doors_box pv)) hv, paired_mono (fun _ _ r => r.mono fun c ec => b _ _ (t.box.ne ec (fun _ _ _ z => by cases z)) ec) pv⟩ }
theorem Th.same (t : Th H0 H p m q e dd ps R i ds) (b : Same H H') : Th H0 H' p m q e dd ps R i ds := t.go (But.of_same b) (t.box.same b)
end
def Chosen (ps : List Str) (d : Door) : Prop := EndIn ps d.one ∧ EndIn ps d.two ∧ d.one ≠ d.two
theorem out_not : ("out" : Str) ∉ N16 := by decide +kernel
theorem of_ends {ps : List Str} {v : V} (h : v ∈ V.str "out" :: V.str "out" :: ps.map V.str) : ∃ x, v = .str x ∧ EndIn ps x := by
  rcases List.mem_cons.mp h with z | z
  · exact ⟨_, z, .inl rfl⟩
  · rcases List.mem_cons.mp z with z | z
    · exact ⟨_, z, .inl rfl⟩
    · obtain ⟨x, hx, rfl⟩ := List.mem_map.mp z
      exact ⟨x, rfl, .inr hx⟩
theorem pop_last {R : List Str} {i : Nat} (h : i < R.length) : ((R.drop i).reverse.map V.str)[((R.drop i).reverse.map V.str).length - 1]? = some (.str R[i]) ∧ ((R.drop i).reverse.map V.str).dropLast = (R.drop (i + 1)).reverse.map V.str := by
  have e : (R.drop i).reverse.map V.str = ((R.drop (i + 1)).reverse.map V.str) ++ [.str R[i]] := by
    rw [List.drop_eq_getElem_cons h, List.reverse_cons, List.map_append]
    rfl
  rw [e]
  generalize (R.drop (i + 1)).reverse.map V.str = L
  refine ⟨?_, List.dropLast_concat⟩
  rw [List.length_append]
  simp

section
variable {H0 H H' : Hp} {p m q e dd : Addr} {ps R : List Str} {i : Nat} {ds : List Door}
theorem Th.mp (t : Th H0 H p m q e dd ps R i ds) : m ≠ p := t.box.ne t.at_m (strs_box _)
theorem Th.dp (t : Th H0 H p m q e dd ps R i ds) : dd ≠ p := by
  obtain ⟨vs, hv, pv⟩ := t.at_d
  exact t.box.ne hv (doors_box pv)
theorem Th.pop (t : Th H0 H p m q e dd ps R i ds) (n0 : H0 m = none) : Th H0 (upd H m (.lst ((R.drop (i + 1)).reverse.map V.str))) p m q e dd ps R (i + 1) ds := by
  obtain ⟨vs, hv, pv⟩ := t.at_d
  obtain ⟨b0, b1, b2, eb, hb⟩ := t.box
  exact { t with
    but := fun c o ne e => by
      rw [upd_ne (fun z => by rw [z, n0] at e; cases e)]
      exact t.but c o ne e
    box := ⟨b0, b1, b2, by rw [upd_ne (Ne.symm t.mp)]; exact eb, hb⟩
    at_m := upd_same
    at_q := by rw [upd_ne (Ne.symm t.mq)]; exact t.at_q
    at_e := by rw [upd_ne (Ne.symm t.me)]; exact t.at_e
    at_d := ⟨vs, by rw [upd_ne (Ne.symm t.md)]; exact hv, paired_mono (fun _ _ r => r.mono fun c ec => by rw [upd_ne (ne_of ec t.at_m (fun z => by cases z))]; exact ec) pv⟩ }
theorem Th.add (t : Th H0 H p m q e dd ps R i ds) (n0 : H0 dd = none) {vs : List V} {v : V} {d : Door} (hv : H dd = some (.lst vs)) (pv : Paired (DoorAt H) vs ds) (hd : DoorAt H v d) : Th H0 (upd H dd (.lst (vs ++ [v]))) p m q e dd ps R i (ds ++ [d]) := by
  obtain ⟨b0, b1, b2, eb, hb⟩ := t.box
  exact { t with
    but := fun c o ne e => by
      rw [upd_ne (fun z => by rw [z, n0] at e; cases e)]
      exact t.but c o ne e
    box := ⟨b0, b1, b2, by rw [upd_ne (Ne.symm t.dp)]; exact eb, hb⟩
    at_m := by rw [upd_ne t.md]; exact t.at_m
    at_q := by rw [upd_ne t.qd]; exact t.at_q
    at_e := by rw [upd_ne t.ed]; exact t.at_e
    at_d := ⟨vs ++ [v], upd_same, paired_snoc (paired_mono (fun _ _ r => r.mono fun c ec => by rw [upd_ne (ne_of ec hv (fun z => by cases z))]; exact ec) pv) (hd.mono fun c ec => by rw [upd_ne (ne_of ec hv (fun z => by cases z))]; exact ec)⟩ }
theorem door_tail {K : W.Frag} {D : Ends} {x6 : Option V} {s1 s2 : Str} (t : Th H0 H p m q e dd ps R i ds) (n0 : H0 m = none) (d0 : H0 dd = none) (iR : i < R.length) (i5 : ds.length ≤ 7) (nm : ds.map (·.n) = R.take i) (ch : ∀ d, d ∈ ds → Chosen ps d)
    (in1 : EndIn ps s1) (in2 : EndIn ps s2) (ne12 : s1 ≠ s2)
    (h : ∀ H' ds', Th H0 H' p m q e dd ps R (i + 1) ds' → ds'.map (·.n) = R.take (i + 1) → (∀ d, d ∈ ds' → Chosen ps d) → D.nx [some (.ref p), some (.int 6), some (.ref m), some (.ref q), some (.ref e), some (.ref dd), x6, some (.str s1), some (.str s2)] H') :
    tDrop (tBM K "list" rAppend (tVar 5) (tCons (tTup (tCons (tBM0 K "list" rPop (tVar 2)) (tCons (tVar 7) (tCons (tVar 8) (tCons (tOp (rI0 fun i j => V.bl (decide (j < i))) (tCall spTake [] E0 (tCons (tVar 0) (tCons (tC (V.int 3)) tNil))) (tC (V.int 0))) tNil))))) tNil))
      D [some (.ref p), some (.int 6), some (.ref m), some (.ref q), some (.ref e), some (.ref dd), x6, some (.str s1), some (.str s2)] H := by
  obtain ⟨vs, hv, pv⟩ := t.at_d
  refine ⟨_, rfl, .inl ⟨rfl, _, SqL.of hv⟩, ?_⟩
  refine ⟨_, rfl, .inl ⟨rfl, _, SqL.of t.at_m⟩, m, _, _, rfl, rfl, t.at_m, (pop_last iR).1, ?_⟩
  rw [(pop_last iR).2]
  have t1 := t.pop n0
  refine ⟨_, rfl, _, rfl, _, rfl, p, _, rfl, t1.box, by decide, by decide, fun r H2 r0 r3 but2 x2 => ⟨_, _, rfl, rfl, by show 4 ≤ sizeLine; decide, fun a na => ?_⟩⟩
  have t2 := t1.go but2 x2
  have t3 := t2.same (same_upd (o := .tup [.str R[i], .str s1, .str s2, .bl (decide (0 < r))]) na)
  obtain ⟨ws, hw, pw⟩ := t3.at_d
  have lw := paired_len pw
  have at_a : DoorAt (upd H2 a (.tup [.str R[i], .str s1, .str s2, .bl (decide (0 < r))])) (.ref a) ⟨R[i], s1, s2, decide (0 < r)⟩ := ⟨a, rfl, upd_same⟩
  refine ⟨dd, _, _, rfl, rfl, hw, ?_, h _ _ (t3.add d0 hw pw at_a) ?_ ?_⟩
  · have : (100 : Nat) ≤ sizeLine := by decide
    omega
  · rw [List.map_append, nm, List.take_succ_eq_append_getElem iR]
    rfl
  · intro d hd
    rcases List.mem_append.mp hd with z | z
    · exact ch d z
    · obtain rfl := List.mem_singleton.mp z
      exact ⟨in1, in2, ne12⟩
end

def spThings : Sp := fun vs H Q _ => ∃ p : Addr, vs = [.ref p, .int 6] ∧ Box H p ∧
  ∀ (h : Hs) H' t a b c, Good h → But p H H' → Box H' p → H t = none → H' t = some (.tup [.ref a, .ref b, .ref c]) → HsAt H' h a b c → Q (.ref t) H'

section
variable {P : Program} {w : World} {K : W.Frag} {mg : Str → Option Value} {base : Heap}
theorem scTh : FnScope ["box", "most", "names", "parts", "ends", "doors", "turn", "one", "other"] ["box", "most"] (defScope sThings) := ⟨rfl, rfl, rfl, by decide +kernel, rfl, by decide +kernel, by decide +kernel⟩
theorem ok_things {f : Addr} {fd : FuncData} (F : Fun K "_law_things" "_law_things" sThings f fd) (B : Bl mg) (T : Callee P w K mg base "_law_take" 1 ["box", "many"] spTake)
    (M : Callee P w K mg base "_law_mixed" 2 ["box", "some"] spMixed) (Pk : Callee P w K mg base "_law_pick" 2 ["box", "some"] spPick) :
    FnOk P w K mg base CX0 3 f fd ["box", "most"] spThings := by
  refine F.ok scTh (fun vs H Q E h => ?_) (fun cdv A outer s H vs Q E hr h => ?_)
  · obtain ⟨p, rfl, _⟩ := h
    rfl
  · obtain ⟨p, rfl, hB, k⟩ := h
    have hr1 := hr.mono (show 1 ≤ 2 by decide)
    refine ⟨_, pss_cons (ps_set (i := 2) scTh.nd rfl (Or.inr rfl) (pe_callee M hr rfl (pa_cons (pv 0) (pa_cons (pe_lst (pa_cons pe_str (pa_cons pe_str (pa_cons pe_str (pa_cons pe_str (pa_cons pe_str (pa_cons pe_str (pa_cons pe_str (pa_cons pe_str
        (pa_cons pe_str (pa_cons pe_str (pa_cons pe_str (pa_cons pe_str (pa_cons pe_str (pa_cons pe_str (pa_cons pe_str (pa_cons pe_str pa_nil))))))))))))))))) pa_nil))))
      (pss_cons (ps_set (i := 3) scTh.nd rfl (Or.inr rfl) (pe_slice sl_list (pv 2) po_none (po_some (pe_op op_add pe_int (pe_callee T hr1 rfl (pa_cons (pv 0) (pa_cons (pv 1) pa_nil)))))))
      (pss_cons (ps_asg (pe_tup (pa_cons (pe_slice sl_list (pv 2) (po_some (pe_callB call_len_seq (by rfl) B.nums.len PySem.boot_len (pa_cons (pv 3) pa_nil))) po_none) (pa_cons (pe_op op_cat (pe_lst (pa_cons pe_str (pa_cons pe_str pa_nil))) (pv 3)) pa_nil)))
        (pg_tup rfl (pgs_cons (pg_name (i := 2) scTh.nd rfl (Or.inr rfl)) (pgs_cons (pg_name (i := 4) scTh.nd rfl (Or.inl rfl)) pgs_nil))))
      (pss_cons (ps_set (i := 5) scTh.nd rfl (Or.inl rfl) (pe_lst pa_nil))
      (pss_cons (ps_for PassesOwn.never rfl (pi_range1 rfl B.range (pa_cons (pe_callee T hr1 rfl (pa_cons (pv 0) (pa_cons (pe_op op_add pe_int (pv 1)) pa_nil))) pa_nil)) (pg_name (i := 6) scTh.nd rfl (Or.inl rfl))
        (pss_cons (ps_par (i := 7) (j := 8) (by rfl) scTh.nd rfl rfl (by decide) rfl rfl (pa_cons (pe_callee Pk hr rfl (pa_cons (pv 0) (pa_cons (pv 4) pa_nil))) (pa_cons (pe_callee Pk hr rfl (pa_cons (pv 0) (pa_cons (pv 4) pa_nil))) pa_nil)) (by rfl))
        (pss_cons (ps_if (pt_cmpR op_eq (pv 7) (pv 8) (nomark _)) (pss_one (ps_set (i := 8) scTh.nd rfl (Or.inl rfl) (pe_ifExp (pt_cmpR op_eq (pv 7) pe_str (nomark _)) (pe_callee Pk hr rfl (pa_cons (pv 0) (pa_cons (pv 3) pa_nil))) pe_str))) pss_nil)
        (pss_one (ps_expr (pe_bm PySem.F.plainAttrs_list PySem.F.slot_list_append PySem.F.type_list_append mt_append (pv 5)
          (pa_cons (pe_tup (pa_cons (pe_bm0 PySem.F.plainAttrs_list PySem.F.slot_list_pop PySem.F.type_list_pop mt_pop (pv 2)) (pa_cons (pv 7) (pa_cons (pv 8) (pa_cons (pe_cmpR op_gt (pe_callee T hr1 rfl (pa_cons (pv 0) (pa_cons pe_int pa_nil))) pe_int (nomark _)) pa_nil))))) pa_nil)))))))
      (pss_one (ps_ret (pe_tup (pa_cons (pv 3) (pa_cons (pv 5) (pa_cons (pe_lc (own := [("turn", 6)]) (g := gName 6) (tt := tYes) (by rfl) scTh.nd (pi_range1 rfl B.range (pa_cons (pe_callee T hr1 rfl (pa_cons (pv 0) (pa_cons pe_int pa_nil))) pa_nil))
        (blkOk_by (own := [("turn", 6)]) (N := ["box", "most", "names", "parts", "ends", "doors", "turn", "one", "other"]) (sc := defScope sThings) (by decide +kernel))
        (fun _ _ _ _ _ => pg_name (i := 6) scTh.nd rfl (Or.inl rfl)) (fun _ _ _ _ _ => pts_nil)
        (fun _ _ _ _ _ => pe_tup (pa_cons (show PE _ _ (tBM0 K "list" rPop (tVar 2)) from pe_bm0 PySem.F.plainAttrs_list PySem.F.slot_list_pop PySem.F.type_list_pop mt_pop (pv 2))
          (pa_cons (pe_callee Pk hr rfl (pa_cons (pv 0) (pa_cons (pv 3) pa_nil))) (pa_cons (pe_cmpR op_eq (pe_callee T hr1 rfl (pa_cons (pv 0) (pa_cons pe_int pa_nil))) pe_int (nomark _)) pa_nil))))) pa_nil)))))))))), ?_⟩
    refine ⟨_, rfl, by show 16 ≤ sizeLine; decide, fun l nl => ⟨p, l, N16, rfl, hB.same (same_upd nl), upd_same, by decide, by decide +kernel, fun ys H1 m perm but1 x1 nm at_m => ?_⟩⟩
    have nm0 := (none_of_upd nm).1
    have b1 : But p H H1 := (But.of_same (same_upd nl)).trans but1
    have l16 : ys.length = 16 := perm.length_eq
    refine ⟨_, rfl, _, rfl, _, rfl, p, _, rfl, x1, by decide, by decide, fun r H2 r0 r6 but2 x2 => ?_⟩
    have mp : m ≠ p := fun z => by
      obtain ⟨b0, b1, b2, e, _⟩ := hB
      rw [z, e] at nm0
      cases nm0
    have at_m2 := but2 _ _ mp at_m
    refine ⟨_, _, rfl, rfl, _, rfl, m, _, rfl, SqL.of at_m2, fun q nq => ?_⟩
    obtain ⟨j, rfl⟩ : ∃ j : Nat, r = (j : Int) := ⟨r.toNat, by omega⟩
    have hj : 1 + j ≤ ys.length := by omega
    have c1 : cutV (List.map V.str ys) none (some (1 + (j : Int))) = (ys.take (1 + j)).map V.str := by
      have := cut_take ys (1 + j) hj
      rw [← this]
      congr 2
    have lp : (ys.take (1 + j)).length = 1 + j := by rw [List.length_take]; omega
    rw [c1]
    have at_q3 : upd H2 q (.lst ((ys.take (1 + j)).map V.str)) q = some (.lst ((ys.take (1 + j)).map V.str)) := upd_same
    have s3 : Same H2 (upd H2 q (.lst ((ys.take (1 + j)).map V.str))) := same_upd nq
    revert at_q3 s3
    generalize upd H2 q (.lst ((ys.take (1 + j)).map V.str)) = H3
    intro at_q3 s3
    refine ⟨_, rfl, _, rfl, q, _, rfl, .inl (SqL.of at_q3), _, rfl, m, _, rfl, SqL.of (s3 _ _ at_m2), fun n nn => ?_⟩
    have c2 : cutV (List.map V.str ys) (some ((((ys.take (1 + j)).map V.str).length : Nat) : Int)) none = (ys.drop (1 + j)).map V.str := by
      rw [List.length_map, lp]
      exact cut_drop ys (1 + j) hj
    rw [c2]
    have at_n4 : upd H3 n (.lst ((ys.drop (1 + j)).map V.str)) n = some (.lst ((ys.drop (1 + j)).map V.str)) := upd_same
    have s4 : Same H3 (upd H3 n (.lst ((ys.drop (1 + j)).map V.str))) := same_upd nn
    revert at_n4 s4
    generalize upd H3 n (.lst ((ys.drop (1 + j)).map V.str)) = H4
    intro at_n4 s4
    refine ⟨by show 2 ≤ sizeLine; decide, fun u nu => ⟨_, rfl, u, q, _, _, rfl, rfl, upd_same, same_upd nu _ _ (s4 _ _ at_q3), ?_, fun e ne => ⟨by show 2 ≤ sizeLine; decide, fun t nt => ?_⟩⟩⟩
    · have : (20 : Nat) ≤ sizeLine := by decide
      rw [List.length_map, lp]
      show 2 + _ ≤ sizeLine
      omega
    obtain ⟨nu3, ue⟩ := none_of_upd ne
    have ne0 : H4 e = none := nu3
    obtain ⟨nt1, et⟩ := none_of_upd nt
    have s5 : Same H4 (upd (upd (upd H4 u (.lst [.str "out", .str "out"])) e (.lst ([V.str "out", V.str "out"] ++ (ys.take (1 + j)).map V.str))) t (.tup [.ref n, .ref e])) :=
      ((same_upd nu).trans (same_upd ne)).trans (same_upd nt)
    refine ⟨t, _, rfl, SqT.of upd_same, rfl, _, _, rfl, _, _, rfl, ⟨rfl, Nat.zero_le _, fun dd nd => ?_⟩⟩
    obtain ⟨nd1, td⟩ := none_of_upd nd
    obtain ⟨nd2, ed⟩ := none_of_upd nd1
    obtain ⟨nd3, ud⟩ := none_of_upd nd2
    have s6 : Same H4 (upd (upd (upd (upd H4 u (.lst [.str "out", .str "out"])) e (.lst ([V.str "out", V.str "out"] ++ (ys.take (1 + j)).map V.str))) t (.tup [.ref n, .ref e])) dd (.lst [])) := s5.trans (same_upd nd)
    have at_e7 : upd (upd (upd (upd H4 u (.lst [.str "out", .str "out"])) e (.lst ([V.str "out", V.str "out"] ++ (ys.take (1 + j)).map V.str))) t (.tup [.ref n, .ref e])) dd (.lst []) e = some (.lst (.str "out" :: .str "out" :: (ys.take (1 + j)).map V.str)) := by
      rw [upd_ne ed, upd_ne et, upd_same]
      rfl
    have at_d7 : upd (upd (upd (upd H4 u (.lst [.str "out", .str "out"])) e (.lst ([V.str "out", V.str "out"] ++ (ys.take (1 + j)).map V.str))) t (.tup [.ref n, .ref e])) dd (.lst []) dd = some (.lst []) := upd_same
    revert s6 at_e7 at_d7
    generalize upd (upd (upd (upd H4 u (.lst [.str "out", .str "out"])) e (.lst ([V.str "out", V.str "out"] ++ (ys.take (1 + j)).map V.str))) t (.tup [.ref n, .ref e])) dd (.lst []) = H7
    intro s6 at_e7 at_d7
    have th : Th H H7 p n q e dd (ys.take (1 + j)) (ys.drop (1 + j)).reverse 0 [] := {
      but := (((b1.trans but2).trans (But.of_same s3)).trans (But.of_same s4)).trans (But.of_same s6)
      box := ((x2.same s3).same s4).same s6
      at_m := by
        rw [List.drop_zero, List.reverse_reverse]
        exact s6 _ _ at_n4
      at_q := s6 _ _ (s4 _ _ at_q3)
      at_e := at_e7
      at_d := ⟨[], at_d7, .nil⟩
      mq := Ne.symm (ne_of_none at_q3 nn)
      me := ne_of_none at_n4 ne0
      md := ne_of_none at_n4 nd3
      qd := ne_of_none (s4 _ _ at_q3) nd3
      ed := ed }
    have b2 : But p H H2 := b1.trans but2
    have n00 : H n = none := b2.free x2 (s3.free nn)
    have d00 : H dd = none := b2.free x2 (s3.free (s4.free nd3))
    have lR : (ys.drop (1 + j)).reverse.length = 15 - j := by
      rw [List.length_reverse, List.length_drop]
      omega
    have fin : ∀ (h : Hs), h.parts = ys.take (1 + j) → (h.doors.map (·.n) ++ h.cells.map (·.n)) <+: (ys.drop (1 + j)).reverse → h.doors.length ≤ 7 → h.cells.length ≤ 3 → (∀ d, d ∈ h.doors → Chosen (ys.take (1 + j)) d) → (∀ c, c ∈ h.cells → c.p ∈ ys.take (1 + j)) → Good h := by
      intro h hp pre d7 c3 ends cin
      have pm : (ys.take (1 + j) ++ (ys.drop (1 + j)).reverse).Perm ys := by
        have := (List.reverse_perm (ys.drop (1 + j))).append_left (ys.take (1 + j))
        rwa [List.take_append_drop] at this
      have sub : h.names.Sublist (ys.take (1 + j) ++ (ys.drop (1 + j)).reverse) := by
        unfold Hs.names
        rw [hp]
        exact (List.Sublist.refl _).append pre.sublist
      have nd : (ys.take (1 + j) ++ (ys.drop (1 + j)).reverse).Nodup := (pm.trans perm).nodup_iff.mpr (by decide +kernel)
      exact {
        p1 := by rw [hp, lp]; omega
        p6 := by rw [hp, lp]; omega
        d7 := d7
        c3 := c3
        nodup := sub.nodup nd
        sub := fun x hx => (pm.trans perm).subset (sub.subset hx)
        ends := fun d hd => by rw [hp]; exact ends d hd
        cin := fun c hc => by rw [hp]; exact cin c hc }
    have no_out : ∀ x, x ∈ ys.take (1 + j) → x ≠ "out" := fun x hx z => out_not (z ▸ perm.subset (List.mem_of_mem_take hx))
    generalize (ys.drop (1 + j)).reverse = R at th lR fin
    generalize ys.take (1 + j) = ps at th lp fin no_out
    refine ⟨_, rfl, _, rfl, _, _, rfl, rfl, p, _, rfl, th.box, by decide, by decide, fun r8 H8 r80 r86 but8 x8 => ?_⟩
    have th8 := th.go but8 x8
    obtain ⟨nd8, rfl⟩ : ∃ j : Nat, r8 = (j : Int) := ⟨r8.toNat, by omega⟩
    have lt6 : nd8 < 8 := by
      have : (nd8 : Int) < 8 := r86
      omega
    refine ⟨_, rfl, by omega, by omega, for_range (n := nd8) (fun i σ H' => ∃ (ds : List Door) (v6 v7 v8 : Option V), σ = [some (.ref p), some (.int 6), some (.ref n), some (.ref q), some (.ref e), some (.ref dd), v6, v7, v8] ∧ Th H H' p n q e dd ps R i ds ∧
      ds.map (·.n) = R.take i ∧ ∀ d, d ∈ ds → Chosen ps d) ⟨[], _, _, _, rfl, th8, by simp, fun d hd => nomatch hd⟩ ?_ ?_⟩
    · rintro i σ H9 hi ⟨ds, v6, v7, v8, rfl, t9, nm, ch⟩
      have iR : i < R.length := by omega
      have ep : ∀ {H' : Hp}, Th H H' p n q e dd ps R i ds → p ≠ e := fun {H'} t => (t.box.ne t.at_e (fun _ _ _ z => by cases z)).symm
      have ds5 : ds.length = i := by
        have := congrArg List.length nm
        rw [List.length_map, List.length_take] at this
        omega
      refine ⟨_, rfl, _, rfl, p, e, _, rfl, ep t9, t9.box, t9.at_e, by simp, by simp; omega, fun v1 Ha hv1 buta xa => ?_⟩
      have ta := t9.go buta xa
      refine ⟨_, rfl, _, rfl, p, e, _, rfl, ep ta, ta.box, ta.at_e, by simp, by simp; omega, fun v2 Hb hv2 butb xb => ?_⟩
      have tb := ta.go butb xb
      obtain ⟨s1, rfl, in1⟩ := of_ends hv1
      obtain ⟨s2, rfl, in2⟩ := of_ends hv2
      refine ⟨_, _, rfl, ?_⟩
      refine ⟨_, rfl, _, rfl, rfl, _, rfl, ?_⟩
      have d0 : H dd = none := d00
      have n0 : H n = none := n00
      refine ite2 (fun hb => ?_) (fun hb => ?_)
      · have e12 : s1 = s2 := by simpa using hb
        subst e12
        refine ⟨_, rfl, rfl, _, rfl, ?_⟩
        refine ite2 (fun hc => ?_) (fun hc => ?_)
        · obtain rfl : s1 = "out" := by simpa using hc
          refine ⟨_, rfl, _, rfl, p, q, _, rfl, ?_, tb.box, tb.at_q, ?_, ?_, fun v3 Hc hv3 butc xc => ?_⟩
          · exact (tb.box.ne tb.at_q (strs_box _)).symm
          · rw [List.length_map, lp]; omega
          · rw [List.length_map, lp]; omega
          · have tc := tb.go butc xc
            obtain ⟨y, hy, rfl⟩ := List.mem_map.mp hv3
            exact door_tail tc n0 d0 iR (by omega) nm ch (.inl rfl) (.inr hy) (fun z => no_out y hy z.symm) fun H' ds' t' nm' ch' => ⟨ds', _, _, _, rfl, t', nm', ch'⟩
        · exact door_tail tb n0 d0 iR (by omega) nm ch in1 (.inl rfl) (fun z => hc (by simp [z])) fun H' ds' t' nm' ch' => ⟨ds', _, _, _, rfl, t', nm', ch'⟩
      · exact door_tail tb n0 d0 iR (by omega) nm ch in1 in2 (fun z => hb (by simp [z])) fun H' ds' t' nm' ch' => ⟨ds', _, _, _, rfl, t', nm', ch'⟩
    · rintro σ H9 ⟨ds, v6, v7, v8, rfl, t9, nm, ch⟩
      have ds5 : ds.length = nd8 := by
        have := congrArg List.length nm
        rw [List.length_map, List.length_take] at this
        omega
      refine ⟨_, rfl, _, rfl, _, rfl, p, _, rfl, t9.box, by decide, by decide, fun r9 H10 r90 r94 but10 x10 => ?_⟩
      have t10 := t9.go but10 x10
      obtain ⟨nc, rfl⟩ : ∃ j : Nat, r9 = (j : Int) := ⟨r9.toNat, by omega⟩
      have lt4 : nc < 4 := by
        have : (nc : Int) < 4 := r94
        omega
      refine ⟨_, rfl, by omega, by omega, fun D nD => ?_⟩
      have Dn : n ≠ D := ne_of_none t10.at_m nD
      have Dp : D ≠ p := fun z => by
        obtain ⟨b0, b1, b2, eb, _⟩ := t10.box
        rw [← z, nD] at eb
        cases eb
      have hD : H D = none := t10.but.free t10.box nD
      refine lc_range (lo := 0) (n := nc) (fun i H' => ∃ (cs : List Cell) (ws : List V), Th H H' p n q e dd ps R (nd8 + i) ds ∧ H' D = some (.lst ws) ∧ Paired (CellAt H') ws cs ∧ cs.map (·.n) = (R.drop nd8).take i ∧ ∀ c, c ∈ cs → c.p ∈ ps)
        ⟨[], [], t10.same (same_upd nD), upd_same, .nil, by simp, fun c hc => nomatch hc⟩ ?_ ?_
      · rintro i H11 hi ⟨cs, ws, t11, at_D, pw, cn, ci⟩
        have iR : nd8 + i < R.length := by omega
        have lw := paired_len pw
        have lc : cs.length = i := by
          have := congrArg List.length cn
          rw [List.length_map, List.length_take, List.length_drop] at this
          omega
        refine ⟨rfl, ?_⟩
        refine ⟨_, rfl, .inl ⟨rfl, _, SqL.of t11.at_m⟩, n, _, _, rfl, rfl, t11.at_m, (pop_last iR).1, ?_⟩
        rw [(pop_last iR).2]
        have t12 := t11.pop n00
        have at_D12 : upd H11 n (.lst ((R.drop (nd8 + i + 1)).reverse.map V.str)) D = some (.lst ws) := by
          rw [upd_ne (Ne.symm Dn)]
          exact at_D
        have pw12 : Paired (CellAt (upd H11 n (.lst ((R.drop (nd8 + i + 1)).reverse.map V.str)))) ws cs := paired_mono (fun _ _ r => r.mono fun c ec => by rw [upd_ne (ne_of ec t11.at_m (fun z => by cases z))]; exact ec) pw
        revert t12 at_D12 pw12
        generalize upd H11 n (.lst ((R.drop (nd8 + i + 1)).reverse.map V.str)) = H12
        intro t12 at_D12 pw12
        refine ⟨_, rfl, _, rfl, p, q, _, rfl, (t12.box.ne t12.at_q (strs_box _)).symm, t12.box, t12.at_q, by rw [List.length_map, lp]; omega, by rw [List.length_map, lp]; omega, fun v3 H13 hv3 but13 x13 => ?_⟩
        obtain ⟨y, hy, rfl⟩ := List.mem_map.mp hv3
        have t13 := t12.go but13 x13
        have stay : ∀ {H1 H2 : Hp}, Box H1 p → But p H1 H2 → Paired (CellAt H1) ws cs → Paired (CellAt H2) ws cs := fun {H1 H2} x b pw => paired_mono (fun _ _ r => r.mono fun c ec => b _ _ (x.ne ec (fun _ _ _ z => by cases z)) ec) pw
        have pw13 := stay t12.box but13 pw12
        have at_D13 := but13 _ _ Dp at_D12
        refine ⟨_, rfl, p, _, rfl, t13.box, by decide, by decide, fun r14 H14 r140 r142 but14 x14 => ⟨rfl, by show 3 ≤ sizeLine; decide, fun a na => ?_⟩⟩
        have t14 := t13.go but14 x14
        have pw14 := stay t13.box but14 pw13
        have at_D14 := but14 _ _ Dp at_D13
        have s15 : Same H14 (upd H14 a (.tup [.str R[nd8 + i], .str y, .bl (decide (V.int r14 = V.int 0))])) := same_upd na
        have t15 := t14.same s15
        have at_D15 := s15 _ _ at_D14
        have pw15 := stay t14.box (But.of_same s15) pw14
        have new : CellAt (upd H14 a (.tup [.str R[nd8 + i], .str y, .bl (decide (V.int r14 = V.int 0))])) (.ref a) ⟨R[nd8 + i], y, decide (V.int r14 = V.int 0)⟩ := ⟨a, rfl, upd_same⟩
        obtain ⟨vs, hv, pv⟩ := t15.at_d
        have Dd : dd ≠ D := fun z => by
          obtain ⟨vs', hv', _⟩ := t10.at_d
          rw [z, nD] at hv'
          cases hv'
        obtain ⟨c0, c1, c2, ec, hc⟩ := t15.box
        refine ⟨_, at_D15, ?_, cs ++ [⟨R[nd8 + i], y, decide (V.int r14 = V.int 0)⟩], ws ++ [.ref a], ?_, upd_same, ?_, ?_, ?_⟩
        · have : (100 : Nat) ≤ sizeLine := by decide
          omega
        · exact { t15 with
            but := fun c o ne e => by
              rw [upd_ne (fun z => by rw [z, hD] at e; cases e)]
              exact t15.but c o ne e
            box := ⟨c0, c1, c2, by rw [upd_ne (Ne.symm Dp)]; exact ec, hc⟩
            at_m := by rw [upd_ne Dn]; exact t15.at_m
            at_q := by
              rw [upd_ne (fun z => by rw [← z] at nD; rw [t10.at_q] at nD; cases nD)]
              exact t15.at_q
            at_e := by
              rw [upd_ne (fun z => by rw [← z] at nD; rw [t10.at_e] at nD; cases nD)]
              exact t15.at_e
            at_d := ⟨vs, by rw [upd_ne Dd]; exact hv, paired_mono (fun _ _ r => r.mono fun c ec => by rw [upd_ne (ne_of ec at_D15 (fun z => by cases z))]; exact ec) pv⟩ }
        · exact paired_snoc (paired_mono (fun _ _ r => r.mono fun c ec => by rw [upd_ne (ne_of ec at_D15 (fun z => by cases z))]; exact ec) pw15) (new.mono fun c ec => by rw [upd_ne (ne_of ec at_D15 (fun z => by cases z))]; exact ec)
        · rw [List.map_append, cn, List.take_succ_eq_append_getElem (by rw [List.length_drop]; omega)]
          simp
        · intro c hc
          rcases List.mem_append.mp hc with z | z
          · exact ci c z
          · obtain rfl := List.mem_singleton.mp z
            exact hy
      · rintro H11 ⟨cs, ws, t11, at_D, pw, cn, ci⟩
        have lc : cs.length = nc := by
          have := congrArg List.length cn
          rw [List.length_map, List.length_take, List.length_drop] at this
          omega
        refine ⟨by show 3 ≤ sizeLine; decide, fun t nt => ?_⟩
        have s12 : Same H11 (upd H11 t (.tup [.ref q, .ref dd, .ref D])) := same_upd nt
        have t12 := t11.same s12
        refine k ⟨ps, ds, cs⟩ _ t q dd D (fin _ rfl ?_ (by show ds.length ≤ 7; omega) (by show cs.length ≤ 3; omega) ch ci) t12.but t12.box (t11.but.free t11.box nt) upd_same ⟨t12.at_q, t12.at_d, ws, s12 _ _ at_D, paired_mono (fun _ _ r => r.mono fun c ec => s12 _ _ ec) pw⟩
        show ds.map (·.n) ++ cs.map (·.n) <+: R
        rw [nm, cn, ← List.take_add]
        exact List.take_prefix _ _
end
end K01

namespace K01
open PySem PySem.Spec PyProof.Rows L2
open Cal EnuT Sqx Exn Keys

abbrev CE (P : Program) (w : World) (K : W.Frag) (mg : Str → Option Value) (base : Heap) (x : Str) (C : Addr) (f : Str) : Prop := Cl1 P w K mg base x C f "Exception" "Exception.__new__" "Exception.__init__" exTail
/-- a def by its name in the module, that may raise -/
def CalleeX (P : Program) (w : World) (K : W.Frag) (mg : Str → Option Value) (base : Heap) (x : Str) (k : Nat) (ps : List Str) (sp : Sp) : Prop :=
  ∃ f fd, mg x = some (.ref f) ∧ W.keepIn K (.ref f) = true ∧ Binds K fd ps [] ∧ FnOk P w K mg base (L2.CX P w) k f fd ps sp
theorem pe_calleeX {X : Cx} {x : Str} {k : Nat} {ps : List Str} {sp : Sp} {E : XK} {p pos : Pos} {e : Expr} {es : List Expr} {t : TA} (c : CalleeX X.prog X.w X.K X.mg X.base x k ps sp) (hr : Room k X.A) (hg : Gl X x) (hx : Passes (L2.CX X.prog X.w) X E) (ha : PA X (e :: es) t)
    (hdb : (x == ("__debug__" : Str)) = false := by decide) (he : starEach (e :: es) X.env = (false, eval e X.env) :: starEach es X.env := by rfl) (hpl : (backTo pos (starEach es X.env)).any (·.1) = false := by rfl) :
    PE X (.Call (.Name x p) (e :: es) [] pos) (tCall sp [] E t) := by
  obtain ⟨f, fd, m, kp, b, F⟩ := c
  exact pe_call F hr hg m kp b .nil hx ha hdb he hpl
theorem kept {σ : L2.St} {H : Hp} {A B : Hp → Prop} (h : A H) : tYes σ H (fun b H3 => if b = true then A H3 else B H3) := by
  show (if true = true then A H else B H)
  rw [if_pos rfl]
  exact h
theorem paired_get {α β : Type} {R : α → β → Prop} : ∀ {xs : List α} {ys : List β} {i : Nat} {x : α}, Paired R xs ys → xs[i]? = some x → ∃ y, ys[i]? = some y ∧ R x y
  | _, _, 0, _, .cons r _, h => ⟨_, rfl, by cases h; exact r⟩
  | _, _, i + 1, _, .cons _ t, h => paired_get (i := i) t h
  | _, _, _, _, .nil, h => nomatch h
/-! ### what any value is -/
/-- values without parts, short -/
def flatOk : V → Bool
  | .non => true
  | .bl _ => true
  | .int _ => true
  | .str s => decide (s.length ≤ 1000)
  | _ => false
inductive Tv
  | fl (v : V)
  | sq (xs : List V)
def TvAt (H : Hp) (v : V) : Tv → Prop
  | .fl u => v = u ∧ flatOk u = true
  | .sq xs => ∃ a, v = .ref a ∧ SeqAt H a xs ∧ xs.length ≤ 20 ∧ ∀ x, x ∈ xs → flatOk x = true
inductive Av
  | fl (v : V)
  | sq (ts : List Tv)
def AvAt (H : Hp) (v : V) : Av → Prop
  | .fl u => v = u ∧ flatOk u = true
  | .sq ts => ∃ a vs, v = .ref a ∧ SeqAt H a vs ∧ Paired (TvAt H) vs ts ∧ ts.length ≤ 20
theorem TvAt.same {H H' : Hp} (s : Same H H') {v : V} {t : Tv} (x : TvAt H v t) : TvAt H' v t := by
  cases t with
  | fl u => exact x
  | sq xs =>
    obtain ⟨a, e, sq, r⟩ := x
    exact ⟨a, e, sq.same s, r⟩
theorem AvAt.same {H H' : Hp} (s : Same H H') {v : V} {t : Av} (x : AvAt H v t) : AvAt H' v t := by
  cases t with
  | fl u => exact x
  | sq ts =>
    obtain ⟨a, vs, e, sq, pw, r⟩ := x
    exact ⟨a, vs, e, sq.same s, paired_mono (fun _ _ q => q.same s) pw, r⟩
def isStr : V → Bool
  | .str _ => true
  | _ => false
def isBl : V → Bool
  | .bl _ => true
  | _ => false
theorem any_ty {K : W.Frag} {t : String} {a b : Bool} (h1 : kitB t "list" = some a) (h2 : kitB t "tuple" = some b) : W.kitAny K (.type t) [.type "list", .type "tuple"] = some (a || b) := by
  cases a <;> cases b <;> simp [W.kitAny, kit_ty h1, kit_ty h2]
theorem flat_ty {K : W.Frag} {H : Hp} {v : V} (o : flatOk v = true) : ∃ t, TyX K H v t ∧ W.kitAny K t [.type "list", .type "tuple"] = some false ∧ W.kitOne K t (.type "str") = some (isStr v) ∧ W.kitOne K t (.type "bool") = some (isBl v) := by
  cases v with
  | non => exact ⟨_, .base .non, any_ty (show kitB "NoneType" "list" = some false by decide +kernel) (show kitB "NoneType" "tuple" = some false by decide +kernel), kit_ty (show kitB "NoneType" "str" = some false by decide +kernel), kit_ty (show kitB "NoneType" "bool" = some false by decide +kernel)⟩
  | bl b => exact ⟨_, .base (.bl b), any_ty (show kitB "bool" "list" = some false by decide +kernel) (show kitB "bool" "tuple" = some false by decide +kernel), kit_ty (show kitB "bool" "str" = some false by decide +kernel), kit_ty (show kitB "bool" "bool" = some true by decide +kernel)⟩
  | int i => exact ⟨_, .base (.int i), any_ty (show kitB "int" "list" = some false by decide +kernel) (show kitB "int" "tuple" = some false by decide +kernel), kit_ty (show kitB "int" "str" = some false by decide +kernel), kit_ty (show kitB "int" "bool" = some false by decide +kernel)⟩
  | str x => exact ⟨_, .base (.str x), any_ty (show kitB "str" "list" = some false by decide +kernel) (show kitB "str" "tuple" = some false by decide +kernel), kit_ty (show kitB "str" "str" = some true by decide +kernel), kit_ty (show kitB "str" "bool" = some false by decide +kernel)⟩
  | _ => cases o
theorem seq_ty {K : W.Frag} {H : Hp} {a : Addr} {xs : List V} (o : SeqAt H a xs) : ∃ t, TyX K H (.ref a) t ∧ W.kitAny K t [.type "list", .type "tuple"] = some true ∧ W.kitOne K t (.type "str") = some false := by
  rcases o with h | h
  · exact ⟨_, .base (.lst h), any_ty (show kitB "list" "list" = some true by decide +kernel) (show kitB "list" "tuple" = some false by decide +kernel), kit_ty (show kitB "list" "str" = some false by decide +kernel)⟩
  · exact ⟨_, .base (.tup h), any_ty (show kitB "tuple" "list" = some false by decide +kernel) (show kitB "tuple" "tuple" = some true by decide +kernel), kit_ty (show kitB "tuple" "str" = some false by decide +kernel)⟩
/-- a value that is flat (none), or a list or tuple of these -/
def SqOf (H : Hp) (v : V) : Option (List V) → Prop
  | none => flatOk v = true
  | some xs => ∃ a, v = .ref a ∧ SeqAt H a xs
theorem TvAt.sqof {H : Hp} {v : V} {t : Tv} (x : TvAt H v t) : SqOf H v (match t with | .fl _ => none | .sq xs => some xs) := by
  cases t with
  | fl u => obtain ⟨rfl, h⟩ := x; exact h
  | sq xs => obtain ⟨a, e, sq, _⟩ := x; exact ⟨a, e, sq⟩
def signOk (c : Nat) : Bool := (!decide (([c] : List Nat) < ("a" : Str).cps.toList)) && !decide (("z" : Str).cps.toList < [c])
def nameOk (s : Str) : Bool := decide (1 ≤ s.length) && decide (s.length ≤ 8) && decide (s ≠ "out") && s.cps.toList.all signOk
def nmB : V → Bool
  | .str s => nameOk s
  | _ => false
def nmT : Tv → Bool
  | .fl v => nmB v
  | _ => false
def spSeq : Sp := fun vs H Q _ => ∃ v o, vs = [v] ∧ SqOf H v o ∧ ∀ H', Same H H' → Q (.bl o.isSome) H'
def spName : Sp := fun vs H Q _ => ∃ v t, vs = [v] ∧ TvAt H v t ∧ ∀ H', Same H H' → Q (.bl (nmT t)) H'
section
variable {P : Program} {w : World} {K : W.Frag} {mg : Str → Option Value} {base : Heap}
theorem scSq : FnScope ["value"] ["value"] (defScope sIsSeq) := ⟨rfl, rfl, rfl, by decide +kernel, rfl, by decide +kernel, by decide +kernel⟩
theorem ok_isseq {f : Addr} {fd : FuncData} (F : Fun K "is_sequence" "is_sequence" sIsSeq f fd) (B : Bl mg) : FnOk P w K mg base CX0 1 f fd ["value"] spSeq := by
  refine F.ok scSq (fun vs H Q E h => ?_) (fun cdv A outer s H vs Q E hr h => ?_)
  · obtain ⟨v, o, rfl, _⟩ := h
    rfl
  · obtain ⟨v, o, rfl, sq, k⟩ := h
    refine ⟨_, pss_one (ps_ret (pe_callB call_isiT (by rfl) B.isi (by decide +kernel) (pa_cons (pv 0) (pa_cons (pe_tup (pa_cons (pe_bltn (v := .ty "list") rfl B.list (by decide +kernel) rfl) (pa_cons (pe_bltn (v := .ty "tuple") rfl B.tuple (by decide +kernel) rfl) pa_nil))) pa_nil)))), ?_⟩
    refine ⟨_, rfl, by show 2 ≤ sizeLine; decide, fun t nt => ?_⟩
    have s1 := same_upd (o := .tup [.ty "list", .ty "tuple"]) nt
    cases o with
    | none =>
      obtain ⟨ty, h1, h2, _⟩ := flat_ty (K := K) (H := upd H t (.tup [.ty "list", .ty "tuple"])) sq
      exact ⟨_, t, _, _, _, _, rfl, upd_same, .cons (.ty "list") (.cons (.ty "tuple") .nil), h1, h2, k _ s1⟩
    | some xs =>
      obtain ⟨a, rfl, sq⟩ := sq
      obtain ⟨ty, h1, h2, _⟩ := seq_ty (K := K) (sq.same s1)
      exact ⟨_, t, _, _, _, _, rfl, upd_same, .cons (.ty "list") (.cons (.ty "tuple") .nil), h1, h2, k _ s1⟩
theorem scNm : FnScope ["value", "sign"] ["value"] (defScope sIsName) := ⟨rfl, rfl, rfl, by decide +kernel, rfl, by decide +kernel, by decide +kernel⟩
theorem ok_isname {f : Addr} {fd : FuncData} (F : Fun K "is_name" "is_name" sIsName f fd) (B : Bl mg) : FnOk P w K mg base CX0 1 f fd ["value"] spName := by
  refine F.ok scNm (fun vs H Q E h => ?_) (fun cdv A outer s H vs Q E hr h => ?_)
  · obtain ⟨v, t, rfl, _⟩ := h
    rfl
  · obtain ⟨v, t, rfl, o, k⟩ := h
    refine ⟨_, pss_cons (ps_if (PW.pt (pw_or (pt_not (pt_val (pe_callB call_isi (by rfl) B.isi (by decide +kernel) (pa_cons (pv 0) (pa_cons (pe_bltn (v := .ty "str") rfl B.str (by decide +kernel) rfl) pa_nil)))))
        (pw_or (pt_not (pt_chain op_le op_le pe_int (pe_callB call_len_str (by rfl) B.nums.len PySem.boot_len (pa_cons (pv 0) pa_nil)) pe_int)) (pw_or1 (pt_cmpR op_eq (pv 0) pe_str (nomark _)))))) (pss_one (ps_ret pe_bl)) pss_nil)
      (pss_one (ps_ret (pe_callB (cr_all rfl) (by rfl) B.all (by decide +kernel) (pa_cons (pe_lc (own := [("sign", 1)]) (g := gName 1) (tt := tYes) (by rfl) scNm.nd (pi_str (pv 0))
        (blkOk_by (own := [("sign", 1)]) (N := ["value", "sign"]) (sc := defScope sIsName) (by decide +kernel))
        (fun _ _ _ _ _ => pg_name (i := 1) scNm.nd rfl (Or.inl rfl)) (fun _ _ _ _ _ => pts_nil)
        (fun _ _ _ _ _ => pe_chain op_le_str op_le_str pe_str (pv 1) pe_str)) pa_nil)))), ?_⟩
    have line : (1000 : Nat) ≤ sizeLine := by decide
    have q0 := k H (Same.refl _)
    cases t with
    | sq xs =>
      obtain ⟨a, rfl, sq, _⟩ := o
      obtain ⟨ty, h1, _, h3⟩ := seq_ty (K := K) sq
      exact ⟨_, rfl, _, _, _, _, _, rfl, .ty "str", h1, h3, _, rfl, iteT (iteT q0)⟩
    | fl u =>
    obtain ⟨rfl, fo⟩ := o
    obtain ⟨ty, h1, _, h3, _⟩ := flat_ty (K := K) (H := H) fo
    refine ⟨_, rfl, _, _, _, _, _, rfl, .ty "str", h1, h3, _, rfl, ?_⟩
    cases es : isStr v with
    | false =>
      refine iteT (iteT ?_)
      have : nmT (.fl v) = false := by cases v <;> first | rfl | (cases es)
      rwa [this] at q0
    | true =>
      obtain ⟨z, rfl⟩ : ∃ z, v = .str z := by cases v <;> first | exact ⟨_, rfl⟩ | (cases es)
      have zf : z.length ≤ 1000 := by simpa [flatOk] using fo
      have no : nameOk z = false → Q (.bl false) H := fun e => by
        rwa [show nmT (.fl (.str z)) = nameOk z from rfl, e] at q0
      refine iteF ⟨_, rfl, z, rfl, Nat.le_trans zf line, 1, _, rfl, rfl, _, rfl, ?_⟩
      by_cases z1 : 1 ≤ z.length
      · rw [decide_eq_true (show (1 : Int) ≤ (z.length : Nat) by omega)]
        refine iteT ⟨_, 8, rfl, rfl, _, rfl, ?_⟩
        by_cases z8 : z.length ≤ 8
        · rw [decide_eq_true (show ((z.length : Nat) : Int) ≤ 8 by omega)]
          refine iteF ⟨_, rfl, rfl, _, rfl, ?_⟩
          by_cases zo : z = "out"
          · rw [decide_eq_true (by rw [zo])]
            exact iteT (no (by simp [nameOk, zo]))
          · rw [decide_eq_false (fun y => zo (by injection y))]
            refine iteF ⟨_, rfl, z, rfl, fun D nD => ?_⟩
            refine lc_it walk_str (fun i H' => Same H H' ∧ H' D = some (.lst (((z.cps.toList.take i).map signOk).map V.bl))) ⟨same_upd nD, upd_same⟩ (fun _ _ _ _ => trivial) ?_ ?_
            · rintro i x H1 H1' hi ⟨s1, at_D⟩ ⟨rfl, c, hc, rfl⟩
              have hl : i < 8 := by
                have : z.length = z.cps.size := rfl
                omega
              have next : ∀ b, b = signOk c → Same H (upd H1' D (.lst (((z.cps.toList.take i).map signOk).map V.bl ++ [.bl b]))) ∧ upd H1' D (.lst (((z.cps.toList.take i).map signOk).map V.bl ++ [.bl b])) D = some (.lst (((z.cps.toList.take (i + 1)).map signOk).map V.bl)) := fun b hb => by
                refine ⟨fun a o e => ?_, ?_⟩
                · by_cases ha : a = D
                  · rw [ha, nD] at e
                    cases e
                  · rw [upd_ne ha]
                    exact s1 _ _ e
                · obtain ⟨lt, e⟩ := Array.getElem?_eq_some_iff.mp hc
                  have lt' : i < z.cps.toList.length := by simpa using lt
                  have e' : z.cps.toList[i] = c := by simpa using e
                  rw [upd_same, List.take_succ_eq_append_getElem lt', e', List.map_append, List.map_append, hb]
                  rfl
              have fw : (((z.cps.toList.take i).map signOk).map V.bl).length < sizeLine := by
                rw [List.length_map, List.length_map, List.length_take]
                omega
              refine ⟨rfl, kept ⟨_, rfl, _, _, rfl, rfl, _, rfl, ?_⟩⟩
              show ite ((!decide (([c] : List Nat) < ("a" : Str).cps.toList)) = true) _ _
              refine ite2 (fun h1 => ?_) (fun h1 => ?_)
              · refine ⟨_, _, rfl, rfl, _, at_D, fw, next _ ?_⟩
                show (!decide (("z" : Str).cps.toList < [c])) = signOk c
                unfold signOk
                rw [h1, Bool.true_and]
              · refine ⟨_, at_D, fw, next false ?_⟩
                unfold signOk
                cases h : (!decide (([c] : List Nat) < ("a" : Str).cps.toList)) with
                | false => rfl
                | true => exact absurd h h1
            · rintro H1 ⟨s1, at_D⟩
              rw [show z.cps.size = z.cps.toList.length by simp, List.take_length] at at_D
              refine ⟨D, _, rfl, SqL.of at_D, ?_⟩
              have q := k _ s1
              rw [show nmT (.fl (.str z)) = nameOk z from rfl] at q
              have e : nameOk z = (z.cps.toList.map signOk).all id := by
                rw [List.all_map]
                simp [nameOk, z1, z8, zo]
              rwa [e] at q
        · rw [decide_eq_false (show ¬ ((z.length : Nat) : Int) ≤ 8 by omega)]
          exact iteT (no (by simp [nameOk, z8]))
      · rw [decide_eq_false (show ¬ (1 : Int) ≤ (z.length : Nat) by omega)]
        exact iteF ⟨_, rfl, iteT (no (by simp [nameOk, z1]))⟩
end
end K01

namespace K01
open PySem PySem.Spec PyProof.Rows L2
open Cal EnuT Sqx Exn Keys

/-- how it ends with InvalidHouse of a number -/
def Bad (CH : Addr) (H : Hp) (E : XK) (i : Nat) : Prop := ∀ H' d, Same H H' → H d = none → H' d = some (.xd [("at", .int (i : Nat))]) → E (.ref CH) (some d) H'
def strT (s : Str) : Tv := .fl (.str s)
structure GoodPs (ps : List Str) : Prop where
  len : ps.length ≤ 8
  nodup : ps.Nodup
  name : ∀ x, x ∈ ps → nameOk x = true
def OddPart (ps : List Str) (t : Tv) : Prop := ps.length = 8 ∨ nmT t = false ∨ ∃ s, s ∈ ps ∧ t = strT s
def spParts (CH : Addr) : Sp := fun vs H Q E => ∃ v a, vs = [v] ∧ AvAt H v a ∧ ((((∃ u, a = .fl u) ∨ a = .sq []) ∧ Bad CH H E 0) ∨
  ∃ ps rs, a = .sq (ps.map strT ++ rs) ∧ 1 ≤ ps.length + rs.length ∧ GoodPs ps ∧ (∀ t rest, rs = t :: rest → OddPart ps t ∧ Bad CH H E ps.length) ∧ (rs = [] → ∀ H' t, Same H H' → H' t = some (.tup (ps.map V.str)) → Q (.ref t) H'))
theorem flat_strs (ps : List Str) : (ps.map V.str).all flatV = true := by
  rw [List.all_map]
  exact List.all_eq_true.mpr fun _ _ => rfl
theorem inV_strs (x : Str) (ps : List Str) : inV (.str x) (ps.map V.str) = decide (x ∈ ps) := by
  unfold inV
  rw [List.any_map]
  induction ps with
  | nil => rfl
  | cons y ps ih =>
    rw [List.any_cons, ih]
    have : eqV (.str y) (.str x) = decide (y = x) := by
      by_cases h : y = x
      · subst h
        simp [eqV]
      · simp [eqV, h]
    show (eqV (.str y) (.str x) || decide (x ∈ ps)) = _
    rw [this]
    by_cases h : y = x
    · simp [h]
    · simp [h, Ne.symm h]
theorem paired_split {α β : Type} {R : α → β → Prop} : ∀ {xs : List α} {ys zs : List β}, Paired R xs (ys ++ zs) → ∃ as bs, xs = as ++ bs ∧ Paired R as ys ∧ Paired R bs zs
  | xs, [], zs, h => ⟨[], xs, rfl, .nil, h⟩
  | _, y :: ys, zs, .cons r t => by
    obtain ⟨as, bs, rfl, h1, h2⟩ := paired_split t
    exact ⟨_ :: as, bs, rfl, .cons r h1, h2⟩
theorem strs_of {H : Hp} : ∀ {as : List V} {ps : List Str}, Paired (TvAt H) as (ps.map strT) → as = ps.map V.str
  | _, [], .nil => rfl
  | _, p :: ps, .cons r t => by
    rw [strs_of t]
    obtain ⟨rfl, _⟩ := r
    rfl
theorem cut_takeV (xs : List V) (k : Nat) (h : k ≤ xs.length) : cutV xs none (some ((k : Nat) : Int)) = xs.take k := by
  unfold cutV HT.sIx
  dsimp only
  rw [if_neg (by omega), Int.toNat_natCast, Nat.min_eq_left h]
  simp
section
variable {P : Program} {w : World} {K : W.Frag} {mg : Str → Option Value} {base : Heap}
theorem scCP : FnScope ["parts", "at", "name"] ["parts"] (defScope sChParts) := ⟨rfl, rfl, rfl, by decide +kernel, rfl, by decide +kernel, by decide +kernel⟩
theorem ok_chparts {f CH : Addr} {fd : FuncData} (F : Fun K "_checked_parts" "_checked_parts" sChParts f fd) (B : Bl mg) (cH : CE P w K mg base "InvalidHouse" CH "at") (Sq : Callee P w K mg base "is_sequence" 1 ["value"] spSeq) (Nm : Callee P w K mg base "is_name" 1 ["value"] spName)
    {mt : Tok} (mP : mg "MOST_PARTS" = some (.int 8 mt)) : FnOk P w K mg base (L2.CX P w) 3 f fd ["parts"] (spParts CH) := by
  refine F.okX scCP (fun vs H Q E h => ?_) (fun cdv A outer s H vs Q E hr h => ?_)
  · obtain ⟨v, a, rfl, _⟩ := h
    rfl
  · obtain ⟨v, a, rfl, at_v, ev⟩ := h
    have hr1 := hr.mono (show 1 ≤ 2 by decide)
    refine ⟨_, pss_cons (ps_if (PW.pt (pw_or (pt_not (pt_val (pe_callee Sq hr1 rfl (pa_cons (pv 0) pa_nil)))) (pw_or1 (pt_not (pt_truth (pv 0) (by intro _; rfl)))))) (pss_one (ps_raise rfl (takes_of rfl rfl rfl rfl) (pmk_exn cH hr rfl pe_int))) pss_nil)
      (pss_cons (ps_for PassesOwn.leaving rfl (pi_enumS (by rfl) B.enu (pa_cons (pv 0) pa_nil)) (pg_tup rfl (pgs_cons (pg_name (i := 1) scCP.nd rfl (Or.inl rfl)) (pgs_cons (pg_name (i := 2) scCP.nd rfl (Or.inl rfl)) pgs_nil)))
        (pss_one (ps_if (PW.pt (pw_or (pt_cmpR op_ge (pv 1) (pe_glob (v := .int 8) rfl mP ⟨_, rfl⟩) (nomark _)) (pw_or (pt_not (pt_val (pe_callee Nm hr1 rfl (pa_cons (pv 2) pa_nil)))) (pw_or1 (pt_cmpR op_in_seq (pv 2) (pe_slice (SlR.or sl_list sl_tup) (pv 0) po_none (po_some (pv 1))) (by rfl))))))
          (pss_one (ps_raise rfl (takes_of rfl rfl rfl rfl) (pmk_exn cH hr rfl (pv 1)))) pss_nil)))
      (pss_one (ps_ret (pe_callTy call_tuple_of (by rfl) B.tuple (by decide +kernel) (pa_cons (pv 0) pa_nil))))), ?_⟩
    rcases ev with ⟨(⟨u, rfl⟩ | rfl), bad⟩ | ⟨ps, rs, rfl, ne, good, odd, k⟩
    · obtain ⟨rfl, fo⟩ := at_v
      exact ⟨_, rfl, v, none, rfl, fo, fun H1 s1 => ⟨_, rfl, iteT (iteT ⟨_, rfl, fun d nd => bad _ d (s1.trans (same_upd nd)) (s1.free nd) upd_same⟩)⟩⟩
    · obtain ⟨a, vs, rfl, sq, pw, _⟩ := at_v
      cases pw
      refine ⟨_, rfl, _, some [], rfl, ⟨a, rfl, sq⟩, fun H1 s1 => ⟨_, rfl, iteF ⟨_, rfl, false, ?_, ?_⟩⟩⟩
      · rcases sq with e | e
        · exact .inl ⟨_, SqL.of (s1 _ _ e), rfl⟩
        · exact .inr (.inl ⟨_, SqT.of (s1 _ _ e), rfl⟩)
      · exact iteT ⟨_, rfl, fun d nd => bad _ d (s1.trans (same_upd nd)) (s1.free nd) upd_same⟩
    · obtain ⟨a, vs, rfl, sq, pw, l20⟩ := at_v
      obtain ⟨as, ws, rfl, pa, pb⟩ := paired_split pw
      obtain rfl := strs_of pa
      have lw := paired_len pb
      refine ⟨_, rfl, _, some _, rfl, ⟨a, rfl, sq⟩, fun H1 s1 => ⟨_, rfl, iteF ⟨_, rfl, true, ?_, iteF ?_⟩⟩⟩
      · have : true = !(ps.map V.str ++ ws).isEmpty := by
          cases ps with
          | nil => cases ws with
            | nil => simp at ne lw; omega
            | cons _ _ => rfl
          | cons _ _ => rfl
        rcases sq with e | e
        · exact .inl ⟨_, SqL.of (s1 _ _ e), this⟩
        · exact .inr (.inl ⟨_, SqT.of (s1 _ _ e), this⟩)
      refine ⟨_, rfl, a, rfl, en_for (xs := ps.map V.str ++ ws) (fun i σ H' => ∃ v1 v2 : Option V, σ = [some (.ref a), v1, v2] ∧ Same H1 H' ∧ i ≤ ps.length) (sq.same s1) ⟨_, _, rfl, Same.refl _, Nat.zero_le _⟩ (fun i σ' H' _ z => ?_) ?_ ?_⟩
      · obtain ⟨_, _, _, s, _⟩ := z
        exact fun o e => s _ _ e
      · rintro i x σ' H2 T hx ⟨v1, v2, rfl, s2, le⟩ nT
        have s3 := same_upd (o := .tup [.int (i : Nat), x]) nT
        have s23 := s2.trans s3
        have s03 := s1.trans s23
        obtain ⟨t, ht, ax⟩ := paired_get pw hx
        have at_end : i = ps.length → ∃ rest, rs = t :: rest := fun e => by
          rw [List.getElem?_append_right (by rw [List.length_map]; omega), List.length_map, e, Nat.sub_self] at ht
          cases rs with
          | nil => cases ht
          | cons y rest => exact ⟨rest, by cases ht; rfl⟩
        have here : ∀ lt : i < ps.length, t = strT ps[i] := fun lt => by
          rw [List.getElem?_append_left (by rw [List.length_map]; omega), List.getElem?_map, List.getElem?_eq_getElem lt] at ht
          exact (Option.some.inj ht).symm
        have fail : i = ps.length → ∀ {H'}, Same H H' → ∀ d, H' d = none → E (.ref CH) (some d) (upd H' d (.xd [("at", .int (i : Nat))])) := fun e H' s' d nd => by
          obtain ⟨rest, er⟩ := at_end e
          have := (odd t rest er).2
          rw [← e] at this
          exact this _ d (s'.trans (same_upd nd)) (s'.free nd) upd_same
        have le8 := good.len
        refine ⟨T, _, rfl, SqT.of upd_same, rfl, _, _, rfl, _, _, rfl, ⟨rfl, _, rfl, _, _, rfl, rfl, _, rfl, ?_⟩⟩
        by_cases i8 : i = 8
        · rw [decide_eq_true (show (8 : Int) ≤ (i : Nat) by omega)]
          exact iteT (iteT ⟨_, rfl, _, rfl, fun d nd => fail (by omega) s03 d nd⟩)
        rw [decide_eq_false (show ¬ (8 : Int) ≤ (i : Nat) by omega)]
        refine iteF ⟨_, rfl, x, t, rfl, (ax.same s03), fun H4 s4 => ⟨_, rfl, ?_⟩⟩
        have s04 := s03.trans s4
        cases nt : nmT t with
        | false =>
          refine iteT (iteT ⟨_, rfl, _, rfl, fun d nd => fail ?_ s04 d nd⟩)
          by_cases lt : i < ps.length
          · rw [here lt, show nmT (strT ps[i]) = nameOk ps[i] from rfl, good.name _ (List.getElem_mem lt)] at nt
            cases nt
          · omega
        | true =>
          obtain ⟨s, rfl⟩ : ∃ s, t = strT s := by
            cases t with
            | sq _ => cases nt
            | fl u => cases u <;> first | exact ⟨_, rfl⟩ | cases nt
          obtain ⟨rfl, _⟩ := ax
          have m1 : s ∈ ps.take i → i = ps.length := fun h => by
            by_cases lt : i < ps.length
            · have e := here lt
              injection e with e
              injection e with e
              obtain ⟨j, hj, ej⟩ := List.getElem_of_mem h
              rw [List.length_take] at hj
              rw [List.getElem_take] at ej
              have := List.pairwise_iff_getElem.mp (List.nodup_iff_pairwise_ne.mp good.nodup) j i (by omega) lt (by omega)
              exact absurd (ej.trans e) this
            · omega
          have m2 : s ∉ ps.take i → i < ps.length := fun h => by
            apply Nat.lt_of_not_le
            intro ge
            have e : i = ps.length := by omega
            obtain ⟨rest, er⟩ := at_end e
            rcases (odd _ rest er).1 with z | z | ⟨s', hs', es⟩
            · omega
            · rw [nt] at z; cases z
            · injection es with es
              injection es with es
              rw [e, List.take_length, es] at h
              exact h hs'
          have take : (ps.map V.str ++ ws).take i = (ps.take i).map V.str := by
            rw [List.take_append_of_le_length (by rw [List.length_map]; exact le), List.map_take]
          have l1 : i ≤ (ps.map V.str ++ ws).length := by rw [List.length_append, List.length_map]; omega
          rcases sq with e | e
          · refine iteF ⟨_, rfl, _, rfl, _, rfl, _, rfl, .inl ⟨a, _, rfl, SqL.of (s04 _ _ e), fun q nq => ?_⟩⟩
            rw [cut_takeV _ _ l1, take]
            refine ⟨q, _, rfl, .inl (SqL.of upd_same), rfl, flat_strs _, _, rfl, ?_⟩
            rw [inV_strs]
            have s5 := same_upd (o := .lst ((ps.take i).map V.str)) nq
            refine ite2 (fun h => ?_) (fun h => ?_)
            · exact ⟨_, rfl, _, rfl, fun d nd => fail (m1 (of_decide_eq_true h)) (s04.trans s5) d nd⟩
            · exact ⟨_, _, rfl, (s23.trans s4).trans s5, m2 (fun z => h (decide_eq_true z))⟩
          · refine iteF ⟨_, rfl, _, rfl, _, rfl, _, rfl, .inr ⟨a, _, rfl, SqT.of (s04 _ _ e), ?_, fun q nq => ?_⟩⟩
            · rintro ⟨_, z⟩
              have lt : i < (ps.map V.str ++ ws).length := (List.getElem?_eq_some_iff.mp hx).1
              rw [HT.sIx_nat] at z
              omega
            rw [cut_takeV _ _ l1, take]
            refine ⟨q, _, rfl, .inr (SqT.of upd_same), rfl, flat_strs _, _, rfl, ?_⟩
            rw [inV_strs]
            have s5 := same_upd (o := .tup ((ps.take i).map V.str)) nq
            refine ite2 (fun h => ?_) (fun h => ?_)
            · exact ⟨_, rfl, _, rfl, fun d nd => fail (m1 (of_decide_eq_true h)) (s04.trans s5) d nd⟩
            · exact ⟨_, _, rfl, (s23.trans s4).trans s5, m2 (fun z => h (decide_eq_true z))⟩
      · rintro σ' H2 ⟨v1, v2, rfl, s2, le⟩
        have l0 : ws = [] := by
          rw [List.length_append, List.length_map] at le
          exact List.eq_nil_of_length_eq_zero (by omega)
        subst l0
        have r0 : rs = [] := List.eq_nil_of_length_eq_zero (by rw [← lw]; rfl)
        have s02 := s1.trans s2
        rw [List.append_nil] at sq
        rcases sq with e | e
        · exact ⟨_, rfl, a, _, rfl, .inl ⟨SqL.of (s02 _ _ e), fun l nl => k r0 _ l (s02.trans (same_upd nl)) upd_same⟩⟩
        · exact ⟨_, rfl, a, _, rfl, .inr ⟨SqT.of (s02 _ _ e), k r0 _ a s02 (s02 _ _ e)⟩⟩
end
end K01

namespace K01
open PySem PySem.Spec PyProof.Rows L2
open Cal EnuT Sqx Exn Keys

def endsV (ps : List Str) : List V := ps.map V.str ++ [.str "out"]
/-- whether any value is a door between these parts and the yard -/
def doorB (ps : List Str) : Tv → Bool
  | .sq [x0, x1, x2, x3] => nmB x0 && (inV x1 (endsV ps) && (inV x2 (endsV ps) && (!decide (x1 = x2) && isBl x3)))
  | _ => false
def cellB (ps : List Str) : Tv → Bool
  | .sq [x0, x1, x2] => nmB x0 && (inV x1 (ps.map V.str) && isBl x2)
  | _ => false
def spThing (B : List Str → Tv → Bool) : Sp := fun vs H Q _ => ∃ v tp t ps, vs = [v, .ref tp] ∧ TvAt H v t ∧ H tp = some (.tup (ps.map V.str)) ∧ ps.length ≤ 8 ∧ ∀ H', Same H H' → Q (.bl (B ps t)) H'
theorem flat_of {v : V} (h : flatOk v = true) : flatV v = true := by cases v <;> first | rfl | cases h
theorem in_str {x : V} (h : flatOk x = true) {ps : List Str} (i : inV x (ps.map V.str) = true) : ∃ s, x = .str s ∧ s ∈ ps := by
  cases x with
  | str s =>
    rw [inV_strs] at i
    exact ⟨s, rfl, of_decide_eq_true i⟩
  | non => exfalso; induction ps with
    | nil => cases i
    | cons p ps ih => exact ih (by simpa [inV, eqV] using i)
  | bl b => exfalso; induction ps with
    | nil => cases i
    | cons p ps ih => exact ih (by simpa [inV, eqV] using i)
  | int b => exfalso; induction ps with
    | nil => cases i
    | cons p ps ih => exact ih (by simpa [inV, eqV] using i)
  | _ => cases h
theorem ends_strs (ps : List Str) : endsV ps = (ps ++ [("out" : Str)]).map V.str := by
  rw [List.map_append]
  rfl
theorem len_ne {n m : Nat} : decide (V.int (n : Nat) = V.int (m : Nat)) = decide (n = m) := by
  by_cases e : n = m
  · rw [e]
    simp
  · rw [decide_eq_false e]
    refine decide_eq_false fun z => e ?_
    injection z with z
    omega
section
variable {P : Program} {w : World} {K : W.Frag} {mg : Str → Option Value} {base : Heap}
abbrev ND : List Str := ["door", "parts", "name", "one", "other", "is_open", "ends"]
theorem scDo : FnScope ND ["door", "parts"] (defScope sIsDoor) := ⟨rfl, rfl, rfl, by decide +kernel, rfl, by decide +kernel, by decide +kernel⟩
theorem ok_isdoor {f : Addr} {fd : FuncData} (F : Fun K "_is_door" "_is_door" sIsDoor f fd) (B : Bl mg) (Sq : Callee P w K mg base "is_sequence" 1 ["value"] spSeq) (Nm : Callee P w K mg base "is_name" 1 ["value"] spName) :
    FnOk P w K mg base CX0 2 f fd ["door", "parts"] (spThing doorB) := by
  refine F.ok scDo (fun vs H Q E h => ?_) (fun cdv A outer s H vs Q E hr h => ?_)
  · obtain ⟨v, tp, t, ps, rfl, _⟩ := h
    rfl
  · obtain ⟨v, tp, t, ps, rfl, ht, hp, p8, k⟩ := h
    refine ⟨_, pss_cons (ps_if (PW.pt (pw_or (pt_not (pt_val (pe_callee Sq hr rfl (pa_cons (pv 0) pa_nil)))) (pw_or1 (pt_cmpR op_ne (pe_callB call_len_seq (by rfl) B.nums.len PySem.boot_len (pa_cons (pv 0) pa_nil)) pe_int (nomark _))))) (pss_one (ps_ret pe_bl)) pss_nil)
      (pss_cons (ps_asg (pv 0) (PG_or (pg_tup rfl (pgs_cons (pg_name (i := 2) scDo.nd rfl (Or.inl rfl)) (pgs_cons (pg_name (i := 3) scDo.nd rfl (Or.inl rfl)) (pgs_cons (pg_name (i := 4) scDo.nd rfl (Or.inl rfl)) (pgs_cons (pg_name (i := 5) scDo.nd rfl (Or.inl rfl)) pgs_nil)))))
        (pg_unl rfl (pgs_cons (pg_name (i := 2) scDo.nd rfl (Or.inl rfl)) (pgs_cons (pg_name (i := 3) scDo.nd rfl (Or.inl rfl)) (pgs_cons (pg_name (i := 4) scDo.nd rfl (Or.inl rfl)) (pgs_cons (pg_name (i := 5) scDo.nd rfl (Or.inl rfl)) pgs_nil)))))))
      (pss_cons (ps_set (i := 6) scDo.nd rfl (Or.inl rfl) (pe_tup (StX.pa_star (pv 1) (pa_cons pe_str pa_nil))))
      (pss_one (ps_ret (pe_and (pe_callee Nm hr rfl (pa_cons (pv 2) pa_nil)) (pe_and (pe_cmpR op_in_seq (pv 3) (pv 6) (by rfl)) (pe_and (pe_cmpR op_in_seq (pv 4) (pv 6) (by rfl)) (pe_and (pe_cmpR op_ne (pv 3) (pv 4) (nomark _))
        (pe_one (pe_callB call_isi (by rfl) B.isi (by decide +kernel) (pa_cons (pv 5) (pa_cons (pe_bltn (v := .ty "bool") rfl B.bool (by decide +kernel) rfl) pa_nil)))))))))))), ?_⟩
    refine ⟨_, rfl, v, _, rfl, ht.sqof, fun H1 s1 => ⟨_, rfl, ?_⟩⟩
    cases t with
    | fl u => exact iteT (iteT (k _ s1))
    | sq xs =>
    obtain ⟨a, rfl, sq, l20, fl⟩ := ht
    refine iteF ⟨_, rfl, a, xs, rfl, (sq.same s1).sq, rfl, _, rfl, ?_⟩
    show ite ((!decide (V.int (xs.length : Nat) = V.int (4 : Nat))) = true) _ _
    rw [len_ne]
    by_cases l4 : xs.length = 4
    · obtain ⟨x0, x1, x2, x3, rfl⟩ : ∃ x0 x1 x2 x3, xs = [x0, x1, x2, x3] := by
        match xs, l4 with
        | [x0, x1, x2, x3], _ => exact ⟨x0, x1, x2, x3, rfl⟩
      have f0 := fl x0 (by simp)
      have f1 := fl x1 (by simp)
      have f2 := fl x2 (by simp)
      have f3 := fl x3 (by simp)
      refine iteF ⟨_, rfl, un_sq (sq.same s1) rfl ⟨_, _, rfl, _, _, rfl, _, _, rfl, _, _, rfl, rfl, ?_⟩⟩
      refine ⟨_, rfl, tp, _, rfl, .inl (SqT.of (s1 _ _ hp)), ?_, fun e ne' => ?_⟩
      · have : (20 : Nat) ≤ sizeLine := by decide
        rw [List.length_append, List.length_map]
        show ps.length + 1 ≤ _
        omega
      have s2 := same_upd (o := .tup (endsV ps)) ne'
      have fle : (endsV ps).all flatV = true := by rw [ends_strs]; exact flat_strs _
      have b : doorB ps (.sq [x0, x1, x2, x3]) = (nmT (.fl x0) && (inV x1 (endsV ps) && (inV x2 (endsV ps) && (!decide (x1 = x2) && isBl x3)))) := rfl
      rw [b] at k
      refine ⟨_, rfl, x0, .fl x0, rfl, ⟨rfl, f0⟩, fun H3 s3 => ⟨_, rfl, ?_⟩⟩
      have at_e := s3 e _ upd_same
      have sall := (s1.trans s2).trans s3
      cases c0 : nmT (.fl x0) with
      | false =>
        rw [c0] at k
        exact iteF (k _ sall)
      | true =>
      rw [c0, Bool.true_and] at k
      refine iteT ⟨_, rfl, _, rfl, e, _, rfl, .inr (SqT.of at_e), flat_of f1, fle, ⟨_, rfl, ?_⟩⟩
      show ite (inV x1 (endsV ps) = true) _ _
      cases c1 : inV x1 (endsV ps) with
      | false =>
        rw [c1] at k
        exact iteF (k _ sall)
      | true =>
      rw [c1, Bool.true_and] at k
      refine iteT ⟨_, rfl, _, rfl, e, _, rfl, .inr (SqT.of at_e), flat_of f2, fle, ⟨_, rfl, ?_⟩⟩
      show ite (inV x2 (endsV ps) = true) _ _
      cases c2 : inV x2 (endsV ps) with
      | false =>
        rw [c2] at k
        exact iteF (k _ sall)
      | true =>
      rw [c2, Bool.true_and] at k
      rw [ends_strs] at c1 c2
      obtain ⟨s1', rfl, _⟩ := in_str f1 c1
      obtain ⟨s2', rfl, _⟩ := in_str f2 c2
      refine iteT ⟨_, rfl, _, rfl, rfl, ⟨_, rfl, ?_⟩⟩
      cases c3 : (!decide (V.str s1' = V.str s2')) with
      | false =>
        rw [c3] at k
        exact iteF (k _ sall)
      | true =>
      rw [c3, Bool.true_and] at k
      obtain ⟨ty, t1, _, _, t2⟩ := flat_ty (K := K) (H := H3) f3
      exact iteT ⟨_, rfl, _, _, _, _, _, rfl, .ty "bool", t1, t2, k _ sall⟩
    · rw [decide_eq_false l4]
      refine iteT ?_
      have : doorB ps (.sq xs) = false := by
        unfold doorB
        split
        · rename_i h
          injection h with h
          rw [h] at l4
          exact absurd rfl l4
        · rfl
      have q := k _ s1
      rwa [this] at q
theorem scCe : FnScope ["cell", "parts"] ["cell", "parts"] (defScope sIsCell) := ⟨rfl, rfl, rfl, by decide +kernel, rfl, by decide +kernel, by decide +kernel⟩
theorem ok_iscell {f : Addr} {fd : FuncData} (F : Fun K "_is_cell" "_is_cell" sIsCell f fd) (B : Bl mg) (Sq : Callee P w K mg base "is_sequence" 1 ["value"] spSeq) (Nm : Callee P w K mg base "is_name" 1 ["value"] spName) :
    FnOk P w K mg base CX0 2 f fd ["cell", "parts"] (spThing cellB) := by
  refine F.ok scCe (fun vs H Q E h => ?_) (fun cdv A outer s H vs Q E hr h => ?_)
  · obtain ⟨v, tp, t, ps, rfl, _⟩ := h
    rfl
  · obtain ⟨v, tp, t, ps, rfl, ht, hp, p8, k⟩ := h
    refine ⟨_, pss_cons (ps_if (PW.pt (pw_or (pt_not (pt_val (pe_callee Sq hr rfl (pa_cons (pv 0) pa_nil)))) (pw_or1 (pt_cmpR op_ne (pe_callB call_len_seq (by rfl) B.nums.len PySem.boot_len (pa_cons (pv 0) pa_nil)) pe_int (nomark _))))) (pss_one (ps_ret pe_bl)) pss_nil)
      (pss_one (ps_ret (pe_and (pe_callee Nm hr rfl (pa_cons (pe_ix ix_seq (pv 0) pe_int (fun _ _ => rfl)) pa_nil)) (pe_and (pe_cmpR op_in_seq (pe_ix ix_seq (pv 0) pe_int (fun _ _ => rfl)) (pv 1) (by rfl))
        (pe_one (pe_callB call_isi (by rfl) B.isi (by decide +kernel) (pa_cons (pe_ix ix_seq (pv 0) pe_int (fun _ _ => rfl)) (pa_cons (pe_bltn (v := .ty "bool") rfl B.bool (by decide +kernel) rfl) pa_nil)))))))), ?_⟩
    refine ⟨_, rfl, v, _, rfl, ht.sqof, fun H1 s1 => ⟨_, rfl, ?_⟩⟩
    cases t with
    | fl u => exact iteT (iteT (k _ s1))
    | sq xs =>
    obtain ⟨a, rfl, sq, l20, fl⟩ := ht
    refine iteF ⟨_, rfl, a, xs, rfl, (sq.same s1).sq, rfl, _, rfl, ?_⟩
    show ite ((!decide (V.int (xs.length : Nat) = V.int (3 : Nat))) = true) _ _
    rw [len_ne]
    by_cases l4 : xs.length = 3
    · obtain ⟨x0, x1, x2, rfl⟩ : ∃ x0 x1 x2, xs = [x0, x1, x2] := by
        match xs, l4 with
        | [x0, x1, x2], _ => exact ⟨x0, x1, x2, rfl⟩
      have f0 := fl x0 (by simp)
      have f1 := fl x1 (by simp)
      have f2 := fl x2 (by simp)
      have fle := flat_strs ps
      have b : cellB ps (.sq [x0, x1, x2]) = (nmT (.fl x0) && (inV x1 (ps.map V.str) && isBl x2)) := rfl
      rw [b] at k
      refine iteF ⟨_, rfl, ix_sq (sq.same s1) (atI_nat (j := 0) rfl) ⟨x0, .fl x0, rfl, ⟨rfl, f0⟩, fun H3 s3 => ⟨_, rfl, ?_⟩⟩⟩
      have sall := s1.trans s3
      cases c0 : nmT (.fl x0) with
      | false =>
        rw [c0] at k
        exact iteF (k _ sall)
      | true =>
      rw [c0, Bool.true_and] at k
      refine iteT ⟨_, rfl, ix_sq (sq.same sall) (atI_nat (j := 1) rfl) ⟨_, rfl, tp, _, rfl, .inr (SqT.of (sall _ _ hp)), flat_of f1, fle, ⟨_, rfl, ?_⟩⟩⟩
      show ite (inV x1 (ps.map V.str) = true) _ _
      cases c1 : inV x1 (ps.map V.str) with
      | false =>
        rw [c1] at k
        exact iteF (k _ sall)
      | true =>
      rw [c1, Bool.true_and] at k
      obtain ⟨ty, t1, _, _, t2⟩ := flat_ty (K := K) (H := H3) f2
      exact iteT ⟨_, rfl, ix_sq (sq.same sall) (atI_nat (j := 2) rfl) ⟨_, _, _, _, _, rfl, .ty "bool", t1, t2, k _ sall⟩⟩
    · rw [decide_eq_false l4]
      refine iteT ?_
      have : cellB ps (.sq xs) = false := by
        unfold cellB
        split
        · rename_i h
          injection h with h
          rw [h] at l4
          exact absurd rfl l4
        · rfl
      have q := k _ s1
      rwa [this] at q
end
end K01

namespace K01
open PySem PySem.Spec PyProof.Rows L2
open Cal EnuT Sqx Exn Keys

def nameT : Tv → Option Str
  | .sq (.str n :: _) => some n
  | _ => none
structure OkThings (B : List Str → Tv → Bool) (ps tn : List Str) (m : Nat) (ts : List Tv) (ns : List Str) : Prop where
  ok : ∀ t, t ∈ ts → B ps t = true
  names : ts.map nameT = ns.map some
  nodup : (tn ++ ns).Nodup
  few : ts.length ≤ m
def OddThing (B : List Str → Tv → Bool) (ps tn : List Str) (m : Nat) (ts : List Tv) (ns : List Str) (t : Tv) : Prop := ts.length = m ∨ B ps t = false ∨ ∃ n, nameT t = some n ∧ n ∈ tn ++ ns
def TupAt (H : Hp) (w : V) (t : Tv) : Prop := ∃ c xs, w = .ref c ∧ t = .sq xs ∧ H c = some (.tup xs)
def NamedB (B : List Str → Tv → Bool) : Prop := ∀ ps t, B ps t = true → ∃ n xs, t = .sq (.str n :: xs)
theorem named_door : NamedB doorB := by
  intro ps t h
  unfold doorB at h
  split at h
  · rename_i x0 x1 x2 x3
    cases x0 <;> first | exact ⟨_, _, rfl⟩ | (simp [nmB] at h)
  · cases h
theorem named_cell : NamedB cellB := by
  intro ps t h
  unfold cellB at h
  split at h
  · rename_i x0 x1 x2
    cases x0 <;> first | exact ⟨_, _, rfl⟩ | (simp [nmB] at h)
  · cases h
def spThings' (CH : Addr) (S : Addr → Option Sp) : Sp := fun vs H Q E => ∃ (v : V) (m : Nat) (tp tk f : Addr) (b : Av) (ps tn : List Str) (B : List Str → Tv → Bool), vs = [v, .int m, .ref tp, .ref tk, .ref f] ∧ AvAt H v b ∧ m ≤ 20 ∧ H tp = some (.tup (ps.map V.str)) ∧ ps.length ≤ 8 ∧
  SeqAt H tk (tn.map V.str) ∧ tn.length ≤ 40 ∧ S f = some (spThing B) ∧ NamedB B ∧ (((∃ u, b = .fl u) ∧ Bad CH H E tn.length) ∨
  ∃ ts rs ns, b = .sq (ts ++ rs) ∧ OkThings B ps tn m ts ns ∧ (∀ t rest, rs = t :: rest → OddThing B ps tn m ts ns t ∧ Bad CH H E (tn.length + ts.length)) ∧
    (rs = [] → ∀ H' t ws, Same H H' → H' t = some (.tup ws) → Paired (TupAt H') ws ts → Q (.ref t) H'))
abbrev TupCall (K : W.Frag) (i : Nat) : TE := tCB (fun xs H Q => ∃ p ys, xs = [V.ref p] ∧ ((SqL K H p ys ∧ ∀ (l : Addr), H l = none → Q (.ref l) (upd H l (.tup ys))) ∨ SqT K H p ys ∧ Q (.ref p) H)) (tCons (tVar i) tNil)
theorem ret_one {te : TE} {D : Ends} {σ : L2.St} {H : Hp} (h : te σ H D.rt) : tRet te D σ H := h
theorem cb_one {r : List V → Hp → VK → Prop} {te : TE} {σ : L2.St} {H : Hp} {Q : VK} (h : te σ H fun x H1 => r [x] H1 Q) : tCB r (tCons te tNil) σ H Q := h
section
variable {P : Program} {w : World} {K : W.Frag} {mg : Str → Option Value} {base : Heap}
abbrev NCT : List Str := ["things", "most", "parts", "taken", "is_thing", "names", "at", "thing"]
theorem scCT : FnScope NCT ["things", "most", "parts", "taken", "is_thing"] (defScope sChThings) := ⟨rfl, rfl, rfl, by decide +kernel, rfl, by decide +kernel, by decide +kernel⟩
theorem ok_chthings {f CH : Addr} {fd : FuncData} (F : Fun K "_checked_things" "_checked_things" sChThings f fd) (B : Bl mg) (cH : CE P w K mg base "InvalidHouse" CH "at") (Sq : Callee P w K mg base "is_sequence" 1 ["value"] spSeq) (S : Addr → Option Sp) (hS : ∀ f sp, S f = some sp → Held P w K mg base 2 f sp) :
    FnOk P w K mg base (L2.CX P w) 3 f fd ["things", "most", "parts", "taken", "is_thing"] (spThings' CH S) := by
  refine F.okX scCT (fun vs H Q E h => ?_) (fun cdv A outer s H vs Q E hr h => ?_)
  · obtain ⟨v, m, tp, tk, f, b, ps, tn, Bt, rfl, _⟩ := h
    rfl
  · obtain ⟨v, m, tp, tk, f, b, ps, tn, Bt, rfl, at_v, m20, hp, p8, sk, t40, hf, nB, ev⟩ := h
    have hr1 := hr.mono (show 1 ≤ 2 by decide)
    refine ⟨_, pss_cons (ps_set (i := 5) scCT.nd rfl (Or.inl rfl) (pe_callTy call_list_of (by rfl) B.list (by decide +kernel) (pa_cons (pv 3) pa_nil)))
      (pss_cons (ps_if (pt_not (pt_val (pe_callee Sq hr1 rfl (pa_cons (pv 0) pa_nil)))) (pss_one (ps_raise rfl (takes_of rfl rfl rfl rfl) (pmk_exn cH hr rfl (pe_callB call_len_seq (by rfl) B.nums.len PySem.boot_len (pa_cons (pv 5) pa_nil))))) pss_nil)
      (pss_cons (ps_for PassesOwn.leaving rfl (pi_enumS (by rfl) B.enu (pa_cons (pv 0) pa_nil)) (pg_tup rfl (pgs_cons (pg_name (i := 6) scCT.nd rfl (Or.inl rfl)) (pgs_cons (pg_name (i := 7) scCT.nd rfl (Or.inl rfl)) pgs_nil)))
        (pss_cons (ps_if (PW.pt (pw_or (pt_cmpR op_ge (pv 6) (pv 1) (nomark _)) (pw_or (pt_not (pt_val (pe_callA (i := 4) (S := S) hS hr rfl (Or.inl rfl) (pa_cons (pv 7) (pa_cons (pv 2) pa_nil))))) (pw_or1 (pt_cmpR op_in_seq (pe_ix ix_seq (pv 7) pe_int (fun _ _ => rfl)) (pv 5) (by rfl)))))) (pss_one (ps_raise rfl (takes_of rfl rfl rfl rfl) (pmk_exn cH hr rfl (pe_callB call_len_seq (by rfl) B.nums.len PySem.boot_len (pa_cons (pv 5) pa_nil))))) pss_nil)
        (pss_one (ps_expr (pe_bm PySem.F.plainAttrs_list PySem.F.slot_list_append PySem.F.type_list_append mt_append (pv 5) (pa_cons (pe_ix ix_seq (pv 7) pe_int (fun _ _ => rfl)) pa_nil))))))
      (pss_one (ps_ret (pe_callTy call_tuple_of (by rfl) B.tuple (by decide +kernel) (pa_cons (pe_lc (own := [("thing", 7)]) (g := gName 7) (tt := tYes) (by rfl) scCT.nd (PI_or (pi_list (pv 0)) (pi_tup (pv 0)))
        (blkOk_by (own := [("thing", 7)]) (N := NCT) (sc := defScope sChThings) (by decide +kernel))
        (fun _ _ _ _ _ => pg_name (i := 7) scCT.nd rfl (Or.inl rfl)) (fun _ _ _ _ _ => pts_nil)
        (fun _ _ _ _ _ => (show PE _ _ (TupCall K 7) from pe_callTy call_tuple_of (by rfl) B.tuple (by decide +kernel) (pa_cons (pv 7) pa_nil)))) pa_nil)))))), ?_⟩
    refine ⟨_, rfl, tk, _, rfl, sk.sq, fun l nl => ?_⟩
    have s0 := same_upd (o := .lst (tn.map V.str)) nl
    rcases ev with ⟨⟨u, rfl⟩, bad⟩ | ⟨ts, rs, ns, rfl, okt, odd, k⟩
    · obtain ⟨rfl, fo⟩ := at_v
      refine ⟨_, rfl, v, none, rfl, fo, fun H1 s1 => ⟨_, rfl, iteT ⟨_, rfl, l, _, rfl, .inl (SqL.of (s1 _ _ upd_same)), ?_⟩⟩⟩
      rw [List.length_map]
      exact ⟨_, rfl, fun d nd => bad _ d ((s0.trans s1).trans (same_upd nd)) ((s0.trans s1).free nd) upd_same⟩
    · obtain ⟨a, vs, rfl, sq, pw, l20⟩ := at_v
      have lw := paired_len pw
      refine ⟨_, rfl, _, some _, rfl, ⟨a, rfl, sq.same s0⟩, fun H1 s1 => ⟨_, rfl, iteF ?_⟩⟩
      have s01 := s0.trans s1
      have at_l := s1 _ _ (upd_same (H := H) (a := l) (o := .lst (tn.map V.str)))
      have lne : ∀ {b o}, H b = some o → b ≠ l := fun {b o} e => ne_of_none e nl
      have lns : ns.length = ts.length := by
        have := congrArg List.length okt.names
        simpa using this.symm
      have la : a ≠ l := by
        rcases sq with e | e
        · exact lne e
        · exact lne e
      have keepa : ∀ {H' : Hp}, Same H H' → ∀ o, H1 a = some o → H' a = some o := fun {H'} s o e => by
        rcases sq with q | q
        · rw [s01 _ _ q] at e
          rw [← e]
          exact s _ _ q
        · rw [s01 _ _ q] at e
          rw [← e]
          exact s _ _ q
      have at_end : ∀ {i t}, i = ts.length → (ts ++ rs)[i]? = some t → ∃ rest, rs = t :: rest := fun {i t} e ht => by
        rw [List.getElem?_append_right (by omega), e, Nat.sub_self] at ht
        cases rs with
        | nil => cases ht
        | cons y rest => exact ⟨rest, by cases ht; rfl⟩
      have le_m := okt.few
      refine ⟨_, rfl, a, rfl, en_for (xs := vs) (fun i σ H' => ∃ v6 v7 : Option V, σ = [some (.ref a), some (.int (m : Nat)), some (.ref tp), some (.ref tk), some (.ref f), some (.ref l), v6, v7] ∧ Same H H' ∧ H' l = some (.lst ((tn ++ ns.take i).map V.str)) ∧ i ≤ ts.length)
        (sq.same s01) ⟨_, _, rfl, s01, by rw [List.take_zero, List.append_nil]; exact at_l, Nat.zero_le _⟩ (fun i σ' H' _ z => ?_) ?_ ?_⟩
      · obtain ⟨_, _, _, s, _⟩ := z
        exact keepa s
      · rintro i x σ' H2 T hx ⟨v6, v7, rfl, s2, at_l2, le⟩ nT
        have s3 := same_upd (o := .tup [.int (i : Nat), x]) nT
        have s23 := s2.trans s3
        have at_l3 := s3 _ _ at_l2
        obtain ⟨t, ht, ax⟩ := paired_get pw hx
        have fail : ∀ {H4 : Hp}, i = ts.length → Same H H4 → H4 l = some (.lst ((tn ++ ns.take i).map V.str)) → (SqL K H4 l ((tn ++ ns.take i).map V.str) ∨ SqT K H4 l ((tn ++ ns.take i).map V.str)) ∧ (∃ v, [V.int (((tn ++ ns.take i).map V.str).length : Nat)] = [v] ∧ ∀ d, H4 d = none → E (.ref CH) (some d) (upd H4 d (.xd [("at", v)]))) := fun {H4} e s4 at4 => by
          refine ⟨.inl (SqL.of at4), _, rfl, fun d nd => ?_⟩
          obtain ⟨rest, er⟩ := at_end e ht
          have b := (odd t rest er).2
          rw [List.length_map, List.length_append, List.length_take, lns, e, Nat.min_self]
          exact b _ d (s4.trans (same_upd nd)) (s4.free nd) upd_same
        refine ⟨T, _, rfl, SqT.of upd_same, rfl, _, _, rfl, _, _, rfl, ⟨rfl, _, rfl, _, rfl, _, _, rfl, rfl, _, rfl, ?_⟩⟩
        by_cases im : i = m
        · rw [decide_eq_true (show ((m : Nat) : Int) ≤ (i : Nat) by omega)]
          exact iteT (iteT ⟨_, rfl, l, _, rfl, (fail (by omega) s23 at_l3).1, (fail (by omega) s23 at_l3).2⟩)
        rw [decide_eq_false (show ¬ ((m : Nat) : Int) ≤ (i : Nat) by omega)]
        refine iteF ⟨f, _, rfl, hf, _, rfl, _, rfl, x, tp, t, ps, rfl, ax.same s23, s23 _ _ hp, p8, fun H4 s4 => ⟨_, rfl, ?_⟩⟩
        have s24 := s23.trans s4
        have at_l4 := s4 _ _ at_l3
        have here : ∀ lt : i < ts.length, t = ts[i] := fun lt => by
          rw [List.getElem?_append_left lt, List.getElem?_eq_getElem lt] at ht
          exact (Option.some.inj ht).symm
        cases tb : Bt ps t with
        | false =>
          have e : i = ts.length := by
            by_cases lt : i < ts.length
            · rw [here lt, okt.ok _ (List.getElem_mem lt)] at tb
              cases tb
            · omega
          exact iteT (iteT ⟨_, rfl, l, _, rfl, (fail e s24 at_l4).1, (fail e s24 at_l4).2⟩)
        | true =>
          obtain ⟨n, ys, rfl⟩ := nB ps t tb
          obtain ⟨c, rfl, sc, _⟩ := ax.same s24
          have nth : ∀ lt : i < ts.length, ∃ h : i < ns.length, ns[i] = n := fun lt => by
            have e := congrArg (fun z => z[i]?) okt.names
            simp only [List.getElem?_map] at e
            rw [List.getElem?_eq_getElem lt, ← here lt, List.getElem?_eq_getElem (by omega)] at e
            refine ⟨by omega, ?_⟩
            have e : some (some n) = some (some (ns[i]'(by omega))) := e
            injection e with e
            injection e with e
            exact e.symm
          have m1 : n ∈ tn ++ ns.take i → i = ts.length := fun h => by
            by_cases lt : i < ts.length
            · obtain ⟨hi, en⟩ := nth lt
              exfalso
              rcases List.mem_append.mp h with z | z
              · exact (List.nodup_append.mp okt.nodup).2.2 n z n (by rw [← en]; exact List.getElem_mem hi) rfl
              · obtain ⟨j, hj, e⟩ := List.getElem_of_mem z
                rw [List.length_take] at hj
                rw [List.getElem_take] at e
                have p := List.pairwise_iff_getElem.mp (List.nodup_iff_pairwise_ne.mp (List.nodup_append.mp okt.nodup).2.1) j i (by omega) hi (by omega)
                rw [en] at p
                exact p e
            · omega
          have m2 : n ∉ tn ++ ns.take i → i < ts.length := fun h => by
            apply Nat.lt_of_not_le
            intro ge
            have e : i = ts.length := by omega
            obtain ⟨rest, er⟩ := at_end e ht
            rcases (odd _ rest er).1 with z | z | ⟨n', hn', es⟩
            · omega
            · rw [tb] at z; cases z
            · have hn' : some n = some n' := hn'
              injection hn' with hn'
              rw [e, ← lns, List.take_length, hn'] at h
              exact h es
          refine iteF ⟨_, rfl, ix_sq sc (atI_nat (j := 0) rfl) ⟨_, rfl, l, _, rfl, .inl (SqL.of at_l4), rfl, flat_strs _, _, rfl, ?_⟩⟩
          rw [inV_strs]
          refine ite2 (fun h => ?_) (fun h => ?_)
          · have e := m1 (of_decide_eq_true h)
            exact ⟨_, rfl, l, _, rfl, (fail e s24 at_l4).1, (fail e s24 at_l4).2⟩
          · have lt := m2 (fun z => h (decide_eq_true z))
            obtain ⟨hi, en⟩ := nth lt
            refine ⟨_, rfl, .inl ⟨rfl, _, SqL.of at_l4⟩, _, rfl, ix_sq sc (atI_nat (j := 0) rfl) ⟨l, _, _, rfl, rfl, at_l4, ?_, _, _, rfl, fun b o e => ?_, ?_, lt⟩⟩
            · have : (100 : Nat) ≤ sizeLine := by decide
              rw [List.length_map, List.length_append, List.length_take]
              omega
            · rw [upd_ne (lne e)]
              exact s24 _ _ e
            · rw [upd_same, List.take_succ_eq_append_getElem hi, ← List.append_assoc, en]
              show some (HO.lst (List.map V.str (tn ++ ns.take i) ++ List.map V.str [n])) = _
              rw [← List.map_append]
      · rintro σ' H2 ⟨v6, v7, rfl, s2, at_l2, le⟩
        have r0 : rs = [] := by
          rw [lw, List.length_append] at le
          exact List.eq_nil_of_length_eq_zero (by omega)
        subst r0
        rw [List.append_nil] at pw
        have lw := paired_len pw
        dsimp only
        refine ret_one (cb_one (lc_seq (j := 0) (a := a) (xs := vs) (fun D i H' => ∃ ws, Same H2 H' ∧ H' D = some (.lst ws) ∧ Paired (TupAt H') ws (ts.take i)) rfl (sq.same s2) (fun D nD => ⟨[], same_upd nD, upd_same, .nil⟩) (fun D i H' nD _ z => ?_) ?_ ?_))
        · obtain ⟨_, s, _⟩ := z
          exact fun o e => s _ _ e
        · rintro D i x H3 nD hx ⟨ws, s3, at_D, pws⟩
          obtain ⟨t, ht, ax⟩ := paired_get pw hx
          obtain ⟨hi, rfl⟩ := List.getElem?_eq_some_iff.mp ht
          obtain ⟨n, ys, et⟩ := nB ps _ (okt.ok _ (List.getElem_mem hi))
          rw [et] at ax
          have s23 := s2.trans s3
          obtain ⟨c, rfl, sc, _⟩ := ax.same s23
          have lws := paired_len pws
          rw [List.length_take] at lws
          have step : ∀ (u : Addr) (H4 : Hp), Same H3 H4 → H4 u = some (.tup (V.str n :: ys)) → ∃ acc, H4 D = some (.lst acc) ∧ acc.length < sizeLine ∧ ∃ ws', Same H2 (upd H4 D (.lst (acc ++ [.ref u]))) ∧ upd H4 D (.lst (acc ++ [.ref u])) D = some (.lst ws') ∧ Paired (TupAt (upd H4 D (.lst (acc ++ [.ref u])))) ws' (ts.take (i + 1)) := by
            intro u H4 s4 hu
            have at_D4 := s4 _ _ at_D
            have up : ∀ {c ys}, H4 c = some (.tup ys) → upd H4 D (.lst (ws ++ [.ref u])) c = some (.tup ys) := fun {c ys} e => by
              rw [upd_ne (ne_of e at_D4 (fun z => by cases z))]
              exact e
            refine ⟨ws, at_D4, ?_, ws ++ [.ref u], fun b o e => ?_, upd_same, ?_⟩
            · have : (100 : Nat) ≤ sizeLine := by decide
              rw [List.append_nil] at l20
              omega
            · rw [upd_ne (ne_of_none e nD)]
              exact s4 _ _ (s3 _ _ e)
            · rw [List.take_succ_eq_append_getElem hi]
              exact paired_snoc (paired_mono (fun _ _ ⟨c, zs, e, e2, ec⟩ => ⟨c, zs, e, e2, up (s4 _ _ ec)⟩) pws) ⟨u, _, rfl, et, up hu⟩
          refine ⟨rfl, kept ⟨_, rfl, c, V.str n :: ys, rfl, ?_⟩⟩
          rcases sc with e | e
          · exact .inl ⟨SqL.of e, fun u nu => step u _ (same_upd nu) upd_same⟩
          · exact .inr ⟨SqT.of e, step c _ (Same.refl _) e⟩
        · rintro D H3 nD ⟨ws, s3, at_D, pws⟩
          rw [lw, List.take_length] at pws
          refine ⟨D, _, rfl, .inl ⟨SqL.of at_D, fun u nu => ?_⟩⟩
          have s4 := same_upd (o := .tup ws) nu
          exact k rfl _ u ws ((s2.trans s3).trans s4) upd_same (paired_mono (fun _ _ ⟨c, zs, e, e2, ec⟩ => ⟨c, zs, e, e2, s4 _ _ ec⟩) pws)
end
end K01

namespace K01
open PySem PySem.Spec PyProof.Rows L2
open Cal EnuT Sqx Exn Keys

/-- what a dict of numbers tells of a name -/
def numV (ps : List Str) (x : Str) : Option V := if x ∈ ps then some (.int (ps.idxOf x : Nat)) else none
theorem numV_snoc {ps : List Str} {p : Str} (h : p ∉ ps) (x : Str) : numV (ps ++ [p]) x = if x = p then some (.int (ps.length : Nat)) else numV ps x := by
  unfold numV
  by_cases e : x = p
  · subst e
    rw [if_pos (by simp), if_pos rfl, List.idxOf_append, if_neg h]
    simp
  · by_cases m : x ∈ ps
    · rw [if_pos (List.mem_append_left _ m), if_pos m, if_neg e, List.idxOf_append, if_pos m]
    · rw [if_neg (by simp [m, e]), if_neg m, if_neg e]
/-- exactly the numbers of these names -/
def NumsK (ps : List Str) (kvs : List (Key × V)) : Prop := ∀ x, valV kvs (.inr x) = numV ps x
def spNums : Sp := fun vs H Q _ => ∃ (a : Addr) (ps : List Str), vs = [.ref a] ∧ SeqAt H a (ps.map V.str) ∧ ps.length ≤ 20 ∧ ps.Nodup ∧ ∀ H' D kvs, Same H H' → H' D = some (.dK kvs) → NumsK ps kvs → Q (.ref D) H'
def spNumOf : Sp := fun vs H Q _ => ∃ (D : Addr) (x : Str) (kvs : List (Key × V)) (v : V), vs = [.ref D, .str x] ∧ H D = some (.dK kvs) ∧ valV kvs (.inr x) = some v ∧ Q v H
/-- the number of an end: outside is -1 -/
def endN (ps : List Str) (x : Str) : Int := if x = "out" then -1 else (ps.idxOf x : Nat)
/-- the instance with its numbers of parts -/
def spNumPart (C : Addr) : Sp := fun vs H Q _ => ∃ (o D dx : Addr) (x : Str) (ps : List Str) (kvs : List (Key × V)) (fs : List (Str × V)), vs = [.ref o, .str x] ∧ H o = some (.ins C dx fs) ∧ List.lookup ("_part_numbers" : Str) fs = some (.ref D) ∧ H D = some (.dK kvs) ∧ NumsK ps kvs ∧
  EndIn ps x ∧ Q (.int (endN ps x)) H
theorem not_in_take {ps : List Str} (nd : ps.Nodup) {i : Nat} (hi : i < ps.length) : ps[i] ∉ ps.take i := by
  have : (ps.take (i + 1)).Nodup := (List.take_sublist _ _).nodup nd
  rw [List.take_succ_eq_append_getElem hi] at this
  exact fun m => (List.nodup_append.mp this).2.2 _ m _ (List.mem_singleton.mpr rfl) rfl
/-- how many entries at most -/
theorem put_len {kvs : List (Key × V)} {k : Key} {v : V} : (putK kvs k v).length ≤ kvs.length + 1 := by
  unfold putK
  split
  · rw [List.length_map]
    omega
  · rw [List.length_append]
    simp
section
variable {P : Program} {w : World} {K : W.Frag} {mg : Str → Option Value} {base : Heap}
theorem scNu : FnScope ["names", "at", "name"] ["names"] (defScope sNumbers) := ⟨rfl, rfl, rfl, by decide +kernel, rfl, by decide +kernel, by decide +kernel⟩
theorem ok_numbers {f : Addr} {fd : FuncData} (F : Fun K "_numbers" "_numbers" sNumbers f fd) (B : Bl mg) : FnOk P w K mg base CX0 1 f fd ["names"] spNums := by
  refine F.ok scNu (fun vs H Q E h => ?_) (fun cdv A outer s H vs Q E hr h => ?_)
  · obtain ⟨a, ps, rfl, _⟩ := h
    rfl
  · obtain ⟨a, ps, rfl, sq, p20, nd, k⟩ := h
    refine ⟨_, pss_one (ps_ret (pe_dc (own := [("at", 1), ("name", 2)]) (g := gTup K 2 (gCons (gName 1) (gCons (gName 2) gNil))) (tt := tYes) (by rfl) scNu.nd (pi_enumS (by rfl) B.enu (pa_cons (pv 0) pa_nil))
      (blkOk_by (own := [("at", 1), ("name", 2)]) (N := ["names", "at", "name"]) (sc := defScope sNumbers) (by decide +kernel))
      (fun _ _ _ _ _ => pg_tup rfl (pgs_cons (pg_name (i := 1) scNu.nd rfl (Or.inl rfl)) (pgs_cons (pg_name (i := 2) scNu.nd rfl (Or.inl rfl)) pgs_nil)))
      (fun _ _ _ _ _ => pts_nil) (fun _ _ _ _ _ => pv 2) (fun _ _ _ _ _ => pv 1))), ?_⟩
    refine ⟨_, rfl, a, rfl, ?_⟩
    have walk : ∀ {J : It} {G : Hp → Prop}, Walk J (ps.map V.str).length G (YPair (fun i => some (.int (i : Nat))) (fun i => (ps.map V.str)[i]?)) → (∀ H', Same H H' → G H') → ∀ D, H D = none → ∃ W : Nat → Nat → Hp → Prop, (∃ m, W 0 m (upd H D (.dK []))) ∧ ∀ i m H', W i m H' → (J.stop i H' ∧ Q (.ref D) H') ∨ (J.go i H' ∧ ∃ Nx : Hp → Prop, (∀ H', Nx H' → ∃ m', m' < m ∧ W (i + 1) m' H') ∧
        ∀ x H'', J.yld i H' x H'' → gTup K 2 (gCons (gName 1) (gCons (gName 2) gNil)) x (wipe [some (.ref a), none, none] [1, 2]) H'' fun σ2 H2 => wipe σ2 [1, 2] = wipe [some (.ref a), none, none] [1, 2] ∧ tYes σ2 H2 fun b H3 => if b = true then tVar 2 σ2 H3 fun y H4 => tVar 1 σ2 H4 fun z H5 =>
          ∃ kvs k, y = kV k ∧ H5 D = some (.dK kvs) ∧ kvs.length < sizeLine ∧ Nx (upd H5 D (.dK (putK kvs k z))) else Nx H3) := by
      intro J G wk st D nD
      refine dc_it wk (fun i H' => Same H H' ∧ ∃ kvs : List (Key × V), H' D = some (.dK kvs) ∧ kvs.length ≤ i ∧ NumsK (ps.take i) kvs) ⟨same_upd nD, [], upd_same, Nat.le_refl _, fun x => rfl⟩ (fun i H' _ z => st _ z.1) ?_ ?_
      · rintro i x H1 H2 hi ⟨s1, kvs, at_D, lk, has⟩ ⟨t, y, z, rfl, nt, rfl, hy, hz⟩
        cases hy
        rw [List.length_map] at hi
        obtain rfl : z = V.str ps[i] := by
          have hz : (ps.map V.str)[i]? = some z := hz
          rw [List.getElem?_map, List.getElem?_eq_getElem hi] at hz
          exact (Option.some.inj hz).symm
        have s2 := same_upd (o := .tup [.int (i : Nat), .str ps[i]]) nt
        refine ⟨t, _, rfl, SqT.of upd_same, rfl, _, _, rfl, _, _, rfl, ⟨rfl, rfl, kept ⟨_, rfl, _, rfl, kvs, .inr ps[i], rfl, s2 _ _ at_D, ?_, ?_, _, upd_same, ?_, ?_⟩⟩⟩
        · have : (100 : Nat) ≤ sizeLine := by decide
          omega
        · intro b o e
          by_cases hb : b = D
          · rw [hb, nD] at e
            cases e
          · rw [upd_ne hb]
            exact s2 _ _ (s1 _ _ e)
        · exact Nat.le_trans put_len (by omega)
        · intro x
          rw [List.take_succ_eq_append_getElem hi, numV_snoc (not_in_take nd hi), valV_put, List.length_take, Nat.min_eq_left (Nat.le_of_lt hi)]
          by_cases e : x = ps[i]
          · subst e
            rw [if_pos rfl, if_pos rfl]
          · rw [if_neg e, if_neg (fun z => e (by injection z)), has x]
      · rintro H1 ⟨s1, kvs, at_D, lk, has⟩
        rw [List.length_map, List.take_length] at has
        exact k H1 D kvs s1 at_D has
    rcases sq with e | e
    · exact .inl ⟨_, SqL.of e, fun D nD => walk walk_enum (fun H' s => SqL.of (s _ _ e)) D nD⟩
    · exact .inr ⟨_, SqT.of e, fun D nD => walk walk_enumT (fun H' s => SqT.of (s _ _ e)) D nD⟩
theorem scNO : FnScope ["numbers", "name"] ["numbers", "name"] (defScope sNumOf) := ⟨rfl, rfl, rfl, by decide +kernel, rfl, by decide +kernel, by decide +kernel⟩
theorem ok_numof {f : Addr} {fd : FuncData} (F : Fun K "_number_of" "_number_of" sNumOf f fd) (B : Bl mg) : FnOk P w K mg base CX0 1 f fd ["numbers", "name"] spNumOf := by
  refine F.ok scNO (fun vs H Q E h => ?_) (fun cdv A outer s H vs Q E hr h => ?_)
  · obtain ⟨D, x, kvs, v, rfl, _⟩ := h
    rfl
  · obtain ⟨D, x, kvs, v, rfl, hD, hv, q⟩ := h
    have hu := hu_of hr
    refine ⟨_, pss_cons (ps_if (PW.pt (pw_or (pt_not (pt_val (pe_callB call_isi (by rfl) B.isi (by decide +kernel) (pa_cons (pv 1) (pa_cons (pe_bltn (v := .ty "str") rfl B.str (by decide +kernel) rfl) pa_nil))))) (pw_or1 (pt_cmp (pc_dnotin hu (pv 1) (pv 0)))))) (pss_one ps_never) pss_nil)
      (pss_one (ps_ret (pe_dget hu (pv 0) (pv 1) (fun _ _ => rfl)))), ?_⟩
    refine ⟨_, rfl, _, _, _, _, true, rfl, .ty "str", .base (.str _), kit_ty (by decide +kernel), _, rfl, iteF ?_⟩
    refine ⟨_, rfl, _, rfl, D, _, rfl, DGet.k (k := Sum.inr x) hD, ?_⟩
    rw [hv]
    refine ⟨_, rfl, iteF ?_⟩
    refine ⟨_, rfl, _, rfl, D, v, rfl, by rw [← hv]; exact DGet.k (k := Sum.inr x) hD, q⟩
theorem scNP : FnScope ["self", "name"] ["self", "name"] (defScope sNumPart) := ⟨rfl, rfl, rfl, by decide +kernel, rfl, by decide +kernel, by decide +kernel⟩
theorem ok_numpart {f C : Addr} {fd : FuncData} (F : Fun K "number_of_part" "House.number_of_part" sNumPart f fd) (B : Bl mg) (cl : Cls K C) (na : NoAttr K C "_part_numbers") (No : Callee P w K mg base "_number_of" 1 ["numbers", "name"] spNumOf) :
    FnOk P w K mg base CX0 2 f fd ["self", "name"] (spNumPart C) := by
  refine F.ok scNP (fun vs H Q E h => ?_) (fun cdv A outer s H vs Q E hr h => ?_)
  · obtain ⟨o, D, dx, x, ps, kvs, fs, rfl, _⟩ := h
    rfl
  · obtain ⟨o, D, dx, x, ps, kvs, fs, rfl, ho, lD, hD, nk, hx, q⟩ := h
    refine ⟨_, pss_cons (ps_if (PW.pt (pw_and (pt_val (pe_callB call_isi (by rfl) B.isi (by decide +kernel) (pa_cons (pv 1) (pa_cons (pe_bltn (v := .ty "str") rfl B.str (by decide +kernel) rfl) pa_nil)))) (pw_and1 (pt_cmpR op_eq (pv 1) pe_str (nomark _))))) (pss_one (ps_ret (pe_un un_neg pe_int))) pss_nil)
      (pss_one (ps_ret (pe_callee No hr rfl (pa_cons (pe_fld (pv 0) rfl) (pa_cons (pv 1) pa_nil))))), ?_⟩
    refine ⟨_, rfl, _, _, _, _, true, rfl, .ty "str", .base (.str _), kit_ty (by decide +kernel), _, rfl, iteT ⟨_, rfl, rfl, _, rfl, ?_⟩⟩
    refine ite2 (fun hc => ⟨_, rfl, ?_⟩) (fun hc => ?_)
    · obtain rfl : x = "out" := by simpa using hc
      exact q
    · have no : x ≠ "out" := fun z => hc (by simp [z])
      have m : x ∈ ps := hx.resolve_left no
      refine ⟨_, rfl, o, C, dx, fs, _, rfl, ho, cl, na, lD, _, rfl, D, x, kvs, _, rfl, hD, (nk x).trans (if_pos m), ?_⟩
      unfold endN at q
      rw [if_neg no] at q
      exact q
end
end K01

namespace K01
open PySem PySem.Spec PyProof.Rows L2
open Cal EnuT Sqx Exn Keys

theorem comp_ix {K K' : W.Frag} {te : TE} {σ : L2.St} {H : Hp} {Q : VK} {td : Addr} {i : Nat} {j : Int} {ws ys : List V} (hte : ∀ R : VK, R (.ref td) H → te σ H R) (htd : H td = some (.tup ws)) (few : ws.length ≤ 50)
    (pw : Paired (fun v y => ∃ t xs, v = V.ref t ∧ H t = some (.tup xs) ∧ atI xs j = some y) ws ys)
    (hw : ∀ v, wipe ((wipe σ [i]).set i (some v)) [i] = wipe σ [i]) (hg : ∀ v : V, ((wipe σ [i]).set i (some v))[i]? = some (some v))
    (k : ∀ H' D, Same H H' → H D = none → H' D = some (.lst ys) → Q (.ref D) H') :
    tLc (iTup K te) (gName i) tYes (tOp (rIxT K') (tVar i) (tC (.int j))) [i] σ H Q := by
  refine hte _ ⟨td, rfl, ⟨_, SqT.of htd⟩, fun D nD => ?_⟩
  refine lc_tup (xs := ws) (fun n H' => (∀ b o, b ≠ D → H b = some o → H' b = some o) ∧ H' D = some (.lst (ys.take n))) ⟨fun b o ne e => by rw [upd_ne ne]; exact e, upd_same⟩
    (fun n H' _ z => SqT.of (z.1 _ _ (ne_of_none htd nD) htd)) ?_ ?_
  · rintro n x H1 hx ⟨keep, at_D⟩
    obtain ⟨y, hy, t, xs, rfl, et, ej⟩ := paired_get pw hx
    obtain ⟨lt, rfl⟩ := List.getElem?_eq_some_iff.mp hy
    have ly := paired_len pw
    refine ⟨hw _, kept ⟨_, hg _, t, xs, _, _, rfl, rfl, SqT.of (keep _ _ (ne_of_none et nD) et), ej, _, at_D, ?_, fun b o ne e => by rw [upd_ne ne]; exact keep b o ne e, ?_⟩⟩
    · have : (100 : Nat) ≤ sizeLine := by decide
      rw [List.length_take]
      omega
    · rw [upd_same, List.take_succ_eq_append_getElem lt]
  · rintro H1 ⟨keep, at_D⟩
    rw [paired_len pw, List.take_length] at at_D
    exact k H1 D (fun b o e => keep b o (ne_of_none e nD) e) nD at_D

/-- facts of House's class for its __init__ -/
structure HC2 (K : W.Frag) (C : Addr) : Prop where
  cl : Cls K C
  n1 : NoAttr K C "parts"
  n2 : NoAttr K C "doors"
  n3 : NoAttr K C "cells"
  n4 : NoAttr K C "_part_numbers"
  n5 : NoAttr K C "_door_numbers"
  n6 : NoAttr K C "_cell_numbers"
  n7 : NoAttr K C "ends"
  n8 : NoAttr K C "cell_parts"
  n9 : NoAttr K C "kept"
def S1 (f : Addr) (sp : Sp) : Addr → Option Sp := fun g => if g = f then some sp else none
/-- a house at o that keeps these things -/
def HouseIns (H : Hp) (C o : Addr) (h : Hs) : Prop := ∃ dx fs tp td tc vd vc, H o = some (.ins C dx fs) ∧ List.lookup ("parts" : Str) fs = some (.ref tp) ∧ List.lookup ("doors" : Str) fs = some (.ref td) ∧ List.lookup ("cells" : Str) fs = some (.ref tc) ∧ List.lookup ("text" : Str) fs = none ∧
  H tp = some (.tup (h.parts.map V.str)) ∧ H td = some (.tup vd) ∧ Paired (DoorAt H) vd h.doors ∧ H tc = some (.tup vc) ∧ Paired (CellAt H) vc h.cells
def EndAt (ps : List Str) (H : Hp) (v : V) (d : Door) : Prop := ∃ t, v = .ref t ∧ H t = some (.tup [.int (endN ps d.one), .int (endN ps d.two)])
abbrev houseFs (tp td tc D1 D2 D3 te tq tk : Addr) : List (Str × V) := [("parts", .ref tp), ("doors", .ref td), ("cells", .ref tc), ("_part_numbers", .ref D1), ("_door_numbers", .ref D2), ("_cell_numbers", .ref D3), ("ends", .ref te), ("cell_parts", .ref tq), ("kept", .ref tk)]
/-- a house at o that keeps these things, and all that it knows of them -/
structure HouseN (H : Hp) (C o : Addr) (h : Hs) (dx tp td tc D1 D2 D3 te tq tk : Addr) (vd vc ve : List V) (k1 k2 k3 : List (Key × V)) : Prop where
  ins : H o = some (.ins C dx (houseFs tp td tc D1 D2 D3 te tq tk))
  pa : H tp = some (.tup (h.parts.map V.str))
  da : H td = some (.tup vd)
  dp : Paired (DoorAt H) vd h.doors
  ca : H tc = some (.tup vc)
  cp : Paired (CellAt H) vc h.cells
  n1 : H D1 = some (.dK k1)
  m1 : NumsK h.parts k1
  n2 : H D2 = some (.dK k2)
  m2 : NumsK (h.doors.map (·.n)) k2
  n3 : H D3 = some (.dK k3)
  m3 : NumsK (h.cells.map (·.n)) k3
  ea : H te = some (.tup ve)
  ep : Paired (EndAt h.parts H) ve h.doors
  qa : H tq = some (.tup (h.cells.map fun c => V.int (endN h.parts c.p)))
  ka : H tk = some (.tup (h.cells.map fun c => V.bl c.k))
def HouseX (H : Hp) (C o : Addr) (h : Hs) : Prop := ∃ dx tp td tc D1 D2 D3 te tq tk vd vc ve k1 k2 k3, HouseN H C o h dx tp td tc D1 D2 D3 te tq tk vd vc ve k1 k2 k3
theorem HouseX.ins {H : Hp} {C o : Addr} {h : Hs} (x : HouseX H C o h) : HouseIns H C o h := by
  obtain ⟨dx, tp, td, tc, D1, D2, D3, te, tq, tk, vd, vc, ve, k1, k2, k3, n⟩ := x
  exact ⟨dx, _, tp, td, tc, vd, vc, n.ins, rfl, rfl, rfl, rfl, n.pa, n.da, n.dp, n.ca, n.cp⟩
theorem HouseN.same {H H' : Hp} {C o : Addr} {h : Hs} {dx tp td tc D1 D2 D3 te tq tk : Addr} {vd vc ve : List V} {k1 k2 k3 : List (Key × V)} (n : HouseN H C o h dx tp td tc D1 D2 D3 te tq tk vd vc ve k1 k2 k3) (s : Same H H') : HouseN H' C o h dx tp td tc D1 D2 D3 te tq tk vd vc ve k1 k2 k3 where
  ins := s _ _ n.ins
  pa := s _ _ n.pa
  da := s _ _ n.da
  dp := paired_mono (fun _ _ r => r.mono fun c ec => s _ _ ec) n.dp
  ca := s _ _ n.ca
  cp := paired_mono (fun _ _ r => r.mono fun c ec => s _ _ ec) n.cp
  n1 := s _ _ n.n1
  m1 := n.m1
  n2 := s _ _ n.n2
  m2 := n.m2
  n3 := s _ _ n.n3
  m3 := n.m3
  ea := s _ _ n.ea
  ep := paired_mono (fun _ _ ⟨t, e, et⟩ => ⟨t, e, s _ _ et⟩) n.ep
  qa := s _ _ n.qa
  ka := s _ _ n.ka
structure GoodH (h : Hs) : Prop where
  p1 : 1 ≤ h.parts.length
  p8 : h.parts.length ≤ 8
  d12 : h.doors.length ≤ 12
  c8 : h.cells.length ≤ 8
  nodup : h.names.Nodup
  name : ∀ x, x ∈ h.names → nameOk x = true
  ends : ∀ d, d ∈ h.doors → EndIn h.parts d.one ∧ EndIn h.parts d.two ∧ d.one ≠ d.two
  cin : ∀ c, c ∈ h.cells → c.p ∈ h.parts
def dT (d : Door) : Tv := .sq (dvs d)
def cT (c : Cell) : Tv := .sq (cvs c)
def PartsBad (a : Av) (i : Nat) : Prop := (((∃ u, a = .fl u) ∨ a = .sq []) ∧ i = 0) ∨ ∃ ps t rest, a = .sq (ps.map strT ++ t :: rest) ∧ GoodPs ps ∧ OddPart ps t ∧ i = ps.length
def ThingsBad (B : List Str → Tv → Bool) (ps tn : List Str) (m : Nat) (b : Av) (i : Nat) : Prop := ((∃ u, b = .fl u) ∧ i = tn.length) ∨ ∃ ts t rest ns, b = .sq (ts ++ t :: rest) ∧ OkThings B ps tn m ts ns ∧ OddThing B ps tn m ts ns t ∧ i = tn.length + ts.length
def OkParts (a : Av) (ps : List Str) : Prop := a = .sq (ps.map strT) ∧ 1 ≤ ps.length ∧ GoodPs ps
def OkDoors (b : Av) (ps : List Str) (ts : List Tv) (ns : List Str) : Prop := b = .sq ts ∧ OkThings doorB ps ps 12 ts ns
def OkCells (c : Av) (ps ns : List Str) (us : List Tv) (ms : List Str) : Prop := c = .sq us ∧ OkThings cellB ps (ps ++ ns) 8 us ms
def HouseBad (a b c : Av) (i : Nat) : Prop := PartsBad a i ∨ (∃ ps, OkParts a ps ∧ ThingsBad doorB ps ps 12 b i) ∨ ∃ ps ts ns, OkParts a ps ∧ OkDoors b ps ts ns ∧ ThingsBad cellB ps (ps ++ ns) 8 c i
def HouseOk (a b c : Av) (h : Hs) : Prop := GoodH h ∧ a = .sq (h.parts.map strT) ∧ b = .sq (h.doors.map dT) ∧ c = .sq (h.cells.map cT)
def BadO (CH o : Addr) (H : Hp) (E : XK) (i : Nat) : Prop := ∀ H' d, But o H H' → H d = none → H' d = some (.xd [("at", .int (i : Nat))]) → E (.ref CH) (some d) H'
def spInit (C CH : Addr) : Sp := fun vs H Q E => ∃ (o dx : Addr) (v1 v2 v3 : V) (a b c : Av), vs = [.ref o, v1, v2, v3] ∧ H o = some (.ins C dx []) ∧ AvAt H v1 a ∧ AvAt H v2 b ∧ AvAt H v3 c ∧
  ((∃ i, HouseBad a b c i ∧ BadO CH o H E i) ∨ ∃ h, HouseOk a b c h ∧ ∀ H', But o H H' → HouseX H' C o h → Q .non H')
theorem paired_mem {α β : Type} {R : α → β → Prop} : ∀ {xs : List α} {ys : List β} {x : α}, Paired R xs ys → x ∈ xs → ∃ y, y ∈ ys ∧ R x y
  | _, _, _, .cons r t, h => by
    rcases List.mem_cons.mp h with rfl | z
    · exact ⟨_, List.mem_cons_self .., r⟩
    · obtain ⟨y, hy, q⟩ := paired_mem t z
      exact ⟨y, List.mem_cons_of_mem _ hy, q⟩
theorem paired_map {α β γ : Type} {R : α → γ → Prop} (f : β → γ) : ∀ {xs : List α} {ys : List β}, Paired (fun x y => R x (f y)) xs ys → Paired R xs (ys.map f)
  | _, _, .nil => .nil
  | _, _, .cons r t => .cons r (paired_map f t)
theorem paired_mono' {α β : Type} {R S : α → β → Prop} : ∀ {xs : List α} {ys : List β}, Paired R xs ys → (∀ a b, b ∈ ys → R a b → S a b) → Paired S xs ys
  | _, _, .nil, _ => .nil
  | _, _, .cons r t, f => .cons (f _ _ (List.mem_cons_self ..) r) (paired_mono' t fun a b hb => f a b (List.mem_cons_of_mem _ hb))
theorem seq_fld {K : W.Frag} {ta tv : TE} {f : Str} {T : TS} {D : Ends} {σ : L2.St} {H : Hp}
    (h : tv σ H fun y H1 => ta σ H1 fun x H2 => ∃ a C dx fs, x = V.ref a ∧ H2 a = some (HO.ins C dx fs) ∧ Cls K C ∧ NoAttr K C f ∧ fs.length < 1000 ∧ T D σ (upd H2 a (HO.ins C dx (putF f y fs)))) : tSeq (sFld K ta tv f) T D σ H := h
theorem one_fld {K : W.Frag} {ta tv : TE} {f : Str} {D : Ends} {σ : L2.St} {H : Hp}
    (h : tv σ H fun y H1 => ta σ H1 fun x H2 => ∃ a C dx fs, x = V.ref a ∧ H2 a = some (HO.ins C dx fs) ∧ Cls K C ∧ NoAttr K C f ∧ fs.length < 1000 ∧ D.nx σ (upd H2 a (HO.ins C dx (putF f y fs)))) : sFld K ta tv f D σ H := h
theorem call_one {sp : Sp} {te : TE} {E : XK} {σ : L2.St} {H : Hp} {Q : VK} (h : te σ H fun x H1 => sp [x] H1 Q E) : tCall sp [] E (tCons te tNil) σ H Q := h
theorem but_upd {o : Addr} {H H1 : Hp} {u : HO} (b : But o H H1) : But o H (upd H1 o u) := fun c x ne e => by
  rw [upd_ne ne]
  exact b c x ne e
theorem but_same {o : Addr} {H H1 H2 : Hp} (b : But o H H1) (s : Same H1 H2) : But o H H2 := fun c x ne e => s _ _ (b c x ne e)
theorem keep_upd {H : Hp} {o t : Addr} {C dx : Addr} {fs fs' : List (Str × V)} {xs : List V} (eo : H o = some (.ins C dx fs)) (et : H t = some (.tup xs)) : upd H o (.ins C dx fs') t = some (.tup xs) := by
  rw [upd_ne (ne_of et eo (fun z => by cases z))]
  exact et
theorem keep_lst {H : Hp} {o t : Addr} {C dx : Addr} {fs fs' : List (Str × V)} {xs : List V} (eo : H o = some (.ins C dx fs)) (et : H t = some (.lst xs)) : upd H o (.ins C dx fs') t = some (.lst xs) := by
  rw [upd_ne (ne_of et eo (fun z => by cases z))]
  exact et
theorem keep_dK {H : Hp} {o t : Addr} {C dx : Addr} {fs fs' : List (Str × V)} {xs : List (Key × V)} (eo : H o = some (.ins C dx fs)) (et : H t = some (.dK xs)) : upd H o (.ins C dx fs') t = some (.dK xs) := by
  rw [upd_ne (ne_of et eo (fun z => by cases z))]
  exact et
theorem inV_in {x : Str} {ps : List Str} (h : x ∈ ps) : inV (.str x) (ps.map V.str) = true := by
  rw [inV_strs]
  exact decide_eq_true h
theorem door_good {h : Hs} (g : GoodH h) {d : Door} (hd : d ∈ h.doors) : doorB h.parts (dT d) = true := by
  obtain ⟨e1, e2, e3⟩ := g.ends d hd
  have n := g.name d.n (List.mem_append_right _ (List.mem_append_left _ (List.mem_map.mpr ⟨d, hd, rfl⟩)))
  have inE : ∀ {x : Str}, EndIn h.parts x → inV (.str x) (endsV h.parts) = true := fun {x} z => by
    rw [ends_strs]
    refine inV_in ?_
    rcases z with z | z
    · rw [z]; simp
    · exact List.mem_append_left _ z
  show (nmB (.str d.n) && (inV (.str d.one) (endsV h.parts) && (inV (.str d.two) (endsV h.parts) && (!decide (V.str d.one = V.str d.two) && isBl (.bl d.op))))) = true
  rw [inE e1, inE e2, show nmB (.str d.n) = nameOk d.n from rfl, n, decide_eq_false (fun z => e3 (by injection z))]
  rfl
theorem cell_good {h : Hs} (g : GoodH h) {d : Cell} (hd : d ∈ h.cells) : cellB h.parts (cT d) = true := by
  have n := g.name d.n (List.mem_append_right _ (List.mem_append_right _ (List.mem_map.mpr ⟨d, hd, rfl⟩)))
  show (nmB (.str d.n) && (inV (.str d.p) (h.parts.map V.str) && isBl (.bl d.k))) = true
  rw [inV_in (g.cin d hd), show nmB (.str d.n) = nameOk d.n from rfl, n]
  rfl
theorem parts_good {h : Hs} (g : GoodH h) : GoodPs h.parts := ⟨g.p8, (List.sublist_append_left h.parts (h.doors.map (·.n) ++ h.cells.map (·.n))).nodup g.nodup, fun x hx => g.name x (List.mem_append_left _ hx)⟩
theorem doors_good {h : Hs} (g : GoodH h) : OkThings doorB h.parts h.parts 12 (h.doors.map dT) (h.doors.map (·.n)) where
  ok := fun t ht => by
    obtain ⟨d, hd, rfl⟩ := List.mem_map.mp ht
    exact door_good g hd
  names := by
    rw [List.map_map, List.map_map]
    rfl
  nodup := by
    have : (h.parts ++ h.doors.map (·.n)).Sublist h.names := (List.Sublist.refl _).append (List.sublist_append_left _ _)
    exact this.nodup g.nodup
  few := by
    rw [List.length_map]
    exact g.d12
theorem cells_good {h : Hs} (g : GoodH h) : OkThings cellB h.parts (h.parts ++ h.doors.map (·.n)) 8 (h.cells.map cT) (h.cells.map (·.n)) where
  ok := fun t ht => by
    obtain ⟨d, hd, rfl⟩ := List.mem_map.mp ht
    exact cell_good g hd
  names := by
    rw [List.map_map, List.map_map]
    rfl
  nodup := by
    rw [List.append_assoc]
    exact g.nodup
  few := by
    rw [List.length_map]
    exact g.c8
/-- the same, stage by stage -/
theorem stages {a b c : Av} {B : Nat → Prop} {k : Hs → Prop} (h : (∃ i, HouseBad a b c i ∧ B i) ∨ ∃ h, HouseOk a b c h ∧ k h) :
    (∃ i, PartsBad a i ∧ B i) ∨ ∃ ps, OkParts a ps ∧ ((∃ i, ThingsBad doorB ps ps 12 b i ∧ B i) ∨ ∃ ts ns, OkDoors b ps ts ns ∧ ((∃ i, ThingsBad cellB ps (ps ++ ns) 8 c i ∧ B i) ∨ ∃ us ms, OkCells c ps ns us ms ∧ ∃ h, GoodH h ∧ ps = h.parts ∧ ts = h.doors.map dT ∧ us = h.cells.map cT ∧ k h)) := by
  rcases h with ⟨i, (p | ⟨ps, o1, t⟩ | ⟨ps, ts, ns, o1, o2, t⟩), bi⟩ | ⟨h, ⟨g, rfl, rfl, rfl⟩, kh⟩
  · exact .inl ⟨i, p, bi⟩
  · exact .inr ⟨ps, o1, .inl ⟨i, t, bi⟩⟩
  · exact .inr ⟨ps, o1, .inr ⟨ts, ns, o2, .inl ⟨i, t, bi⟩⟩⟩
  · exact .inr ⟨h.parts, ⟨rfl, g.p1, parts_good g⟩, .inr ⟨_, _, ⟨rfl, doors_good g⟩, .inr ⟨_, _, ⟨rfl, cells_good g⟩, h, g, rfl, rfl, rfl, kh⟩⟩⟩
theorem names_ix {H : Hp} : ∀ {ws : List V} {ts : List Tv} {ns : List Str}, Paired (TupAt H) ws ts → ts.map nameT = ns.map some → Paired (fun v y => ∃ t xs, v = V.ref t ∧ H t = some (.tup xs) ∧ atI xs 0 = some y) ws (ns.map V.str)
  | _, _, [], .nil, _ => .nil
  | _, _, n :: ns, .cons r t, e => by
    rw [List.map_cons, List.map_cons] at e
    injection e with e1 e2
    obtain ⟨c, xs, rfl, rfl, hc⟩ := r
    refine .cons ?_ (names_ix t e2)
    match xs, e1, hc with
    | V.str m :: xs, e1, hc =>
      have e1 : some m = some n := e1
      injection e1 with e1
      exact ⟨c, _, rfl, hc, by rw [e1]; exact atI_nat (j := 0) rfl⟩
end K01

namespace K01
open PySem PySem.Spec PyProof.Rows L2
open Cal EnuT Sqx Exn Keys

theorem SeqAt.but {H H' : Hp} {o a C dx : Addr} {fs : List (Str × V)} {xs : List V} (b : But o H H') (ho : H o = some (.ins C dx fs)) (x : SeqAt H a xs) : SeqAt H' a xs := x.imp (fun e => b _ _ (ne_of e ho (fun z => by cases z)) e) (fun e => b _ _ (ne_of e ho (fun z => by cases z)) e)
theorem TvAt.but {H H' : Hp} {o C dx : Addr} {fs : List (Str × V)} (b : But o H H') (ho : H o = some (.ins C dx fs)) {v : V} {t : Tv} (x : TvAt H v t) : TvAt H' v t := by
  cases t with
  | fl u => exact x
  | sq xs =>
    obtain ⟨a, e, sq, r⟩ := x
    exact ⟨a, e, SeqAt.but b ho sq, r⟩
theorem AvAt.but {H H' : Hp} {o C dx : Addr} {fs : List (Str × V)} (b : But o H H') (ho : H o = some (.ins C dx fs)) {v : V} {t : Av} (x : AvAt H v t) : AvAt H' v t := by
  cases t with
  | fl u => exact x
  | sq ts =>
    obtain ⟨a, vs, e, sq, pw, r⟩ := x
    exact ⟨a, vs, e, SeqAt.but b ho sq, paired_mono (fun _ _ q => q.but b ho) pw, r⟩
theorem BadO.at {CH o C dx : Addr} {H G : Hp} {E : XK} {i : Nat} {fs : List (Str × V)} (b : BadO CH o H E i) (k : But o H G) (go : G o = some (.ins C dx fs)) : Bad CH G E i := fun H' d s nd e => by
  refine b H' d (fun c u ne hc => s _ _ (k c u ne hc)) ?_ e
  cases hd : H d with
  | none => rfl
  | some u =>
    have : d ≠ o := fun z => by
      rw [z, go] at nd
      cases nd
    rw [k d u this hd] at nd
    cases nd
theorem paired_unmap {α β γ : Type} {R : α → γ → Prop} (f : γ → β) : ∀ {xs : List α} {ys : List γ}, Paired (fun x y => ∀ z, y = f z → R x z) xs (ys.map f) → Paired R xs ys
  | _, [], .nil => .nil
  | _, _ :: _, .cons r t => .cons (r _ rfl) (paired_unmap f t)
theorem nodup_doors {h : Hs} (g : GoodH h) : (h.doors.map (·.n)).Nodup := ((List.sublist_append_left _ _).trans (List.sublist_append_right h.parts _)).nodup g.nodup
theorem nodup_cells {h : Hs} (g : GoodH h) : (h.cells.map (·.n)).Nodup := ((List.sublist_append_right _ _).trans (List.sublist_append_right h.parts _)).nodup g.nodup
section
variable {P : Program} {w : World} {K : W.Frag} {mg : Str → Option Value} {base : Heap}
theorem scIn : FnScope ["self", "parts", "doors", "cells", "taken", "door", "cell"] ["self", "parts", "doors", "cells"] (defScope sInit) := ⟨rfl, rfl, rfl, by decide +kernel, rfl, by decide +kernel, by decide +kernel⟩
theorem ok_init {f C CH fD fC fM : Addr} {fd fdM : FuncData} {t1 t2 : Tok} (F : Fun K "__init__" "House.__init__" sInit f fd) (B : Bl mg) (T : HC2 K C) (ChP : CalleeX P w K mg base "_checked_parts" 3 ["parts"] (spParts CH))
    (Ch1 : CalleeX P w K mg base "_checked_things" 3 ["things", "most", "parts", "taken", "is_thing"] (spThings' CH (S1 fD (spThing doorB)))) (Ch2 : CalleeX P w K mg base "_checked_things" 3 ["things", "most", "parts", "taken", "is_thing"] (spThings' CH (S1 fC (spThing cellB))))
    (Nu : Callee P w K mg base "_numbers" 1 ["names"] spNums) (mD : mg "MOST_DOORS" = some (.int 12 t1)) (mC : mg "MOST_CELLS" = some (.int 8 t2)) (gD : mg "_is_door" = some (.ref fD)) (gC : mg "_is_cell" = some (.ref fC))
    (M : Meth K C "number_of_part" fM) (FM : FnOk P w K mg base CX0 2 fM fdM ["self", "name"] (spNumPart C)) (bM : Binds K fdM ["self", "name"] []) : FnOk P w K mg base (L2.CX P w) 4 f fd ["self", "parts", "doors", "cells"] (spInit C CH) := by
  refine F.okX scIn (fun vs H Q E h => ?_) (fun cdv A outer s H vs Q E hr h => ?_)
  · obtain ⟨o, dx, v1, v2, v3, a, b, c, rfl, _⟩ := h
    rfl
  · obtain ⟨o, dx, v1, v2, v3, a, b, c, rfl, ho, at_a, at_b, at_c, ev⟩ := h
    have hr2 := hr.mono (show 2 ≤ 3 by decide)
    have hr1 := hr.mono (show 1 ≤ 3 by decide)
    refine ⟨_, pss_cons (ps_fld (pv 0) (pe_calleeX ChP hr rfl (passes_call (takes_of rfl rfl rfl rfl) (fun _ _ _ _ h => h)) (pa_cons (pv 1) pa_nil)) rfl)
      (pss_cons (ps_fld (pv 0) (pe_calleeX Ch1 hr rfl (passes_call (takes_of rfl rfl rfl rfl) (fun _ _ _ _ h => h)) (pa_cons (pv 2) (pa_cons (pe_glob (v := .int 12) rfl mD ⟨_, rfl⟩) (pa_cons (pe_fld (pv 0) rfl) (pa_cons (pe_fld (pv 0) rfl) (pa_cons (pe_glob (v := .ref fD) rfl gD rfl) pa_nil)))))) rfl)
      (pss_cons (ps_set (i := 4) scIn.nd rfl (Or.inl rfl) (pe_lst (StX.pa_star (pe_fld (pv 0) rfl) (StX.pa_star (pe_lc (own := [("door", 5)]) (g := gName 5) (tt := tYes) (by rfl) scIn.nd (pi_tup (pe_fld (pv 0) rfl))
        (blkOk_by (own := [("door", 5)]) (N := ["self", "parts", "doors", "cells", "taken", "door", "cell"]) (sc := defScope sInit) (by decide +kernel))
        (fun _ _ _ _ _ => pg_name (i := 5) scIn.nd rfl (Or.inl rfl)) (fun _ _ _ _ _ => pts_nil) (fun _ _ _ _ _ => (show PE _ _ (tOp (rIxT K) (tVar 5) (tC (.int 0))) from pe_ix ix_tup (pv 5) pe_int (fun _ _ => rfl)))) pa_nil))))
      (pss_cons (ps_fld (pv 0) (pe_calleeX Ch2 hr rfl (passes_call (takes_of rfl rfl rfl rfl) (fun _ _ _ _ h => h)) (pa_cons (pv 3) (pa_cons (pe_glob (v := .int 8) rfl mC ⟨_, rfl⟩) (pa_cons (pe_fld (pv 0) rfl) (pa_cons (pv 4) (pa_cons (pe_glob (v := .ref fC) rfl gC rfl) pa_nil)))))) rfl)
      (pss_cons (ps_fld (pv 0) (pe_callee Nu hr1 rfl (pa_cons (pe_fld (pv 0) rfl) pa_nil)) rfl)
      (pss_cons (ps_fld (pv 0) (pe_callee Nu hr1 rfl (pa_cons (pe_lc (own := [("door", 5)]) (g := gName 5) (tt := tYes) (by rfl) scIn.nd (pi_tup (pe_fld (pv 0) rfl))
        (blkOk_by (own := [("door", 5)]) (N := ["self", "parts", "doors", "cells", "taken", "door", "cell"]) (sc := defScope sInit) (by decide +kernel))
        (fun _ _ _ _ _ => pg_name (i := 5) scIn.nd rfl (Or.inl rfl)) (fun _ _ _ _ _ => pts_nil) (fun _ _ _ _ _ => (show PE _ _ (tOp (rIxT K) (tVar 5) (tC (.int 0))) from pe_ix ix_tup (pv 5) pe_int (fun _ _ => rfl)))) pa_nil)) rfl)
      (pss_cons (ps_fld (pv 0) (pe_callee Nu hr1 rfl (pa_cons (pe_lc (own := [("cell", 6)]) (g := gName 6) (tt := tYes) (by rfl) scIn.nd (pi_tup (pe_fld (pv 0) rfl))
        (blkOk_by (own := [("cell", 6)]) (N := ["self", "parts", "doors", "cells", "taken", "door", "cell"]) (sc := defScope sInit) (by decide +kernel))
        (fun _ _ _ _ _ => pg_name (i := 6) scIn.nd rfl (Or.inl rfl)) (fun _ _ _ _ _ => pts_nil) (fun _ _ _ _ _ => (show PE _ _ (tOp (rIxT K) (tVar 6) (tC (.int 0))) from pe_ix ix_tup (pv 6) pe_int (fun _ _ => rfl)))) pa_nil)) rfl)
      (pss_cons (ps_fld (pv 0) (pe_callTy call_tuple_of (by rfl) B.tuple (by decide +kernel) (pa_cons (pe_lc (own := [("door", 5)]) (g := gName 5) (tt := tYes) (by rfl) scIn.nd (pi_tup (pe_fld (pv 0) rfl))
        (blkOk_by (own := [("door", 5)]) (N := ["self", "parts", "doors", "cells", "taken", "door", "cell"]) (sc := defScope sInit) (by decide +kernel))
        (fun _ _ _ _ _ => pg_name (i := 5) scIn.nd rfl (Or.inl rfl)) (fun _ _ _ _ _ => pts_nil)
        (fun _ _ _ _ _ => pe_tup (pa_cons (pe_meth (pv 0) T.cl M FM hr2 bM .nil pass0 (pa_cons (show PE _ _ (tOp (rIxT K) (tVar 5) (tC (.int 1))) from pe_ix ix_tup (pv 5) pe_int (fun _ _ => rfl)) pa_nil))
          (pa_cons (pe_meth (pv 0) T.cl M FM hr2 bM .nil pass0 (pa_cons (show PE _ _ (tOp (rIxT K) (tVar 5) (tC (.int 2))) from pe_ix ix_tup (pv 5) pe_int (fun _ _ => rfl)) pa_nil)) pa_nil)))) pa_nil)) rfl)
      (pss_cons (ps_fld (pv 0) (pe_callTy call_tuple_of (by rfl) B.tuple (by decide +kernel) (pa_cons (pe_lc (own := [("cell", 6)]) (g := gName 6) (tt := tYes) (by rfl) scIn.nd (pi_tup (pe_fld (pv 0) rfl))
        (blkOk_by (own := [("cell", 6)]) (N := ["self", "parts", "doors", "cells", "taken", "door", "cell"]) (sc := defScope sInit) (by decide +kernel))
        (fun _ _ _ _ _ => pg_name (i := 6) scIn.nd rfl (Or.inl rfl)) (fun _ _ _ _ _ => pts_nil)
        (fun _ _ _ _ _ => pe_meth (pv 0) T.cl M FM hr2 bM .nil pass0 (pa_cons (show PE _ _ (tOp (rIxT K) (tVar 6) (tC (.int 1))) from pe_ix ix_tup (pv 6) pe_int (fun _ _ => rfl)) pa_nil))) pa_nil)) rfl)
      (pss_one (ps_fld (pv 0) (pe_callTy call_tuple_of (by rfl) B.tuple (by decide +kernel) (pa_cons (pe_lc (own := [("cell", 6)]) (g := gName 6) (tt := tYes) (by rfl) scIn.nd (pi_tup (pe_fld (pv 0) rfl))
        (blkOk_by (own := [("cell", 6)]) (N := ["self", "parts", "doors", "cells", "taken", "door", "cell"]) (sc := defScope sInit) (by decide +kernel))
        (fun _ _ _ _ _ => pg_name (i := 6) scIn.nd rfl (Or.inl rfl)) (fun _ _ _ _ _ => pts_nil) (fun _ _ _ _ _ => (show PE _ _ (tOp (rIxT K) (tVar 6) (tC (.int 2))) from pe_ix ix_tup (pv 6) pe_int (fun _ _ => rfl)))) pa_nil)) rfl)))))))))), ?_⟩
    rcases stages ev with ⟨i, pb, bad⟩ | ⟨ps, ⟨ea, p1, gp⟩, evB⟩
    · have bad := bad.at (fun _ _ _ e => e) ho
      rcases pb with ⟨z, rfl⟩ | ⟨ps, t, rest, ea, gp, od, rfl⟩
      · exact ⟨_, rfl, v1, a, rfl, at_a, .inl ⟨z, bad⟩⟩
      · exact ⟨_, rfl, v1, a, rfl, at_a, .inr ⟨ps, t :: rest, ea, by rw [List.length_cons]; omega, gp, (fun t' r' e => by cases e; exact ⟨od, bad⟩), (fun e => nomatch e)⟩⟩
    have p8 := gp.len
    refine ⟨_, rfl, v1, a, rfl, at_a, .inr ⟨ps, [], by rw [List.append_nil]; exact ea, by simpa using p1, gp, (fun _ _ e => nomatch e), fun _ H1 tp s1 e1 => ⟨_, rfl, o, C, dx, [], rfl, s1 _ _ ho, T.cl, T.n1, by decide, ?_⟩⟩⟩
    have o1 : upd H1 o (.ins C dx [("parts", .ref tp)]) o = some (.ins C dx [("parts", .ref tp)]) := upd_same
    have b1 : But o H (upd H1 o (.ins C dx [("parts", .ref tp)])) := but_upd (but_same (fun _ _ _ e => e) s1)
    have p1' : upd H1 o (.ins C dx [("parts", .ref tp)]) tp = some (.tup (ps.map V.str)) := keep_upd (s1 _ _ ho) e1
    show Ends.nx _ _ (upd H1 o (.ins C dx [("parts", .ref tp)]))
    revert o1 b1 p1'
    generalize upd H1 o (.ins C dx [("parts", .ref tp)]) = G1
    intro o1 b1 p1'
    refine ⟨_, rfl, _, rfl, o, C, dx, _, _, rfl, o1, T.cl, T.n1, rfl, _, rfl, o, C, dx, _, _, rfl, o1, T.cl, T.n1, rfl, ?_⟩
    have at_b1 := at_b.but b1 ho
    rcases evB with ⟨i, tb, bad⟩ | ⟨ts, ns, ⟨eb, okd⟩, evC⟩
    · have bad := bad.at b1 o1
      rcases tb with ⟨z, rfl⟩ | ⟨ts, t, rest, ns, eb, ok, od, rfl⟩
      · exact ⟨v2, 12, tp, tp, fD, b, ps, ps, doorB, rfl, at_b1, by decide, p1', p8, .inr p1', by omega, if_pos rfl, named_door, .inl ⟨z, bad⟩⟩
      · exact ⟨v2, 12, tp, tp, fD, b, ps, ps, doorB, rfl, at_b1, by decide, p1', p8, .inr p1', by omega, if_pos rfl, named_door, .inr ⟨ts, t :: rest, ns, eb, ok, (fun t' r' e => by cases e; exact ⟨od, bad⟩), (fun e => nomatch e)⟩⟩
    have lns : ns.length = ts.length := by
      have := congrArg List.length okd.names
      simpa using this.symm
    have d12 := okd.few
    refine ⟨v2, 12, tp, tp, fD, b, ps, ps, doorB, rfl, at_b1, by decide, p1', p8, .inr p1', by omega, if_pos rfl, named_door, .inr ⟨ts, [], ns, by rw [List.append_nil]; exact eb, okd, (fun _ _ e => nomatch e), fun _ H2 td vd s2 e2 pd => ⟨_, rfl, o, C, dx, _, rfl, s2 _ _ o1, T.cl, T.n2, by show 1 < 1000; decide, ?_⟩⟩⟩
    have o2 : upd H2 o (.ins C dx [("parts", .ref tp), ("doors", .ref td)]) o = some (.ins C dx [("parts", .ref tp), ("doors", .ref td)]) := upd_same
    have b2 : But o H (upd H2 o (.ins C dx [("parts", .ref tp), ("doors", .ref td)])) := but_upd (but_same b1 s2)
    have p2 : upd H2 o (.ins C dx [("parts", .ref tp), ("doors", .ref td)]) tp = some (.tup (ps.map V.str)) := keep_upd (s2 _ _ o1) (s2 _ _ p1')
    have d2 : upd H2 o (.ins C dx [("parts", .ref tp), ("doors", .ref td)]) td = some (.tup vd) := keep_upd (s2 _ _ o1) e2
    have pd2 : Paired (TupAt (upd H2 o (.ins C dx [("parts", .ref tp), ("doors", .ref td)]))) vd ts := paired_mono (fun _ _ ⟨c, xs, e, e', ec⟩ => ⟨c, xs, e, e', keep_upd (s2 _ _ o1) ec⟩) pd
    show Ends.nx _ _ (upd H2 o (.ins C dx [("parts", .ref tp), ("doors", .ref td)]))
    revert o2 b2 p2 d2 pd2
    generalize upd H2 o (.ins C dx [("parts", .ref tp), ("doors", .ref td)]) = G2
    intro o2 b2 p2 d2 pd2
    have lvd := paired_len pd
    refine ⟨_, rfl, o, C, dx, _, _, rfl, o2, T.cl, T.n1, rfl, tp, _, rfl, .inl (SqT.of p2), ?_⟩
    unfold StX.tStar
    refine comp_ix (td := td) (i := 5) (j := 0) (fun R r => ⟨_, rfl, o, C, dx, _, _, rfl, o2, T.cl, T.n2, rfl, r⟩) d2 (by omega) (names_ix pd2 okd.names) (by intro; rfl) (by intro; rfl) fun H3 D s3 nD eD => ?_
    refine ⟨D, _, rfl, .inr (SqL.of eD), ?_⟩
    have line : (100 : Nat) ≤ sizeLine := by decide
    refine ⟨by simp; omega, fun l nl => ?_⟩
    have s4 := same_upd (o := .lst (ps.map V.str ++ (ns.map V.str ++ []))) nl
    have s34 := s3.trans s4
    have at_l : upd H3 l (.lst (ps.map V.str ++ (ns.map V.str ++ []))) l = some (.lst ((ps ++ ns).map V.str)) := by
      rw [upd_same, List.map_append, List.append_nil]
    have o3 := s34 _ _ o2
    have b3 := but_same b2 s34
    have p3 := s34 _ _ p2
    have d3 := s34 _ _ d2
    have pd3 : Paired (TupAt (upd H3 l (.lst (ps.map V.str ++ (ns.map V.str ++ []))))) vd ts := paired_mono (fun _ _ ⟨c, xs, e, e', ec⟩ => ⟨c, xs, e, e', s34 _ _ ec⟩) pd2
    show Ends.nx _ _ (upd H3 l (.lst (ps.map V.str ++ (ns.map V.str ++ []))))
    revert o3 b3 p3 d3 at_l pd3
    generalize upd H3 l (.lst (ps.map V.str ++ (ns.map V.str ++ []))) = G3
    intro at_l o3 b3 p3 d3 pd3
    refine ⟨_, rfl, _, rfl, o, C, dx, _, _, rfl, o3, T.cl, T.n1, rfl, _, rfl, ?_⟩
    have at_c3 := at_c.but b3 ho
    have l40 : (ps ++ ns).length ≤ 40 := by rw [List.length_append]; omega
    rcases evC with ⟨i, tb, bad⟩ | ⟨us, ms, ⟨ec, okc⟩, h, good, rfl, rfl, rfl, k⟩
    · have bad := bad.at b3 o3
      rcases tb with ⟨z, rfl⟩ | ⟨us, t, rest, ms, ec, ok, od, rfl⟩
      · exact ⟨v3, 8, tp, l, fC, c, ps, ps ++ ns, cellB, rfl, at_c3, by decide, p3, p8, .inl at_l, l40, if_pos rfl, named_cell, .inl ⟨z, bad⟩⟩
      · exact ⟨v3, 8, tp, l, fC, c, ps, ps ++ ns, cellB, rfl, at_c3, by decide, p3, p8, .inl at_l, l40, if_pos rfl, named_cell, .inr ⟨us, t :: rest, ms, ec, ok, (fun t' r' e => by cases e; exact ⟨od, bad⟩), (fun e => nomatch e)⟩⟩
    refine ⟨v3, 8, tp, l, fC, c, h.parts, h.parts ++ ns, cellB, rfl, at_c3, by decide, p3, p8, .inl at_l, l40, if_pos rfl, named_cell, .inr ⟨h.cells.map cT, [], ms, by rw [List.append_nil]; exact ec, okc, (fun _ _ e => nomatch e), fun _ H4 tc vc s5 e4 pc => ⟨_, rfl, o, C, dx, _, rfl, s5 _ _ o3, T.cl, T.n3, by show 2 < 1000; decide, ?_⟩⟩⟩
    have ld := lvd
    rw [List.length_map] at ld
    have lc := paired_len pc
    rw [List.length_map] at lc
    have d5 := good.d12
    have c3 := good.c8
    have bH4 : But o H H4 := but_same b3 s5
    have pd4 : Paired (fun v d => ∃ t, v = V.ref t ∧ H4 t = some (.tup (dvs d))) vd h.doors := paired_unmap dT (paired_mono (fun v t ⟨c, xs, e, e', ec⟩ d ed => by
      rw [ed] at e'
      injection e' with e'
      exact ⟨c, e, by rw [s5 _ _ ec, e']⟩) pd3)
    have pc4 : Paired (fun v d => ∃ t, v = V.ref t ∧ H4 t = some (.tup (cvs d))) vc h.cells := paired_unmap cT (paired_mono (fun v t ⟨c, xs, e, e', ec⟩ d ed => by
      rw [ed] at e'
      injection e' with e'
      exact ⟨c, e, by rw [ec, e']⟩) pc)
    have not : ∀ {x : Addr} {xs : List V}, H4 x = some (.tup xs) → x ≠ o := fun e => ne_of e (s5 _ _ o3) (fun z => by cases z)
    have pdx : ∀ {G : Hp}, But o H4 G → Paired (fun v d => ∃ t, v = V.ref t ∧ G t = some (.tup (dvs d))) vd h.doors := fun {G} b => paired_mono (fun v d x => by
      obtain ⟨t, rfl, et⟩ := x
      exact ⟨t, rfl, b _ _ (not et) et⟩) pd4
    have pcx : ∀ {G : Hp}, But o H4 G → Paired (fun v d => ∃ t, v = V.ref t ∧ G t = some (.tup (cvs d))) vc h.cells := fun {G} b => paired_mono (fun v d x => by
      obtain ⟨t, rfl, et⟩ := x
      exact ⟨t, rfl, b _ _ (not et) et⟩) pc4
    have dix : ∀ {G : Hp} (j : Int) (g : Door → V), (∀ d, atI (dvs d) j = some (g d)) → But o H4 G → Paired (fun v y => ∃ t xs, v = V.ref t ∧ G t = some (.tup xs) ∧ atI xs j = some y) vd (h.doors.map g) := fun {G} j g hg b =>
      paired_map g (paired_mono (fun v d x => by
        obtain ⟨t, rfl, et⟩ := x
        exact ⟨t, _, rfl, et, hg d⟩) (pdx b))
    have cix : ∀ {G : Hp} (j : Int) (g : Cell → V), (∀ d, atI (cvs d) j = some (g d)) → But o H4 G → Paired (fun v y => ∃ t xs, v = V.ref t ∧ G t = some (.tup xs) ∧ atI xs j = some y) vc (h.cells.map g) := fun {G} j g hg b =>
      paired_map g (paired_mono (fun v d x => by
        obtain ⟨t, rfl, et⟩ := x
        exact ⟨t, _, rfl, et, hg d⟩) (pcx b))
    have o4 : upd H4 o (.ins C dx [("parts", .ref tp), ("doors", .ref td), ("cells", .ref tc)]) o = some (.ins C dx [("parts", .ref tp), ("doors", .ref td), ("cells", .ref tc)]) := upd_same
    have b4 : But o H4 (upd H4 o (.ins C dx [("parts", .ref tp), ("doors", .ref td), ("cells", .ref tc)])) := but_upd (fun _ _ _ e => e)
    have p4' : upd H4 o (.ins C dx [("parts", .ref tp), ("doors", .ref td), ("cells", .ref tc)]) tp = some (.tup (h.parts.map V.str)) := keep_upd (s5 _ _ o3) (s5 _ _ p3)
    have d4 : upd H4 o (.ins C dx [("parts", .ref tp), ("doors", .ref td), ("cells", .ref tc)]) td = some (.tup vd) := keep_upd (s5 _ _ o3) (s5 _ _ d3)
    have c4 : upd H4 o (.ins C dx [("parts", .ref tp), ("doors", .ref td), ("cells", .ref tc)]) tc = some (.tup vc) := keep_upd (s5 _ _ o3) e4
    show Ends.nx _ _ (upd H4 o (.ins C dx [("parts", .ref tp), ("doors", .ref td), ("cells", .ref tc)]))
    revert o4 b4 p4' d4 c4
    generalize upd H4 o (.ins C dx [("parts", .ref tp), ("doors", .ref td), ("cells", .ref tc)]) = G4
    intro o4 b4 p4' d4 c4
    -- the numbers of the parts
    refine ⟨_, rfl, o, C, dx, _, _, rfl, o4, T.cl, T.n1, rfl, tp, h.parts, rfl, .inr p4', by omega, (parts_good good).nodup, fun H5 D5 kvs s6 e5 nk1 => ⟨_, rfl, o, C, dx, _, rfl, s6 _ _ o4, T.cl, T.n4, by show 3 < 1000; decide, ?_⟩⟩
    have o5 : upd H5 o (.ins C dx [("parts", .ref tp), ("doors", .ref td), ("cells", .ref tc), ("_part_numbers", .ref D5)]) o = some (.ins C dx [("parts", .ref tp), ("doors", .ref td), ("cells", .ref tc), ("_part_numbers", .ref D5)]) := upd_same
    have b5 : But o H4 (upd H5 o (.ins C dx [("parts", .ref tp), ("doors", .ref td), ("cells", .ref tc), ("_part_numbers", .ref D5)])) := but_upd (but_same b4 s6)
    have p5 : upd H5 o (.ins C dx [("parts", .ref tp), ("doors", .ref td), ("cells", .ref tc), ("_part_numbers", .ref D5)]) tp = some (.tup (h.parts.map V.str)) := keep_upd (s6 _ _ o4) (s6 _ _ p4')
    have d5' : upd H5 o (.ins C dx [("parts", .ref tp), ("doors", .ref td), ("cells", .ref tc), ("_part_numbers", .ref D5)]) td = some (.tup vd) := keep_upd (s6 _ _ o4) (s6 _ _ d4)
    have c5 : upd H5 o (.ins C dx [("parts", .ref tp), ("doors", .ref td), ("cells", .ref tc), ("_part_numbers", .ref D5)]) tc = some (.tup vc) := keep_upd (s6 _ _ o4) (s6 _ _ c4)
    have n5 : upd H5 o (.ins C dx [("parts", .ref tp), ("doors", .ref td), ("cells", .ref tc), ("_part_numbers", .ref D5)]) D5 = some (.dK kvs) := keep_dK (s6 _ _ o4) e5
    show Ends.nx _ _ (upd H5 o (.ins C dx [("parts", .ref tp), ("doors", .ref td), ("cells", .ref tc), ("_part_numbers", .ref D5)]))
    revert o5 b5 p5 d5' c5 n5
    generalize upd H5 o (.ins C dx [("parts", .ref tp), ("doors", .ref td), ("cells", .ref tc), ("_part_numbers", .ref D5)]) = G5
    intro o5 b5 p5 d5' c5 n5
    dsimp only
    refine seq_fld (call_one ?_)
    refine comp_ix (td := td) (i := 5) (j := 0) (fun R r => ⟨_, rfl, o, C, dx, _, _, rfl, o5, T.cl, T.n2, rfl, r⟩) d5' (by omega) (dix 0 (fun d => .str d.n) (fun d => rfl) b5) (by intro; rfl) (by intro; rfl) fun A5 D5a sa5 nD5 eD5 => ?_
    refine ⟨D5a, h.doors.map (·.n), rfl, .inl (by rw [List.map_map]; exact eD5), by rw [List.length_map]; omega, nodup_doors good, fun B5 D5b kvs5 sb5 eb5 nk2 => ⟨_, rfl, o, C, dx, _, rfl, (sa5.trans sb5) _ _ o5, T.cl, T.n5, by show 4 < 1000; decide, ?_⟩⟩
    have sc5 := sa5.trans sb5
    have o6 : upd B5 o (.ins C dx [("parts", .ref tp), ("doors", .ref td), ("cells", .ref tc), ("_part_numbers", .ref D5), ("_door_numbers", .ref D5b)]) o = some (.ins C dx [("parts", .ref tp), ("doors", .ref td), ("cells", .ref tc), ("_part_numbers", .ref D5), ("_door_numbers", .ref D5b)]) := upd_same
    have b6 : But o H4 (upd B5 o (.ins C dx [("parts", .ref tp), ("doors", .ref td), ("cells", .ref tc), ("_part_numbers", .ref D5), ("_door_numbers", .ref D5b)])) := but_upd (but_same b5 sc5)
    have p6 : upd B5 o (.ins C dx [("parts", .ref tp), ("doors", .ref td), ("cells", .ref tc), ("_part_numbers", .ref D5), ("_door_numbers", .ref D5b)]) tp = some (.tup (h.parts.map V.str)) := keep_upd (sc5 _ _ o5) (sc5 _ _ p5)
    have d6' : upd B5 o (.ins C dx [("parts", .ref tp), ("doors", .ref td), ("cells", .ref tc), ("_part_numbers", .ref D5), ("_door_numbers", .ref D5b)]) td = some (.tup vd) := keep_upd (sc5 _ _ o5) (sc5 _ _ d5')
    have c6 : upd B5 o (.ins C dx [("parts", .ref tp), ("doors", .ref td), ("cells", .ref tc), ("_part_numbers", .ref D5), ("_door_numbers", .ref D5b)]) tc = some (.tup vc) := keep_upd (sc5 _ _ o5) (sc5 _ _ c5)
    have n6 : upd B5 o (.ins C dx [("parts", .ref tp), ("doors", .ref td), ("cells", .ref tc), ("_part_numbers", .ref D5), ("_door_numbers", .ref D5b)]) D5 = some (.dK kvs) := keep_dK (sc5 _ _ o5) (sc5 _ _ n5)
    show tSeq _ _ _ _ (upd B5 o (.ins C dx [("parts", .ref tp), ("doors", .ref td), ("cells", .ref tc), ("_part_numbers", .ref D5), ("_door_numbers", .ref D5b)]))
    have w6 : But o G5 (upd B5 o (.ins C dx [("parts", .ref tp), ("doors", .ref td), ("cells", .ref tc), ("_part_numbers", .ref D5), ("_door_numbers", .ref D5b)])) := but_upd (But.of_same sc5)
    have x6 : upd B5 o (.ins C dx [("parts", .ref tp), ("doors", .ref td), ("cells", .ref tc), ("_part_numbers", .ref D5), ("_door_numbers", .ref D5b)]) D5b = some (.dK kvs5) := keep_dK (sc5 _ _ o5) eb5
    revert o6 b6 p6 d6' c6 n6 w6 x6
    generalize upd B5 o (.ins C dx [("parts", .ref tp), ("doors", .ref td), ("cells", .ref tc), ("_part_numbers", .ref D5), ("_door_numbers", .ref D5b)]) = G6
    intro o6 b6 p6 d6' c6 n6 w6 x6
    refine seq_fld (call_one ?_)
    refine comp_ix (td := tc) (i := 6) (j := 0) (fun R r => ⟨_, rfl, o, C, dx, _, _, rfl, o6, T.cl, T.n3, rfl, r⟩) c6 (by omega) (cix 0 (fun d => .str d.n) (fun d => rfl) b6) (by intro; rfl) (by intro; rfl) fun A6 D6a sa6 nD6 eD6 => ?_
    refine ⟨D6a, h.cells.map (·.n), rfl, .inl (by rw [List.map_map]; exact eD6), by rw [List.length_map]; omega, nodup_cells good, fun B6 D6b kvs6 sb6 eb6 nk3 => ⟨_, rfl, o, C, dx, _, rfl, (sa6.trans sb6) _ _ o6, T.cl, T.n6, by show 5 < 1000; decide, ?_⟩⟩
    have sc6 := sa6.trans sb6
    have o7 : upd B6 o (.ins C dx [("parts", .ref tp), ("doors", .ref td), ("cells", .ref tc), ("_part_numbers", .ref D5), ("_door_numbers", .ref D5b), ("_cell_numbers", .ref D6b)]) o = some (.ins C dx [("parts", .ref tp), ("doors", .ref td), ("cells", .ref tc), ("_part_numbers", .ref D5), ("_door_numbers", .ref D5b), ("_cell_numbers", .ref D6b)]) := upd_same
    have b7 : But o H4 (upd B6 o (.ins C dx [("parts", .ref tp), ("doors", .ref td), ("cells", .ref tc), ("_part_numbers", .ref D5), ("_door_numbers", .ref D5b), ("_cell_numbers", .ref D6b)])) := but_upd (but_same b6 sc6)
    have p7 : upd B6 o (.ins C dx [("parts", .ref tp), ("doors", .ref td), ("cells", .ref tc), ("_part_numbers", .ref D5), ("_door_numbers", .ref D5b), ("_cell_numbers", .ref D6b)]) tp = some (.tup (h.parts.map V.str)) := keep_upd (sc6 _ _ o6) (sc6 _ _ p6)
    have d7' : upd B6 o (.ins C dx [("parts", .ref tp), ("doors", .ref td), ("cells", .ref tc), ("_part_numbers", .ref D5), ("_door_numbers", .ref D5b), ("_cell_numbers", .ref D6b)]) td = some (.tup vd) := keep_upd (sc6 _ _ o6) (sc6 _ _ d6')
    have c7 : upd B6 o (.ins C dx [("parts", .ref tp), ("doors", .ref td), ("cells", .ref tc), ("_part_numbers", .ref D5), ("_door_numbers", .ref D5b), ("_cell_numbers", .ref D6b)]) tc = some (.tup vc) := keep_upd (sc6 _ _ o6) (sc6 _ _ c6)
    have n7 : upd B6 o (.ins C dx [("parts", .ref tp), ("doors", .ref td), ("cells", .ref tc), ("_part_numbers", .ref D5), ("_door_numbers", .ref D5b), ("_cell_numbers", .ref D6b)]) D5 = some (.dK kvs) := keep_dK (sc6 _ _ o6) (sc6 _ _ n6)
    show tSeq _ _ _ _ (upd B6 o (.ins C dx [("parts", .ref tp), ("doors", .ref td), ("cells", .ref tc), ("_part_numbers", .ref D5), ("_door_numbers", .ref D5b), ("_cell_numbers", .ref D6b)]))
    have w7 : But o G6 (upd B6 o (.ins C dx [("parts", .ref tp), ("doors", .ref td), ("cells", .ref tc), ("_part_numbers", .ref D5), ("_door_numbers", .ref D5b), ("_cell_numbers", .ref D6b)])) := but_upd (But.of_same sc6)
    have x7 : upd B6 o (.ins C dx [("parts", .ref tp), ("doors", .ref td), ("cells", .ref tc), ("_part_numbers", .ref D5), ("_door_numbers", .ref D5b), ("_cell_numbers", .ref D6b)]) D6b = some (.dK kvs6) := keep_dK (sc6 _ _ o6) eb6
    revert o7 b7 p7 d7' c7 n7 w7 x7
    generalize upd B6 o (.ins C dx [("parts", .ref tp), ("doors", .ref td), ("cells", .ref tc), ("_part_numbers", .ref D5), ("_door_numbers", .ref D5b), ("_cell_numbers", .ref D6b)]) = G7
    intro o7 b7 p7 d7' c7 n7 w7 x7
    have lvdd : vd.length = h.doors.length := paired_len (pdx b7)
    have lvcc : vc.length = h.cells.length := paired_len (pcx b7)
    refine seq_fld (cb_one ?_)
    refine ⟨_, rfl, o, C, dx, _, _, rfl, o7, T.cl, T.n2, rfl, td, rfl, ⟨_, SqT.of d7'⟩, fun D8 nD8 => ?_⟩
    refine lc_tup (xs := vd) (fun n H' => Same G7 H' ∧ ∃ acc, H' D8 = some (.lst acc) ∧ Paired (EndAt h.parts H') acc (h.doors.take n)) ⟨same_upd nD8, [], upd_same, .nil⟩ (fun n H' _ z => SqT.of (z.1 _ _ d7')) ?_ ?_
    · rintro n x H8 hx ⟨s8, acc, at_D, pe8⟩
      have la := paired_len pe8
      rw [List.length_take] at la
      obtain ⟨d, hd, t, rfl, et⟩ := paired_get (pdx b7) hx
      have hn : n < vd.length := (List.getElem?_eq_some_iff.mp hx).1
      obtain ⟨g1, g2, _⟩ := good.ends d (List.mem_of_getElem? hd)
      refine ⟨rfl, kept ⟨_, rfl, o, dx, _, rfl, s8 _ _ o7, rfl, _, rfl, t, _, _, V.str d.one, rfl, rfl, SqT.of (s8 _ _ et), atI_nat (j := 1) rfl, ?_⟩⟩
      refine ⟨o, D5, dx, d.one, h.parts, kvs, _, rfl, s8 _ _ o7, rfl, s8 _ _ n7, nk1, g1, ?_⟩
      refine ⟨_, rfl, o, dx, _, rfl, s8 _ _ o7, rfl, _, rfl, t, _, _, V.str d.two, rfl, rfl, SqT.of (s8 _ _ et), atI_nat (j := 2) rfl, ?_⟩
      refine ⟨o, D5, dx, d.two, h.parts, kvs, _, rfl, s8 _ _ o7, rfl, s8 _ _ n7, nk1, g2, ⟨by show 2 ≤ sizeLine; decide, fun u nu => ?_⟩⟩
      have s9 := same_upd (o := .tup [.int (endN h.parts d.one), .int (endN h.parts d.two)]) nu
      refine ⟨acc, s9 _ _ at_D, by omega, fun b x e => ?_, _, upd_same, ?_⟩
      · rw [upd_ne (ne_of_none e nD8)]
        exact s9 _ _ (s8 _ _ e)
      · obtain ⟨hl, rfl⟩ := List.getElem?_eq_some_iff.mp hd
        rw [List.take_succ_eq_append_getElem hl]
        exact paired_snoc (paired_mono (fun _ _ ⟨t, e, et⟩ => ⟨t, e, by rw [upd_ne (ne_of (s9 _ _ et) (s9 _ _ at_D) (fun z => by cases z))]; exact s9 _ _ et⟩) pe8) ⟨u, rfl, by rw [upd_ne (ne_of upd_same (s9 _ _ at_D) (fun z => by cases z))]; exact upd_same⟩
    rintro H8 ⟨s8, acc, at_D, pe8⟩
    rw [lvdd, List.take_length] at pe8
    refine ⟨D8, _, rfl, .inl ⟨SqL.of at_D, fun u8 nu8 => ⟨_, rfl, o, C, dx, _, rfl, (s8.trans (same_upd nu8)) _ _ o7, T.cl, T.n7, by show 6 < 1000; decide, ?_⟩⟩⟩
    have sc8 := s8.trans (same_upd (o := .tup acc) nu8)
    have o8 : upd (upd H8 u8 (.tup acc)) o (.ins C dx [("parts", .ref tp), ("doors", .ref td), ("cells", .ref tc), ("_part_numbers", .ref D5), ("_door_numbers", .ref D5b), ("_cell_numbers", .ref D6b), ("ends", .ref u8)]) o = some (.ins C dx [("parts", .ref tp), ("doors", .ref td), ("cells", .ref tc), ("_part_numbers", .ref D5), ("_door_numbers", .ref D5b), ("_cell_numbers", .ref D6b), ("ends", .ref u8)]) := upd_same
    have b8 : But o H4 (upd (upd H8 u8 (.tup acc)) o (.ins C dx [("parts", .ref tp), ("doors", .ref td), ("cells", .ref tc), ("_part_numbers", .ref D5), ("_door_numbers", .ref D5b), ("_cell_numbers", .ref D6b), ("ends", .ref u8)])) := but_upd (but_same b7 sc8)
    have p8 : upd (upd H8 u8 (.tup acc)) o (.ins C dx [("parts", .ref tp), ("doors", .ref td), ("cells", .ref tc), ("_part_numbers", .ref D5), ("_door_numbers", .ref D5b), ("_cell_numbers", .ref D6b), ("ends", .ref u8)]) tp = some (.tup (h.parts.map V.str)) := keep_upd (sc8 _ _ o7) (sc8 _ _ p7)
    have d8' : upd (upd H8 u8 (.tup acc)) o (.ins C dx [("parts", .ref tp), ("doors", .ref td), ("cells", .ref tc), ("_part_numbers", .ref D5), ("_door_numbers", .ref D5b), ("_cell_numbers", .ref D6b), ("ends", .ref u8)]) td = some (.tup vd) := keep_upd (sc8 _ _ o7) (sc8 _ _ d7')
    have c8 : upd (upd H8 u8 (.tup acc)) o (.ins C dx [("parts", .ref tp), ("doors", .ref td), ("cells", .ref tc), ("_part_numbers", .ref D5), ("_door_numbers", .ref D5b), ("_cell_numbers", .ref D6b), ("ends", .ref u8)]) tc = some (.tup vc) := keep_upd (sc8 _ _ o7) (sc8 _ _ c7)
    have n8 : upd (upd H8 u8 (.tup acc)) o (.ins C dx [("parts", .ref tp), ("doors", .ref td), ("cells", .ref tc), ("_part_numbers", .ref D5), ("_door_numbers", .ref D5b), ("_cell_numbers", .ref D6b), ("ends", .ref u8)]) D5 = some (.dK kvs) := keep_dK (sc8 _ _ o7) (sc8 _ _ n7)
    show tSeq _ _ _ _ (upd (upd H8 u8 (.tup acc)) o (.ins C dx [("parts", .ref tp), ("doors", .ref td), ("cells", .ref tc), ("_part_numbers", .ref D5), ("_door_numbers", .ref D5b), ("_cell_numbers", .ref D6b), ("ends", .ref u8)]))
    have w8 : But o G7 (upd (upd H8 u8 (.tup acc)) o (.ins C dx [("parts", .ref tp), ("doors", .ref td), ("cells", .ref tc), ("_part_numbers", .ref D5), ("_door_numbers", .ref D5b), ("_cell_numbers", .ref D6b), ("ends", .ref u8)])) := but_upd (But.of_same sc8)
    have x8 : upd (upd H8 u8 (.tup acc)) o (.ins C dx [("parts", .ref tp), ("doors", .ref td), ("cells", .ref tc), ("_part_numbers", .ref D5), ("_door_numbers", .ref D5b), ("_cell_numbers", .ref D6b), ("ends", .ref u8)]) u8 = some (.tup acc) := keep_upd (sc8 _ _ o7) upd_same
    have y8 : Paired (EndAt h.parts (upd (upd H8 u8 (.tup acc)) o (.ins C dx [("parts", .ref tp), ("doors", .ref td), ("cells", .ref tc), ("_part_numbers", .ref D5), ("_door_numbers", .ref D5b), ("_cell_numbers", .ref D6b), ("ends", .ref u8)]))) acc h.doors := paired_mono (fun _ _ ⟨t, e, et⟩ => ⟨t, e, keep_upd (sc8 _ _ o7) (same_upd nu8 _ _ et)⟩) pe8
    revert o8 b8 p8 d8' c8 n8 w8 x8 y8
    generalize upd (upd H8 u8 (.tup acc)) o (.ins C dx [("parts", .ref tp), ("doors", .ref td), ("cells", .ref tc), ("_part_numbers", .ref D5), ("_door_numbers", .ref D5b), ("_cell_numbers", .ref D6b), ("ends", .ref u8)]) = G8
    intro o8 b8 p8 d8' c8 n8 w8 x8 y8
    refine seq_fld (cb_one ?_)
    refine ⟨_, rfl, o, C, dx, _, _, rfl, o8, T.cl, T.n3, rfl, tc, rfl, ⟨_, SqT.of c8⟩, fun D9 nD9 => ?_⟩
    refine lc_tup (xs := vc) (fun n H' => Same G8 H' ∧ H' D9 = some (.lst ((h.cells.take n).map fun c => V.int (endN h.parts c.p)))) ⟨same_upd nD9, upd_same⟩ (fun n H' _ z => SqT.of (z.1 _ _ c8)) ?_ ?_
    · rintro n x H9 hx ⟨s9, at_D⟩
      obtain ⟨d, hd, t, rfl, et⟩ := paired_get (pcx b8) hx
      have hn : n < vc.length := (List.getElem?_eq_some_iff.mp hx).1
      refine ⟨rfl, kept ⟨_, rfl, o, dx, _, rfl, s9 _ _ o8, rfl, _, rfl, t, _, _, V.str d.p, rfl, rfl, SqT.of (s9 _ _ et), atI_nat (j := 1) rfl, ?_⟩⟩
      refine ⟨o, D5, dx, d.p, h.parts, kvs, _, rfl, s9 _ _ o8, rfl, s9 _ _ n8, nk1, (.inr (good.cin d (List.mem_of_getElem? hd))), ?_⟩
      refine ⟨_, at_D, by rw [List.length_map, List.length_take]; omega, fun b x e => ?_, ?_⟩
      · rw [upd_ne (ne_of_none e nD9)]
        exact s9 _ _ e
      · obtain ⟨hl, rfl⟩ := List.getElem?_eq_some_iff.mp hd
        rw [upd_same, List.take_succ_eq_append_getElem hl, List.map_append]
        rfl
    rintro H9 ⟨s9, at_D9⟩
    rw [lvcc, List.take_length] at at_D9
    generalize hacc9 : (h.cells.map fun c => V.int (endN h.parts c.p)) = acc9 at at_D9
    refine ⟨D9, _, rfl, .inl ⟨SqL.of at_D9, fun u9 nu9 => ⟨_, rfl, o, C, dx, _, rfl, (s9.trans (same_upd nu9)) _ _ o8, T.cl, T.n8, by show 7 < 1000; decide, ?_⟩⟩⟩
    have sc9 := s9.trans (same_upd (o := .tup acc9) nu9)
    have o9 : upd (upd H9 u9 (.tup acc9)) o (.ins C dx [("parts", .ref tp), ("doors", .ref td), ("cells", .ref tc), ("_part_numbers", .ref D5), ("_door_numbers", .ref D5b), ("_cell_numbers", .ref D6b), ("ends", .ref u8), ("cell_parts", .ref u9)]) o = some (.ins C dx [("parts", .ref tp), ("doors", .ref td), ("cells", .ref tc), ("_part_numbers", .ref D5), ("_door_numbers", .ref D5b), ("_cell_numbers", .ref D6b), ("ends", .ref u8), ("cell_parts", .ref u9)]) := upd_same
    have b9 : But o H4 (upd (upd H9 u9 (.tup acc9)) o (.ins C dx [("parts", .ref tp), ("doors", .ref td), ("cells", .ref tc), ("_part_numbers", .ref D5), ("_door_numbers", .ref D5b), ("_cell_numbers", .ref D6b), ("ends", .ref u8), ("cell_parts", .ref u9)])) := but_upd (but_same b8 sc9)
    have p9 : upd (upd H9 u9 (.tup acc9)) o (.ins C dx [("parts", .ref tp), ("doors", .ref td), ("cells", .ref tc), ("_part_numbers", .ref D5), ("_door_numbers", .ref D5b), ("_cell_numbers", .ref D6b), ("ends", .ref u8), ("cell_parts", .ref u9)]) tp = some (.tup (h.parts.map V.str)) := keep_upd (sc9 _ _ o8) (sc9 _ _ p8)
    have d9' : upd (upd H9 u9 (.tup acc9)) o (.ins C dx [("parts", .ref tp), ("doors", .ref td), ("cells", .ref tc), ("_part_numbers", .ref D5), ("_door_numbers", .ref D5b), ("_cell_numbers", .ref D6b), ("ends", .ref u8), ("cell_parts", .ref u9)]) td = some (.tup vd) := keep_upd (sc9 _ _ o8) (sc9 _ _ d8')
    have c9 : upd (upd H9 u9 (.tup acc9)) o (.ins C dx [("parts", .ref tp), ("doors", .ref td), ("cells", .ref tc), ("_part_numbers", .ref D5), ("_door_numbers", .ref D5b), ("_cell_numbers", .ref D6b), ("ends", .ref u8), ("cell_parts", .ref u9)]) tc = some (.tup vc) := keep_upd (sc9 _ _ o8) (sc9 _ _ c8)
    have n9 : upd (upd H9 u9 (.tup acc9)) o (.ins C dx [("parts", .ref tp), ("doors", .ref td), ("cells", .ref tc), ("_part_numbers", .ref D5), ("_door_numbers", .ref D5b), ("_cell_numbers", .ref D6b), ("ends", .ref u8), ("cell_parts", .ref u9)]) D5 = some (.dK kvs) := keep_dK (sc9 _ _ o8) (sc9 _ _ n8)
    show sFld _ _ _ _ _ _ (upd (upd H9 u9 (.tup acc9)) o (.ins C dx [("parts", .ref tp), ("doors", .ref td), ("cells", .ref tc), ("_part_numbers", .ref D5), ("_door_numbers", .ref D5b), ("_cell_numbers", .ref D6b), ("ends", .ref u8), ("cell_parts", .ref u9)]))
    have w9 : But o G8 (upd (upd H9 u9 (.tup acc9)) o (.ins C dx [("parts", .ref tp), ("doors", .ref td), ("cells", .ref tc), ("_part_numbers", .ref D5), ("_door_numbers", .ref D5b), ("_cell_numbers", .ref D6b), ("ends", .ref u8), ("cell_parts", .ref u9)])) := but_upd (But.of_same sc9)
    have x9 : upd (upd H9 u9 (.tup acc9)) o (.ins C dx [("parts", .ref tp), ("doors", .ref td), ("cells", .ref tc), ("_part_numbers", .ref D5), ("_door_numbers", .ref D5b), ("_cell_numbers", .ref D6b), ("ends", .ref u8), ("cell_parts", .ref u9)]) u9 = some (.tup acc9) := keep_upd (sc9 _ _ o8) upd_same
    revert o9 b9 p9 d9' c9 n9 w9 x9
    generalize upd (upd H9 u9 (.tup acc9)) o (.ins C dx [("parts", .ref tp), ("doors", .ref td), ("cells", .ref tc), ("_part_numbers", .ref D5), ("_door_numbers", .ref D5b), ("_cell_numbers", .ref D6b), ("ends", .ref u8), ("cell_parts", .ref u9)]) = G9
    intro o9 b9 p9 d9' c9 n9 w9 x9
    refine one_fld (cb_one ?_)
    refine comp_ix (td := tc) (i := 6) (j := 2) (fun R r => ⟨_, rfl, o, C, dx, _, _, rfl, o9, T.cl, T.n3, rfl, r⟩) c9 (by omega) (cix 2 (fun d => .bl d.k) (fun d => rfl) b9) (by intro; rfl) (by intro; rfl) fun A9 D9a sa9 nD9 eD9 => ?_
    refine ⟨D9a, _, rfl, .inl ⟨SqL.of eD9, fun u nu => ⟨_, rfl, o, C, dx, _, rfl, (sa9.trans (same_upd nu)) _ _ o9, T.cl, T.n9, by show 8 < 1000; decide, ?_⟩⟩⟩
    have sc9 := sa9.trans (same_upd (o := .tup (h.cells.map fun d => V.bl d.k)) nu)
    have wA : But o G9 (upd (upd A9 u (.tup (h.cells.map fun d => V.bl d.k))) o (.ins C dx (houseFs tp td tc D5 D5b D6b u8 u9 u))) := but_upd (But.of_same sc9)
    have w9A := w9.trans wA
    have w8A := w8.trans w9A
    have w7A := w7.trans w8A
    have nt : ∀ {G : Hp} {fs : List (Str × V)} {x : Addr} {xs : List V}, G o = some (.ins C dx fs) → G x = some (.tup xs) → x ≠ o := fun e e' => ne_of e' e (fun z => by cases z)
    have nk : ∀ {G : Hp} {fs : List (Str × V)} {x : Addr} {xs : List (Key × V)}, G o = some (.ins C dx fs) → G x = some (.dK xs) → x ≠ o := fun e e' => ne_of e' e (fun z => by cases z)
    refine k _ (But.trans bH4 (but_upd (but_same b9 sc9))) ⟨dx, tp, td, tc, D5, D5b, D6b, u8, u9, u, vd, vc, acc, kvs, kvs5, kvs6, {
      ins := upd_same
      pa := keep_upd (sc9 _ _ o9) (sc9 _ _ p9)
      da := keep_upd (sc9 _ _ o9) (sc9 _ _ d9')
      dp := pdx (but_upd (but_same b9 sc9))
      ca := keep_upd (sc9 _ _ o9) (sc9 _ _ c9)
      cp := pcx (but_upd (but_same b9 sc9))
      n1 := keep_dK (sc9 _ _ o9) (sc9 _ _ n9)
      m1 := nk1
      n2 := w7A _ _ (nk o6 x6) x6
      m2 := nk2
      n3 := w8A _ _ (nk o7 x7) x7
      m3 := nk3
      ea := w9A _ _ (nt o8 x8) x8
      ep := paired_mono (fun _ _ ⟨t, e, et⟩ => ⟨t, e, w9A _ _ (nt o8 et) et⟩) y8
      qa := by
        rw [hacc9]
        exact wA _ _ (nt o9 x9) x9
      ka := keep_upd (sc9 _ _ o9) upd_same }⟩
end
end K01

namespace K01
open PySem PySem.Spec PyProof.Rows L2
open Cal EnuT Sqx Exn Keys

def partRow (n : Str) : Str := "part " ++ n
def doorRow (d : Door) : Str := Txt.join " " ["door", d.n, d.one, d.two, if d.op = true then "open" else "shut"]
def cellRow (c : Cell) : Str := Txt.join " " ([("cell" : Str), c.n, c.p] ++ if c.k = true then [("kept" : Str)] else [])
def rowsOf (h : Hs) : List Str := h.parts.map partRow ++ (h.doors.map doorRow ++ h.cells.map cellRow)
def textOf (h : Hs) : Str := Txt.join "\n" (rowsOf h)
theorem sum_le (xs : List Nat) (n : Nat) (h : ∀ x, x ∈ xs → x ≤ n) : xs.sum ≤ xs.length * n := by
  induction xs with
  | nil => simp
  | cons x xs ih =>
    have := ih fun y hy => h y (List.mem_cons_of_mem _ hy)
    have := h x (List.mem_cons_self ..)
    simp [Nat.add_mul]
    omega
theorem join_lenS (a : Str) : ∀ (xs : List Str), (Str.join a xs).length ≤ (xs.map fun x => x.length).sum + xs.length * a.length
  | [] => Nat.zero_le _
  | [x] => by
    have h : Str.join a [x] = x := rfl
    rw [h]
    simp
  | x :: y :: r => by
    have ih := join_lenS a (y :: r)
    have h : (Str.join a (x :: y :: r)).length = x.length + (a.length + (Str.join a (y :: r)).length) := by
      rw [Tx.len_L, Tx.len_L x, Tx.len_L a, Tx.len_L (Str.join a (y :: r)), Tx.L_join]
      simp
    rw [h]
    simp only [List.map_cons, List.sum_cons, List.length_cons] at ih ⊢
    have : (r.length + 1 + 1) * a.length = a.length + (r.length + 1) * a.length := by rw [Nat.add_mul (r.length + 1) 1]; omega
    omega
theorem join_len (a : Str) (xs : List Str) : (Txt.join a xs).length ≤ (xs.map fun x => x.length).sum + xs.length * a.length := by
  rw [show Txt.join a xs = Str.join a xs from StrLaws.glued_eq_join _ _]
  exact join_lenS a xs
theorem name_len {s : Str} (h : nameOk s = true) : s.length ≤ 8 := by
  unfold nameOk at h
  simp only [Bool.and_eq_true, decide_eq_true_eq] at h
  exact h.1.1.2
theorem end_len {h : Hs} (g : GoodH h) {x : Str} (e : EndIn h.parts x) : x.length ≤ 8 := by
  rcases e with rfl | e
  · decide
  · exact name_len (g.name x (List.mem_append_left _ e))
theorem row_len {h : Hs} (g : GoodH h) : ∀ r, r ∈ rowsOf h → r.length ≤ 60 := by
  intro r hr
  rcases List.mem_append.mp hr with z | z
  · obtain ⟨n, hn, rfl⟩ := List.mem_map.mp z
    have := name_len (g.name n (List.mem_append_left _ hn))
    have e : (partRow n).length = 5 + n.length := by
      show (("part " ++ n : Str)).length = _
      rw [Tx.len_L, Tx.L_append, List.length_append, Tx.len_L n]
      rfl
    omega
  · rcases List.mem_append.mp z with z | z
    · obtain ⟨d, hd, rfl⟩ := List.mem_map.mp z
      have n1 := name_len (g.name d.n (List.mem_append_right _ (List.mem_append_left _ (List.mem_map.mpr ⟨d, hd, rfl⟩))))
      obtain ⟨e1, e2, _⟩ := g.ends d hd
      have l1 := end_len g e1
      have l2 := end_len g e2
      have l3 : (if d.op = true then ("open" : Str) else "shut").length = 4 := by cases d.op <;> rfl
      have h := join_len " " ["door", d.n, d.one, d.two, if d.op = true then "open" else "shut"]
      simp only [List.map_cons, List.map_nil, List.sum_cons, List.sum_nil, List.length_cons, List.length_nil] at h
      have e4 : ("door" : Str).length = 4 := rfl
      have e1 : (" " : Str).length = 1 := rfl
      show (Txt.join " " _).length ≤ 60
      rw [l3, e4, e1] at h
      omega
    · obtain ⟨d, hd, rfl⟩ := List.mem_map.mp z
      have n1 := name_len (g.name d.n (List.mem_append_right _ (List.mem_append_right _ (List.mem_map.mpr ⟨d, hd, rfl⟩))))
      have l1 := name_len (g.name d.p (List.mem_append_left _ (g.cin d hd)))
      have h := join_len " " ([("cell" : Str), d.n, d.p] ++ if d.k = true then [("kept" : Str)] else [])
      have e4 : ("cell" : Str).length = 4 := rfl
      have e5 : ("kept" : Str).length = 4 := rfl
      have e1 : (" " : Str).length = 1 := rfl
      show (Txt.join " " _).length ≤ 60
      cases ek : d.k with
      | true =>
        rw [ek, if_pos rfl] at h
        rw [if_pos rfl]
        simp only [List.cons_append, List.nil_append, List.map_cons, List.map_nil, List.sum_cons, List.sum_nil, List.length_cons, List.length_nil, e4, e5, e1] at h
        simp only [List.cons_append, List.nil_append]
        omega
      | false =>
        rw [ek, if_neg (by decide)] at h
        rw [if_neg (by decide)]
        simp only [List.append_nil, List.map_cons, List.map_nil, List.sum_cons, List.sum_nil, List.length_cons, List.length_nil, e4, e1] at h
        simp only [List.append_nil]
        omega
theorem rows_len {h : Hs} (g : GoodH h) : (rowsOf h).length ≤ 28 := by
  have := g.p8
  have := g.d12
  have := g.c8
  unfold rowsOf
  rw [List.length_append, List.length_append, List.length_map, List.length_map, List.length_map]
  omega
theorem HouseIns.same {H H' : Hp} {C o : Addr} {h : Hs} (s : Same H H') (x : HouseIns H C o h) : HouseIns H' C o h := by
  obtain ⟨dx, fs, tp, td, tc, vd, vc, h1, l1, l2, l3, l4, h2, h3, p1, h4, p2⟩ := x
  exact ⟨dx, fs, tp, td, tc, vd, vc, s _ _ h1, l1, l2, l3, l4, s _ _ h2, s _ _ h3, paired_mono (fun _ _ r => r.mono fun _ e => s _ _ e) p1, s _ _ h4, paired_mono (fun _ _ r => r.mono fun _ e => s _ _ e) p2⟩
def spText (C : Addr) : Sp := fun vs H Q _ => ∃ (o : Addr) (h : Hs), vs = [.ref o] ∧ HouseIns H C o h ∧ GoodH h ∧ ∀ H', Same H H' → Q (.str (textOf h)) H'
section
variable {P : Program} {w : World} {K : W.Frag} {mg : Str → Option Value} {base : Heap}
abbrev NTx : List Str := ["self", "rows", "name", "one", "other", "is_open", "part", "is_kept"]
theorem scTx : FnScope NTx ["self"] (defScope sText) := ⟨rfl, rfl, rfl, by decide +kernel, rfl, by decide +kernel, by decide +kernel⟩
theorem ok_text {f C : Addr} {fd : FuncData} (F : Fun K "text" "House.text" sText f fd) (T : HC2 K C) : FnOk P w K mg base CX0 1 f fd ["self"] (spText C) := by
  refine F.ok scTx (fun vs H Q E h => ?_) (fun cdv A outer s H vs Q E hr h => ?_)
  · obtain ⟨o, h, rfl, _⟩ := h
    rfl
  · obtain ⟨o, h, rfl, ⟨dx, fs, tp, td, tc, vd, vc, ho, l1, l2, l3, _, hp, hd, pd, hc, pc⟩, g, k⟩ := h
    refine ⟨_, pss_cons (ps_setLc (i := 1) (own := [("name", 2)]) (g := gName 2) (tt := tYes) (by rfl) scTx.nd rfl rfl (sw_true rfl rfl rfl (by decide +kernel)) (pi_tup (pe_fld (pv 0) rfl))
        (blkOk_by (own := [("name", 2)]) (N := NTx) (sc := defScope sText) (by decide +kernel))
        (fun _ _ _ _ _ => pg_name (i := 2) scTx.nd rfl (Or.inl rfl)) (fun _ _ _ _ _ => pts_nil) (fun _ _ _ _ _ => pe_op op_add_str pe_str (pv 2)))
      (pss_cons (ps_for PassesOwn.never rfl (pi_tup (pe_fld (pv 0) rfl)) (pg_tup rfl (pgs_cons (pg_name (i := 2) scTx.nd rfl (Or.inl rfl)) (pgs_cons (pg_name (i := 3) scTx.nd rfl (Or.inl rfl)) (pgs_cons (pg_name (i := 4) scTx.nd rfl (Or.inl rfl)) (pgs_cons (pg_name (i := 5) scTx.nd rfl (Or.inl rfl)) pgs_nil)))))
        (pss_one (ps_expr (pe_bm PySem.F.plainAttrs_list PySem.F.slot_list_append PySem.F.type_list_append mt_append (pv 1) (pa_cons (pe_join pe_str (pe_lst (pa_cons pe_str (pa_cons (pv 2) (pa_cons (pv 3) (pa_cons (pv 4) (pa_cons (pe_ifExp (pt_truth (pv 5) (by intro _; rfl)) pe_str pe_str) pa_nil))))))) pa_nil)))))
      (pss_cons (ps_for PassesOwn.never rfl (pi_tup (pe_fld (pv 0) rfl)) (pg_tup rfl (pgs_cons (pg_name (i := 2) scTx.nd rfl (Or.inl rfl)) (pgs_cons (pg_name (i := 6) scTx.nd rfl (Or.inl rfl)) (pgs_cons (pg_name (i := 7) scTx.nd rfl (Or.inl rfl)) pgs_nil))))
        (pss_one (ps_expr (pe_bm PySem.F.plainAttrs_list PySem.F.slot_list_append PySem.F.type_list_append mt_append (pv 1) (pa_cons (pe_join pe_str (pe_op op_cat (pe_lst (pa_cons pe_str (pa_cons (pv 2) (pa_cons (pv 6) pa_nil)))) (pe_ifExp (pt_truth (pv 7) (by intro _; rfl)) (pe_lst (pa_cons pe_str pa_nil)) (pe_lst pa_nil)))) pa_nil)))))
      (pss_one (ps_ret (pe_join pe_str (pv 1)))))), ?_⟩
    have line : (1000 : Nat) ≤ sizeLine := by decide
    have p8 := g.p8
    have d12 := g.d12
    have c8 := g.c8
    refine ⟨_, rfl, o, C, dx, _, _, rfl, ho, T.cl, T.n1, l1, tp, rfl, ⟨_, SqT.of hp⟩, fun D nD => ?_⟩
    refine lc_tup (xs := h.parts.map V.str) (fun i H' => Same H H' ∧ H' D = some (.lst (((h.parts.take i).map partRow).map V.str))) ⟨same_upd nD, upd_same⟩ (fun i H' _ z => SqT.of (z.1 _ _ hp)) ?_ ?_
    · rintro i x H1 hx ⟨s1, at_D⟩
      rw [List.getElem?_map] at hx
      obtain ⟨n, hn, rfl⟩ := Option.map_eq_some_iff.mp hx
      obtain ⟨hi, rfl⟩ := List.getElem?_eq_some_iff.mp hn
      have nl := name_len (g.name _ (List.mem_append_left _ (List.getElem_mem hi)))
      refine ⟨rfl, kept ⟨_, rfl, _, _, rfl, rfl, ?_, _, at_D, ?_, fun b o e => ?_, ?_⟩⟩
      · have : ("part " : Str).length = 5 := rfl
        omega
      · rw [List.length_map, List.length_map, List.length_take]
        omega
      · rw [upd_ne (ne_of_none e nD)]
        exact s1 _ _ e
      · rw [upd_same, List.take_succ_eq_append_getElem hi, List.map_append, List.map_append]
        rfl
    rintro H1 ⟨s1, at_D⟩
    rw [List.length_map, List.take_length] at at_D
    refine ⟨_, rfl, o, C, dx, _, _, rfl, s1 _ _ ho, T.cl, T.n2, l2, td, rfl, ⟨_, SqT.of (s1 _ _ hd)⟩, for_it (walk_tup (xs := vd)) (fun i σ H' => ∃ v2 v3 v4 v5 v6 v7 : Option V, σ = [some (.ref o), some (.ref D), v2, v3, v4, v5, v6, v7] ∧ Same H H' ∧ H' D = some (.lst ((h.parts.map partRow ++ (h.doors.take i).map doorRow).map V.str)))
      ⟨_, _, _, _, _, _, rfl, s1, by rw [List.take_zero, List.map_nil, List.append_nil]; exact at_D⟩ (fun i σ H' _ z => ?_) ?_ ?_⟩
    · obtain ⟨_, _, _, _, _, _, _, s, _⟩ := z
      exact SqT.of (s _ _ hd)
    · rintro i x σ H2' H2 hi ⟨v2, v3, v4, v5, w6, w7, rfl, s2, at_D2⟩ ⟨rfl, hx⟩
      obtain ⟨d, hdi, t, rfl, et⟩ := paired_get pd hx
      obtain ⟨hi', rfl⟩ := List.getElem?_eq_some_iff.mp hdi
      have mem := List.getElem_mem hi'
      have rl := row_len g (doorRow h.doors[i]) (List.mem_append_right _ (List.mem_append_left _ (List.mem_map.mpr ⟨_, mem, rfl⟩)))
      generalize ed : h.doors[i] = d at et mem rl
      have n1 := name_len (g.name d.n (List.mem_append_right _ (List.mem_append_left _ (List.mem_map.mpr ⟨d, mem, rfl⟩))))
      obtain ⟨e1, e2, _⟩ := g.ends d mem
      have l1 := end_len g e1
      have l2 := end_len g e2
      refine ⟨t, _, rfl, SqT.of (s2 _ _ et), rfl, _, _, rfl, _, _, rfl, _, _, rfl, _, _, rfl, rfl, ?_⟩
      refine ⟨_, rfl, .inl ⟨rfl, _, SqL.of at_D2⟩, ⟨_, rfl⟩, _, rfl, _, rfl, _, rfl, _, rfl, d.op, rfl, ?_⟩
      have l4 : ("door" : Str).length = 4 := rfl
      have l5 : ("open" : Str).length = 4 := rfl
      have l6 : ("shut" : Str).length = 4 := rfl
      have l7 : (" " : Str).length = 1 := rfl
      have next : ∀ (bo : Bool) (q : Addr) (xs : List V) (r : Str), H2 q = none → doorRow d = r → ∃ (l : Addr) (ys : List V) (z : V), V.ref D = .ref l ∧ [V.str r] = [z] ∧ upd H2 q (.lst xs) l = some (.lst ys) ∧ ys.length < sizeLine ∧
          ∃ v2 v3 v4 v5 v6 v7 : Option V, [some (V.ref o), some (V.ref D), some (V.str d.n), some (V.str d.one), some (V.str d.two), some (V.bl bo), w6, w7] = [some (.ref o), some (.ref D), v2, v3, v4, v5, v6, v7] ∧ Same H (upd (upd H2 q (.lst xs)) l (.lst (ys ++ [z]))) ∧ upd (upd H2 q (.lst xs)) l (.lst (ys ++ [z])) D = some (.lst ((h.parts.map partRow ++ (h.doors.take (i + 1)).map doorRow).map V.str)) := by
        intro bo q xs r nq er
        have s3 := same_upd (o := .lst xs) nq
        refine ⟨D, _, _, rfl, rfl, s3 _ _ at_D2, ?_, _, _, _, _, _, _, rfl, fun b u e => ?_, ?_⟩
        · rw [List.length_map, List.length_append, List.length_map, List.length_map, List.length_take]
          omega
        · rw [upd_ne (ne_of_none e nD)]
          exact s3 _ _ (s2 _ _ e)
        · rw [upd_same, List.take_succ_eq_append_getElem hi', ed, List.map_append (f := doorRow), ← List.append_assoc]
          show some (HO.lst (_ ++ [V.str r])) = _
          rw [List.map_append (f := V.str) (l₂ := List.map doorRow [d])]
          show _ = some (HO.lst (_ ++ [V.str (doorRow d)]))
          rw [er]
      cases eo : d.op with
      | true =>
        refine iteT ⟨by show 5 ≤ sizeLine; decide, fun q nq => ⟨_, q, ["door", d.n, d.one, d.two, "open"], rfl, rfl, .inl (SqL.of upd_same), ?_, next true q _ _ nq (by unfold doorRow; rw [eo]; rfl)⟩⟩
        simp only [List.map_cons, List.map_nil, List.sum_cons, List.sum_nil, List.length_cons, List.length_nil]
        omega
      | false =>
        refine iteF ⟨by show 5 ≤ sizeLine; decide, fun q nq => ⟨_, q, ["door", d.n, d.one, d.two, "shut"], rfl, rfl, .inl (SqL.of upd_same), ?_, next false q _ _ nq (by unfold doorRow; rw [eo]; rfl)⟩⟩
        simp only [List.map_cons, List.map_nil, List.sum_cons, List.sum_nil, List.length_cons, List.length_nil]
        omega
    · rintro σ H2 ⟨v2, v3, v4, v5, v6, v7, rfl, s2, at_D2⟩
      rw [← paired_len pd |>.symm, List.take_length] at at_D2
      refine ⟨_, rfl, o, C, dx, _, _, rfl, s2 _ _ ho, T.cl, T.n3, l3, tc, rfl, ⟨_, SqT.of (s2 _ _ hc)⟩, for_it (walk_tup (xs := vc)) (fun i σ H' => ∃ v2 v3 v4 v5 v6 v7 : Option V, σ = [some (.ref o), some (.ref D), v2, v3, v4, v5, v6, v7] ∧ Same H H' ∧ H' D = some (.lst ((h.parts.map partRow ++ (h.doors.map doorRow ++ (h.cells.take i).map cellRow)).map V.str)))
        ⟨_, _, _, _, _, _, rfl, s2, by rw [List.take_zero, List.map_nil, List.append_nil]; exact at_D2⟩ (fun i σ H' _ z => ?_) ?_ ?_⟩
      · obtain ⟨_, _, _, _, _, _, _, s, _⟩ := z
        exact SqT.of (s _ _ hc)
      · rintro i x σ H3' H3 hi ⟨v2, w3, w4, w5, v6, v7, rfl, s3, at_D3⟩ ⟨rfl, hx⟩
        obtain ⟨d, hdi, t, rfl, et⟩ := paired_get pc hx
        obtain ⟨hi', rfl⟩ := List.getElem?_eq_some_iff.mp hdi
        have mem := List.getElem_mem hi'
        generalize ed : h.cells[i] = d at et mem
        have n1 := name_len (g.name d.n (List.mem_append_right _ (List.mem_append_right _ (List.mem_map.mpr ⟨d, mem, rfl⟩))))
        have l1 := name_len (g.name d.p (List.mem_append_left _ (g.cin d mem)))
        refine ⟨t, _, rfl, SqT.of (s3 _ _ et), rfl, _, _, rfl, _, _, rfl, _, _, rfl, rfl, ?_⟩
        refine ⟨_, rfl, .inl ⟨rfl, _, SqL.of at_D3⟩, ⟨_, rfl⟩, _, rfl, _, rfl, by show 3 ≤ sizeLine; decide, fun u nu => ⟨_, rfl, d.k, rfl, ?_⟩⟩
        have l4 : ("cell" : Str).length = 4 := rfl
        have l5 : ("kept" : Str).length = 4 := rfl
        have l7 : (" " : Str).length = 1 := rfl
        have next : ∀ (bo : Bool) (H4 : Hp) (r : Str), Same H3 H4 → cellRow d = r → ∃ (l : Addr) (ys : List V) (z : V), V.ref D = .ref l ∧ [V.str r] = [z] ∧ H4 l = some (.lst ys) ∧ ys.length < sizeLine ∧
            ∃ v2 v3 v4 v5 v6 v7 : Option V, [some (V.ref o), some (V.ref D), some (V.str d.n), w3, w4, w5, some (V.str d.p), some (V.bl bo)] = [some (.ref o), some (.ref D), v2, v3, v4, v5, v6, v7] ∧ Same H (upd H4 l (.lst (ys ++ [z]))) ∧ upd H4 l (.lst (ys ++ [z])) D = some (.lst ((h.parts.map partRow ++ (h.doors.map doorRow ++ (h.cells.take (i + 1)).map cellRow)).map V.str)) := by
          intro bo H4 r s4 er
          have c8 := g.c8
          have ld := paired_len pd
          refine ⟨D, _, _, rfl, rfl, s4 _ _ at_D3, ?_, _, _, _, _, _, _, rfl, fun b u e => ?_, ?_⟩
          · rw [List.length_map, List.length_append, List.length_append, List.length_map, List.length_map, List.length_map, List.length_take]
            omega
          · rw [upd_ne (ne_of_none e nD)]
            exact s4 _ _ (s3 _ _ e)
          · rw [upd_same, List.take_succ_eq_append_getElem hi', ed]
            simp [List.append_assoc, er]
        have s4 := same_upd (o := .lst [.str "cell", .str d.n, .str d.p]) nu
        cases ek : d.k with
        | true =>
          refine iteT ⟨by show 1 ≤ sizeLine; decide, fun y ny => ⟨_, _, _, _, rfl, rfl, same_upd ny _ _ upd_same, upd_same, by show 4 ≤ sizeLine; decide, fun q nq => ⟨_, q, ["cell", d.n, d.p, "kept"], rfl, rfl, .inl (SqL.of upd_same), ?_, next true _ _ ((s4.trans (same_upd ny)).trans (same_upd nq)) (by unfold cellRow; rw [ek]; rfl)⟩⟩⟩
          simp only [List.map_cons, List.map_nil, List.sum_cons, List.sum_nil, List.length_cons, List.length_nil]
          omega
        | false =>
          refine iteF ⟨by show 0 ≤ sizeLine; decide, fun y ny => ⟨_, _, _, _, rfl, rfl, same_upd ny _ _ upd_same, upd_same, by show 3 ≤ sizeLine; decide, fun q nq => ⟨_, q, ["cell", d.n, d.p], rfl, rfl, .inl (SqL.of upd_same), ?_, next false _ _ ((s4.trans (same_upd ny)).trans (same_upd nq)) (by unfold cellRow; rw [ek]; rfl)⟩⟩⟩
          simp only [List.map_cons, List.map_nil, List.sum_cons, List.sum_nil, List.length_cons, List.length_nil]
          omega
      · rintro σ H3 ⟨v2, v3, v4, v5, v6, v7, rfl, s3, at_D3⟩
        rw [← paired_len pc |>.symm, List.take_length] at at_D3
        refine ⟨⟨_, rfl⟩, _, rfl, _, D, rowsOf h, rfl, rfl, .inl (SqL.of at_D3), ?_, k _ s3⟩
        have := sum_le ((rowsOf h).map (·.length)) 60 (fun x hx => by
          obtain ⟨r, hr, rfl⟩ := List.mem_map.mp hx
          exact row_len g r hr)
        have := rows_len g
        rw [List.length_map] at *
        have e1 : ("\n" : Str).length = 1 := rfl
        rw [e1]
        omega
end
end K01

namespace K01
open PySem PySem.Spec PyProof.Rows L2
open Cal EnuT Sqx Exn Keys

/-- the thing that the words of a row tell: its rank, itself -/
def thingP : List Str → Option (Nat × Tv)
  | [w0, a] => if w0 = "part" then some (0, .fl (.str a)) else none
  | [w0, a, b] => if w0 = "cell" then some (2, .sq [.str a, .str b, .bl false]) else none
  | [w0, a, b, c] => if w0 = "cell" ∧ c = "kept" then some (2, .sq [.str a, .str b, .bl true]) else none
  | [w0, a, b, c, d] => if w0 = "door" ∧ (d = "open" ∨ d = "shut") then some (1, .sq [.str a, .str b, .str c, .bl (decide (d = "open"))]) else none
  | _ => none
def wordsOf (s : Str) : List Str := Txt.split s " "
/-- as TvAt, a tuple where it has parts -/
def TvT (H : Hp) (v : V) : Tv → Prop
  | .fl u => v = u ∧ flatOk u = true
  | .sq xs => ∃ a, v = .ref a ∧ H a = some (.tup xs) ∧ xs.length ≤ 20 ∧ ∀ x, x ∈ xs → flatOk x = true
theorem TvT.at {H : Hp} {v : V} {t : Tv} (x : TvT H v t) : TvAt H v t := by
  cases t with
  | fl u => exact x
  | sq xs =>
    obtain ⟨a, e, q, r⟩ := x
    exact ⟨a, e, .inr q, r⟩
theorem TvT.keep {H H' : Hp} (k : ∀ a xs, H a = some (.tup xs) → H' a = some (.tup xs)) {v : V} {t : Tv} (x : TvT H v t) : TvT H' v t := by
  cases t with
  | fl u => exact x
  | sq xs =>
    obtain ⟨a, e, q, r⟩ := x
    exact ⟨a, e, k _ _ q, r⟩
def spThingOf : Sp := fun vs H Q _ => ∃ s : Str, vs = [.str s] ∧ s.length ≤ 900 ∧ (wordsOf s).length ≤ 1000 ∧
  (thingP (wordsOf s) = none → ∀ H', Same H H' → Q .non H') ∧ (∀ r t, thingP (wordsOf s) = some (r, t) → ∀ H' u x, Same H H' → H' u = some (.tup [.int (r : Nat), x]) → TvT H' x t → Q (.ref u) H')
theorem dstr (a b : Str) : decide (V.str a = V.str b) = decide (a = b) := by
  by_cases e : a = b
  · rw [e]; simp
  · rw [decide_eq_false e, decide_eq_false fun z => e (by injection z)]
theorem dnum (n m : Nat) : decide (V.int (n : Nat) = V.int (m : Nat)) = decide (n = m) := len_ne
theorem tq1 (w a : Str) : thingP [w, a] = if w = "part" then some (0, .fl (.str a)) else none := rfl
theorem tq2 (w a b : Str) : thingP [w, a, b] = if w = "cell" then some (2, .sq [.str a, .str b, .bl false]) else none := rfl
theorem tq3 (w a b c : Str) : thingP [w, a, b, c] = if w = "cell" ∧ c = "kept" then some (2, .sq [.str a, .str b, .bl true]) else none := rfl
theorem tq4 (w a b c d : Str) : thingP [w, a, b, c, d] = if w = "door" ∧ (d = "open" ∨ d = "shut") then some (1, .sq [.str a, .str b, .str c, .bl (decide (d = "open"))]) else none := rfl
theorem pd : ("part" : Str) ≠ "door" := by decide
theorem pc : ("part" : Str) ≠ "cell" := by decide
theorem dc : ("door" : Str) ≠ "cell" := by decide
theorem tp_part : ∀ ws : List Str, ws.length + 1 ≠ 2 → thingP ("part" :: ws) = none
  | [], _ => rfl
  | [_], h => absurd rfl h
  | [_, _], _ => (tq2 ..).trans (if_neg pc)
  | [_, _, _], _ => (tq3 ..).trans (if_neg (fun z => pc z.1))
  | [_, _, _, _], _ => (tq4 ..).trans (if_neg (fun z => pd z.1))
  | _ :: _ :: _ :: _ :: _ :: _, _ => rfl
theorem tp_door : ∀ ws : List Str, ws.length + 1 ≠ 5 → thingP ("door" :: ws) = none
  | [], _ => rfl
  | [_], _ => (tq1 ..).trans (if_neg (Ne.symm pd))
  | [_, _], _ => (tq2 ..).trans (if_neg dc)
  | [_, _, _], _ => (tq3 ..).trans (if_neg (fun z => dc z.1))
  | [_, _, _, _], h => absurd rfl h
  | _ :: _ :: _ :: _ :: _ :: _, _ => rfl
theorem tp_cell : ∀ ws : List Str, ws.length + 1 ≠ 3 → ws.length + 1 ≠ 4 → thingP ("cell" :: ws) = none
  | [], _, _ => rfl
  | [_], _, _ => (tq1 ..).trans (if_neg (Ne.symm pc))
  | [_, _], h, _ => absurd rfl h
  | [_, _, _], _, h => absurd rfl h
  | [_, _, _, _], _, _ => (tq4 ..).trans (if_neg (fun z => dc z.1.symm))
  | _ :: _ :: _ :: _ :: _ :: _, _, _ => rfl
theorem tp_else {w0 : Str} (h1 : w0 ≠ "part") (h2 : w0 ≠ "door") (h3 : w0 ≠ "cell") : ∀ ws : List Str, thingP (w0 :: ws) = none
  | [] => rfl
  | [_] => (tq1 ..).trans (if_neg h1)
  | [_, _] => (tq2 ..).trans (if_neg h3)
  | [_, _, _] => (tq3 ..).trans (if_neg (fun z => h3 z.1))
  | [_, _, _, _] => (tq4 ..).trans (if_neg (fun z => h2 z.1))
  | _ :: _ :: _ :: _ :: _ :: _ => rfl
section
variable {P : Program} {w : World} {K : W.Frag} {mg : Str → Option Value} {base : Heap}
theorem scTO : FnScope ["row", "words"] ["row"] (defScope sThing) := ⟨rfl, rfl, rfl, by decide +kernel, rfl, by decide +kernel, by decide +kernel⟩
theorem ok_thingof {f : Addr} {fd : FuncData} (F : Fun K "_thing_of" "_thing_of" sThing f fd) (B : Bl mg) : FnOk P w K mg base CX0 1 f fd ["row"] spThingOf := by
  refine F.ok scTO (fun vs H Q E h => ?_) (fun cdv A outer s H vs Q E hr h => ?_)
  · obtain ⟨s, rfl, _⟩ := h
    rfl
  · obtain ⟨s, rfl, few, many, no, yes⟩ := h
    refine ⟨_, pss_cons (ps_set (i := 1) scTO.nd rfl (Or.inl rfl) (pe_split (pv 0) pe_str))
      (pss_cons (ps_if (PW.pt (pw_and (pt_cmpR op_eq (pe_ix ix_list (pv 1) pe_int (fun _ _ => rfl)) pe_str (nomark _)) (pw_and1 (pt_cmpR op_eq (pe_callB call_len_seq (by rfl) B.nums.len PySem.boot_len (pa_cons (pv 1) pa_nil)) pe_int (nomark _)))))
        (pss_one (ps_ret (pe_tup (pa_cons pe_int (pa_cons (pe_ix ix_list (pv 1) pe_int (fun _ _ => rfl)) pa_nil))))) pss_nil)
      (pss_cons (ps_if (PW.pt (pw_and (pt_cmpR op_eq (pe_ix ix_list (pv 1) pe_int (fun _ _ => rfl)) pe_str (nomark _)) (pw_and (pt_cmpR op_eq (pe_callB call_len_seq (by rfl) B.nums.len PySem.boot_len (pa_cons (pv 1) pa_nil)) pe_int (nomark _)) (pw_and1 (pt_cmpR op_in_seq (pe_ix ix_list (pv 1) pe_int (fun _ _ => rfl)) (pe_tup (pa_cons pe_str (pa_cons pe_str pa_nil))) (by rfl))))))
        (pss_one (ps_ret (pe_tup (pa_cons pe_int (pa_cons (pe_tup (pa_cons (pe_ix ix_list (pv 1) pe_int (fun _ _ => rfl)) (pa_cons (pe_ix ix_list (pv 1) pe_int (fun _ _ => rfl)) (pa_cons (pe_ix ix_list (pv 1) pe_int (fun _ _ => rfl)) (pa_cons (pe_cmpR op_eq (pe_ix ix_list (pv 1) pe_int (fun _ _ => rfl)) pe_str (nomark _)) pa_nil))))) pa_nil))))) pss_nil)
      (pss_cons (ps_if (PW.pt (pw_and (pt_cmpR op_eq (pe_ix ix_list (pv 1) pe_int (fun _ _ => rfl)) pe_str (nomark _)) (pw_and1 (pt_cmpR op_eq (pe_callB call_len_seq (by rfl) B.nums.len PySem.boot_len (pa_cons (pv 1) pa_nil)) pe_int (nomark _)))))
        (pss_one (ps_ret (pe_tup (pa_cons pe_int (pa_cons (pe_tup (pa_cons (pe_ix ix_list (pv 1) pe_int (fun _ _ => rfl)) (pa_cons (pe_ix ix_list (pv 1) pe_int (fun _ _ => rfl)) (pa_cons pe_bl pa_nil)))) pa_nil))))) pss_nil)
      (pss_cons (ps_if (PW.pt (pw_and (pt_cmpR op_eq (pe_ix ix_list (pv 1) pe_int (fun _ _ => rfl)) pe_str (nomark _)) (pw_and (pt_cmpR op_eq (pe_callB call_len_seq (by rfl) B.nums.len PySem.boot_len (pa_cons (pv 1) pa_nil)) pe_int (nomark _)) (pw_and1 (pt_cmpR op_eq (pe_ix ix_list (pv 1) pe_int (fun _ _ => rfl)) pe_str (nomark _))))))
        (pss_one (ps_ret (pe_tup (pa_cons pe_int (pa_cons (pe_tup (pa_cons (pe_ix ix_list (pv 1) pe_int (fun _ _ => rfl)) (pa_cons (pe_ix ix_list (pv 1) pe_int (fun _ _ => rfl)) (pa_cons pe_bl pa_nil)))) pa_nil))))) pss_nil)
      (pss_one (ps_ret pe_non)))))), ?_⟩
    have line : (2000 : Nat) ≤ sizeLine := by decide
    refine ⟨_, rfl, ⟨_, rfl⟩, _, _, rfl, rfl, rfl, by omega, fun u nu => ?_⟩
    have short : ∀ t, t ∈ wordsOf s → t.length ≤ 900 := fun t ht => Nat.le_trans (Tx.split_len t ht) few
    have s0 := same_upd (o := .lst ((wordsOf s).map V.str)) nu
    have at_u : upd H u (.lst ((wordsOf s).map V.str)) u = some (.lst ((wordsOf s).map V.str)) := upd_same
    obtain ⟨w0, ws, ew⟩ : ∃ w0 ws, wordsOf s = w0 :: ws := by
      cases e : wordsOf s with
      | nil => exact absurd e (Tx.split_ne _ _)
      | cons p ps => exact ⟨p, ps, rfl⟩
    revert at_u s0
    show _ → _ → _
    unfold wordsOf at ew short no yes ⊢
    generalize upd H u (.lst ((Txt.split s " ").map V.str)) = HU
    rw [ew] at short no yes ⊢
    intro s0 at_u
    have sq := SqL.of (K := K) at_u
    have ll : ((w0 :: ws).map V.str).length = ws.length + 1 := by rw [List.length_map, List.length_cons]
    have at0 : atI ((w0 :: ws).map V.str) 0 = some (.str w0) := atI_nat (j := 0) rfl
    have skip : ∀ {x : Str}, w0 ≠ x → decide (V.str w0 = V.str x) = false := fun {x} h => by rw [dstr]; exact decide_eq_false h
    have hit : ∀ {x : Str}, w0 = x → decide (V.str w0 = V.str x) = true := fun {x} h => by rw [dstr]; exact decide_eq_true h
    have lenT : ∀ {n : Nat}, ws.length + 1 = n → decide (V.int (((w0 :: ws).map V.str).length : Nat) = V.int (n : Nat)) = true := fun {n} h => by rw [ll, dnum]; exact decide_eq_true h
    have lenF : ∀ {n : Nat}, ws.length + 1 ≠ n → decide (V.int (((w0 :: ws).map V.str).length : Nat) = V.int (n : Nat)) = false := fun {n} h => by rw [ll, dnum]; exact decide_eq_false h
    have ixs : ∀ {j : Nat} {x : Str}, (w0 :: ws)[j]? = some x → atI ((w0 :: ws).map V.str) (j : Int) = some (.str x) := fun {j x} h => atI_nat (by rw [List.getElem?_map, h]; rfl)
    have fo : ∀ {x : Str}, x ∈ w0 :: ws → flatOk (.str x) = true := fun {x} h => by
      have := short x h
      show decide (x.length ≤ 1000) = true
      exact decide_eq_true (by omega)
    refine ⟨_, rfl, u, _, _, _, rfl, rfl, sq, at0, rfl, _, rfl, ?_⟩
    by_cases c0 : w0 = "part"
    · rw [hit c0]
      refine iteT ⟨_, rfl, u, _, rfl, .inl sq, rfl, _, rfl, ?_⟩
      have n1 : w0 ≠ "door" := by rw [c0]; decide
      have n2 : w0 ≠ "cell" := by rw [c0]; decide
      by_cases l2 : ws.length + 1 = 2
      · obtain ⟨a, rfl⟩ : ∃ a, ws = [a] := by
          match ws, l2 with
          | [a], _ => exact ⟨a, rfl⟩
        refine Eq.mpr (congrArg (fun b => ite (b = true) _ _) (lenT (n := 2) l2)) (iteT ⟨_, rfl, u, _, _, _, rfl, rfl, sq, ixs (j := 1) rfl, by show 2 ≤ sizeLine; decide, fun p np => ?_⟩)
        exact yes 0 (.fl (.str a)) (by rw [c0]; exact (tq1 ..).trans (if_pos rfl)) _ p _ (s0.trans (same_upd np)) upd_same ⟨rfl, fo (by simp)⟩
      · refine Eq.mpr (congrArg (fun b => ite (b = true) _ _) (lenF (n := 2) l2)) (iteF ⟨_, rfl, u, _, _, _, rfl, rfl, sq, at0, rfl, _, rfl, ?_⟩)
        rw [skip n1]
        refine iteF (iteF ⟨_, rfl, u, _, _, _, rfl, rfl, sq, at0, rfl, _, rfl, ?_⟩)
        rw [skip n2]
        refine iteF (iteF ⟨_, rfl, u, _, _, _, rfl, rfl, sq, at0, rfl, _, rfl, ?_⟩)
        rw [skip n2]
        exact iteF (iteF (no (by rw [c0]; exact tp_part ws l2) _ s0))
    rw [skip c0]
    refine iteF (iteF ⟨_, rfl, u, _, _, _, rfl, rfl, sq, at0, rfl, _, rfl, ?_⟩)
    by_cases c1 : w0 = "door"
    · rw [hit c1]
      have n2 : w0 ≠ "cell" := by rw [c1]; decide
      have end_ : thingP (w0 :: ws) = none → ∀ {HX}, Same H HX → SqL K HX u ((w0 :: ws).map V.str) → True := fun _ {_} _ _ => trivial
      refine iteT ⟨_, rfl, u, _, rfl, .inl sq, rfl, _, rfl, ?_⟩
      by_cases l5 : ws.length + 1 = 5
      · obtain ⟨a, b, c, d, rfl⟩ : ∃ a b c d, ws = [a, b, c, d] := by
          match ws, l5 with
          | [a, b, c, d], _ => exact ⟨a, b, c, d, rfl⟩
        refine Eq.mpr (congrArg (fun b => ite (b = true) _ _) (lenT (n := 5) l5)) (iteT ⟨_, rfl, u, _, _, _, rfl, rfl, sq, ixs (j := 4) rfl, by show 2 ≤ sizeLine; decide, fun q nq => ?_⟩)
        have s1 := same_upd (o := .tup [.str "open", .str "shut"]) nq
        have sq1 : SqL K (upd HU q (.tup [.str "open", .str "shut"])) u ((w0 :: [a, b, c, d]).map V.str) := SqL.of (s1 _ _ at_u)
        refine ⟨q, _, rfl, .inr (SqT.of upd_same), rfl, rfl, _, rfl, ?_⟩
        have ei : inV (.str d) [.str "open", .str "shut"] = decide (d ∈ (["open", "shut"] : List Str)) := inV_strs d ["open", "shut"]
        rw [if_neg (by decide), ei]
        refine ite2 (fun h => ?_) (fun h => ?_)
        · have h := of_decide_eq_true h
          refine ⟨_, rfl, u, _, _, _, rfl, rfl, sq1, ixs (j := 1) rfl, _, rfl, u, _, _, _, rfl, rfl, sq1, ixs (j := 2) rfl, _, rfl, u, _, _, _, rfl, rfl, sq1, ixs (j := 3) rfl, _, rfl, u, _, _, _, rfl, rfl, sq1, ixs (j := 4) rfl, rfl, by show 4 ≤ sizeLine; decide, fun t nt => ⟨by show 2 ≤ sizeLine; decide, fun p np => ?_⟩⟩
          have s2 := (s0.trans s1).trans (same_upd (o := .tup [.str a, .str b, .str c, .bl (decide (V.str d = V.str "open"))]) nt)
          refine yes 1 (.sq [.str a, .str b, .str c, .bl (decide (d = "open"))]) ?_ _ p _ (s2.trans (same_upd np)) upd_same ⟨t, rfl, ?_, by show 4 ≤ 20; decide, fun x hx => ?_⟩
          · rw [c1]
            exact (tq4 ..).trans (if_pos ⟨rfl, by simpa using h⟩)
          · rw [same_upd np _ _ upd_same, dstr]
          · simp only [List.mem_cons, List.not_mem_nil, or_false] at hx
            rcases hx with rfl | rfl | rfl | rfl
            · exact fo (by simp)
            · exact fo (by simp)
            · exact fo (by simp)
            · rfl
        · have h : d ∉ (["open", "shut"] : List Str) := fun z => h (decide_eq_true z)
          refine ⟨_, rfl, u, _, _, _, rfl, rfl, sq1, at0, rfl, _, rfl, ?_⟩
          rw [skip n2]
          refine iteF (iteF ⟨_, rfl, u, _, _, _, rfl, rfl, sq1, at0, rfl, _, rfl, ?_⟩)
          rw [skip n2]
          refine iteF (iteF (no ?_ _ (s0.trans s1)))
          rw [c1]
          exact (tq4 ..).trans (if_neg (fun z => h (by simpa using z.2)))
      · refine Eq.mpr (congrArg (fun b => ite (b = true) _ _) (lenF (n := 5) l5)) (iteF (iteF ⟨_, rfl, u, _, _, _, rfl, rfl, sq, at0, rfl, _, rfl, ?_⟩))
        rw [skip n2]
        refine iteF (iteF ⟨_, rfl, u, _, _, _, rfl, rfl, sq, at0, rfl, _, rfl, ?_⟩)
        rw [skip n2]
        exact iteF (iteF (no (by rw [c1]; exact tp_door ws l5) _ s0))
    rw [skip c1]
    refine iteF (iteF ⟨_, rfl, u, _, _, _, rfl, rfl, sq, at0, rfl, _, rfl, ?_⟩)
    by_cases c2 : w0 = "cell"
    · rw [hit c2]
      refine iteT ⟨_, rfl, u, _, rfl, .inl sq, rfl, _, rfl, ?_⟩
      by_cases l3 : ws.length + 1 = 3
      · obtain ⟨a, b, rfl⟩ : ∃ a b, ws = [a, b] := by
          match ws, l3 with
          | [a, b], _ => exact ⟨a, b, rfl⟩
        refine Eq.mpr (congrArg (fun b => ite (b = true) _ _) (lenT (n := 3) l3)) (iteT ⟨_, rfl, u, _, _, _, rfl, rfl, sq, ixs (j := 1) rfl, _, rfl, u, _, _, _, rfl, rfl, sq, ixs (j := 2) rfl, by show 3 ≤ sizeLine; decide, fun t nt => ⟨by show 2 ≤ sizeLine; decide, fun p np => ?_⟩⟩)
        have s2 := s0.trans (same_upd (o := .tup [.str a, .str b, .bl false]) nt)
        refine yes 2 (.sq [.str a, .str b, .bl false]) (by rw [c2]; exact (tq2 ..).trans (if_pos rfl)) _ p _ (s2.trans (same_upd np)) upd_same ⟨t, rfl, same_upd np _ _ upd_same, by show 3 ≤ 20; decide, fun x hx => ?_⟩
        simp only [List.mem_cons, List.not_mem_nil, or_false] at hx
        rcases hx with rfl | rfl | rfl
        · exact fo (by simp)
        · exact fo (by simp)
        · rfl
      · refine Eq.mpr (congrArg (fun b => ite (b = true) _ _) (lenF (n := 3) l3)) (iteF ⟨_, rfl, u, _, _, _, rfl, rfl, sq, at0, rfl, _, rfl, ?_⟩)
        rw [hit c2]
        refine iteT ⟨_, rfl, u, _, rfl, .inl sq, rfl, _, rfl, ?_⟩
        by_cases l4 : ws.length + 1 = 4
        · obtain ⟨a, b, c, rfl⟩ : ∃ a b c, ws = [a, b, c] := by
            match ws, l4 with
            | [a, b, c], _ => exact ⟨a, b, c, rfl⟩
          refine Eq.mpr (congrArg (fun b => ite (b = true) _ _) (lenT (n := 4) l4)) (iteT ⟨_, rfl, u, _, _, _, rfl, rfl, sq, ixs (j := 3) rfl, rfl, _, rfl, ?_⟩)
          rw [dstr]
          refine ite2 (fun h => ?_) (fun h => ?_)
          · have h := of_decide_eq_true h
            refine ⟨_, rfl, u, _, _, _, rfl, rfl, sq, ixs (j := 1) rfl, _, rfl, u, _, _, _, rfl, rfl, sq, ixs (j := 2) rfl, by show 3 ≤ sizeLine; decide, fun t nt => ⟨by show 2 ≤ sizeLine; decide, fun p np => ?_⟩⟩
            have s2 := s0.trans (same_upd (o := .tup [.str a, .str b, .bl true]) nt)
            refine yes 2 (.sq [.str a, .str b, .bl true]) (by rw [c2]; exact (tq3 ..).trans (if_pos ⟨rfl, h⟩)) _ p _ (s2.trans (same_upd np)) upd_same ⟨t, rfl, same_upd np _ _ upd_same, by show 3 ≤ 20; decide, fun x hx => ?_⟩
            simp only [List.mem_cons, List.not_mem_nil, or_false] at hx
            rcases hx with rfl | rfl | rfl
            · exact fo (by simp)
            · exact fo (by simp)
            · rfl
          · have h : c ≠ "kept" := fun z => h (decide_eq_true z)
            exact no (by rw [c2]; exact (tq3 ..).trans (if_neg (fun z => h z.2))) _ s0
        · refine Eq.mpr (congrArg (fun b => ite (b = true) _ _) (lenF (n := 4) l4)) (iteF (iteF (no (by rw [c2]; exact tp_cell ws l3 l4) _ s0)))
    rw [skip c2]
    refine iteF (iteF ⟨_, rfl, u, _, _, _, rfl, rfl, sq, at0, rfl, _, rfl, ?_⟩)
    rw [skip c2]
    exact iteF (iteF (no (tp_else c0 c1 c2 ws) _ s0))
end
end K01

namespace K01
open PySem PySem.Spec PyProof.Rows L2
open Cal EnuT Sqx Exn Keys

structure Rd where
  last : Nat
  p : List Tv
  d : List Tv
  c : List Tv
def z0 : Rd := ⟨0, [], [], []⟩
def put (z : Rd) (k : Nat) (t : Tv) : Rd := ⟨k, if k = 0 then z.p ++ [t] else z.p, if k = 1 then z.d ++ [t] else z.d, if k = 2 then z.c ++ [t] else z.c⟩
def step1 (z : Rd) (r : Str) : Option Rd := match thingP (wordsOf r) with
  | none => none
  | some (k, t) => if k < z.last then none else some (put z k t)
def readN : Rd → List Str → Option Rd
  | z, [] => some z
  | z, r :: rs => match step1 z r with
    | none => none
    | some z' => readN z' rs
theorem readN_snoc : ∀ {z z' : Rd} {rs : List Str} {r : Str}, readN z rs = some z' → readN z (rs ++ [r]) = step1 z' r
  | z, z', [], r, h => by
    have h : some z = some z' := h
    injection h with h
    subst h
    show (match step1 z r with
      | none => none
      | some z' => readN z' []) = _
    cases step1 z r <;> rfl
  | z, z', q :: rs, r, h => by
    have h : (match step1 z q with
      | none => none
      | some z' => readN z' rs) = some z' := h
    show (match step1 z q with
      | none => none
      | some z' => readN z' (rs ++ [r])) = _
    cases e : step1 z q with
    | none => rw [e] at h; cases h
    | some y =>
      rw [e] at h
      exact readN_snoc h
theorem readN_take : ∀ {z z' : Rd} {rs : List Str} (i : Nat), readN z rs = some z' → ∃ y, readN z (rs.take i) = some y
  | z, _, _, 0, _ => ⟨z, rfl⟩
  | z, _, [], _ + 1, _ => ⟨z, rfl⟩
  | z, z', q :: rs, i + 1, h => by
    have h : (match step1 z q with
      | none => none
      | some z' => readN z' rs) = some z' := h
    show ∃ y, (match step1 z q with
      | none => none
      | some z' => readN z' (rs.take i)) = some y
    cases e : step1 z q with
    | none => rw [e] at h; cases h
    | some y =>
      rw [e] at h
      exact readN_take i h
theorem rank2 {ws : List Str} {k : Nat} {t : Tv} (h : thingP ws = some (k, t)) : k ≤ 2 := by
  unfold thingP at h
  split at h <;> (try split at h) <;> first | (injection h with h; injection h with h _; omega) | cases h
def ShortR (r : Str) : Prop := r.length ≤ 900 ∧ (wordsOf r).length ≤ 1000
/-- what stands in the three lists -/
structure RdAt (H : Hp) (a0 a1 a2 : Addr) (z : Rd) : Prop where
  p : ∃ vs, H a0 = some (.lst vs) ∧ Paired (TvT H) vs z.p
  d : ∃ vs, H a1 = some (.lst vs) ∧ Paired (TvT H) vs z.d
  c : ∃ vs, H a2 = some (.lst vs) ∧ Paired (TvT H) vs z.c
theorem RdAt.same {H H' : Hp} {a0 a1 a2 : Addr} {z : Rd} (s : Same H H') (r : RdAt H a0 a1 a2 z) : RdAt H' a0 a1 a2 z := by
  obtain ⟨⟨v0, e0, p0⟩, ⟨v1, e1, p1⟩, v2, e2, p2⟩ := r
  exact ⟨⟨v0, s _ _ e0, paired_mono (fun _ _ q => q.keep fun _ _ => s _ _) p0⟩, ⟨v1, s _ _ e1, paired_mono (fun _ _ q => q.keep fun _ _ => s _ _) p1⟩, v2, s _ _ e2, paired_mono (fun _ _ q => q.keep fun _ _ => s _ _) p2⟩
theorem RdAt.put {H : Hp} {a0 a1 a2 l : Addr} {z : Rd} {k : Nat} {x : V} {t : Tv} (r : RdAt H a0 a1 a2 z) (n01 : a0 ≠ a1) (n02 : a0 ≠ a2) (n12 : a1 ≠ a2) (h2 : k ≤ 2) (hl : [a0, a1, a2][k]? = some l) (xt : TvT H x t) :
    ∃ ys, H l = some (.lst ys) ∧ (ys.length = z.p.length ∨ ys.length = z.d.length ∨ ys.length = z.c.length) ∧ RdAt (upd H l (.lst (ys ++ [x]))) a0 a1 a2 (put z k t) := by
  obtain ⟨⟨v0, e0, p0⟩, ⟨v1, e1, p1⟩, v2, e2, p2⟩ := r
  have keep : ∀ {l ys ws}, H l = some (.lst ys) → ∀ a xs, H a = some (.tup xs) → upd H l (.lst ws) a = some (.tup xs) := fun {l ys ws} e a xs h => by
    rw [upd_ne (ne_of h e (fun z => by cases z))]
    exact h
  have mono : ∀ {l ys ws vs ts}, H l = some (.lst ys) → Paired (TvT H) vs ts → Paired (TvT (upd H l (.lst ws))) vs ts := fun {l ys ws vs ts} e q => paired_mono (fun _ _ q => q.keep (keep e)) q
  match k, h2, hl with
  | 0, _, hl =>
    have hl : some a0 = some l := hl
    injection hl with hl
    subst hl
    exact ⟨v0, e0, .inl (paired_len p0), ⟨_, upd_same, paired_snoc (mono e0 p0) (xt.keep (keep e0))⟩, ⟨v1, by rw [upd_ne (Ne.symm n01)]; exact e1, mono e0 p1⟩, v2, by rw [upd_ne (Ne.symm n02)]; exact e2, mono e0 p2⟩
  | 1, _, hl =>
    have hl : some a1 = some l := hl
    injection hl with hl
    subst hl
    exact ⟨v1, e1, .inr (.inl (paired_len p1)), ⟨v0, by rw [upd_ne n01]; exact e0, mono e1 p0⟩, ⟨_, upd_same, paired_snoc (mono e1 p1) (xt.keep (keep e1))⟩, v2, by rw [upd_ne (Ne.symm n12)]; exact e2, mono e1 p2⟩
  | 2, _, hl =>
    have hl : some a2 = some l := hl
    injection hl with hl
    subst hl
    exact ⟨v2, e2, .inr (.inr (paired_len p2)), ⟨v0, by rw [upd_ne n02]; exact e0, mono e2 p0⟩, ⟨v1, by rw [upd_ne n12]; exact e1, mono e2 p1⟩, _, upd_same, paired_snoc (mono e2 p2) (xt.keep (keep e2))⟩
theorem readN_len : ∀ {z z' : Rd} {rs : List Str}, readN z rs = some z' → z'.p.length + z'.d.length + z'.c.length ≤ z.p.length + z.d.length + z.c.length + rs.length
  | z, z', [], h => by
    have h : some z = some z' := h
    injection h with h
    subst h
    simp
  | z, z', q :: rs, h => by
    have h : (match step1 z q with
      | none => none
      | some z' => readN z' rs) = some z' := h
    cases e : step1 z q with
    | none => rw [e] at h; cases h
    | some y =>
      rw [e] at h
      have ih := readN_len h
      have : y.p.length + y.d.length + y.c.length ≤ z.p.length + z.d.length + z.c.length + 1 := by
        unfold step1 at e
        split at e
        · cases e
        · split at e
          · cases e
          · injection e with e
            rw [← e]
            unfold put
            rename_i k t hk _
            have := rank2 hk
            match k, this with
            | 0, _ => simp; omega
            | 1, _ => simp; omega
            | 2, _ => simp; omega
      simp only [List.length_cons]
      omega
/-- what comes of things that were read -/
def After (C CH : Addr) (H : Hp) (Q : VK) (E : XK) (z : Rd) : Prop := z.p.length ≤ 20 ∧ z.d.length ≤ 20 ∧ z.c.length ≤ 20 ∧
  ((∃ i, HouseBad (.sq z.p) (.sq z.d) (.sq z.c) i ∧ Bad CH H E i) ∨ ∃ h, HouseOk (.sq z.p) (.sq z.d) (.sq z.c) h ∧ ∀ H' o, Same H H' → H o = none → HouseX H' C o h → Q (.ref o) H')
def spRead (C CH CT : Addr) : Sp := fun vs H Q E => ∃ v, vs = [v] ∧ ((∃ o, SqOf H v o ∧ (o = none → isStr v = false) ∧ Bad CT H E 0) ∨
  ∃ s pre post z, v = .str s ∧ s.length ≤ 10000 ∧ Txt.split s "\n" = pre ++ post ∧ (pre ++ post).length ≤ 100 ∧ (∀ r, r ∈ pre ++ post → ShortR r) ∧ readN z0 pre = some z ∧ (∀ r p, post = r :: p → step1 z r = none ∧ Bad CT H E pre.length) ∧ (post = [] → After C CH H Q E z))
theorem bad_of {CT : Addr} {H H' : Hp} {E : XK} {i : Nat} {v : V} (b : Bad CT H E i) (ev : v = .int (i : Nat)) (s : Same H H') : ∀ d, H' d = none → E (.ref CT) (some d) (upd H' d (.xd [("at", v)])) := fun d nd => by
  subst ev
  exact b _ d (s.trans (same_upd nd)) (s.free nd) upd_same
section
variable {P : Program} {w : World} {K : W.Frag} {mg : Str → Option Value} {base : Heap}
abbrev NRd : List Str := ["text", "things", "last", "at", "row", "told"]
theorem scRd : FnScope NRd ["text"] (defScope sRead) := ⟨rfl, rfl, rfl, by decide +kernel, rfl, by decide +kernel, by decide +kernel⟩
theorem ok_read {f C CT CH fI : Addr} {fd fdI : FuncData} (F : Fun K "read" "House.read" sRead f fd) (B : Bl mg) (cT : CE P w K mg base "InvalidText" CT "at") (To : Callee P w K mg base "_thing_of" 1 ["row"] spThingOf)
    (mH : mg "House" = some (.ref C)) (mk : Mk K C fI) (bI : Binds K fdI ["self", "parts", "doors", "cells"] []) (FI : FnOk P w K mg base (L2.CX P w) 4 fI fdI ["self", "parts", "doors", "cells"] (spInit C CH)) :
    FnOk P w K mg base (L2.CX P w) 6 f fd ["text"] (spRead C CH CT) := by
  refine F.okX scRd (fun vs H Q E h => ?_) (fun cdv A outer s H vs Q E hr h => ?_)
  · obtain ⟨v, rfl, _⟩ := h
    rfl
  · obtain ⟨v, rfl, ev⟩ := h
    have hr2 := hr.mono (show 2 ≤ 5 by decide)
    have hr1 := hr.mono (show 1 ≤ 5 by decide)
    refine ⟨_, pss_cons (ps_if (pt_not (pt_val (pe_callB call_isi (by rfl) B.isi (by decide +kernel) (pa_cons (pv 0) (pa_cons (pe_bltn (v := .ty "str") rfl B.str (by decide +kernel) rfl) pa_nil))))) (pss_one (ps_raise rfl (takes_of rfl rfl rfl rfl) (pmk_exn cT hr2 rfl pe_int))) pss_nil)
      (pss_cons (ps_set (i := 1) scRd.nd rfl (Or.inl rfl) (pe_lst (pa_cons (pe_lst pa_nil) (pa_cons (pe_lst pa_nil) (pa_cons (pe_lst pa_nil) pa_nil)))))
      (pss_cons (ps_set (i := 2) scRd.nd rfl (Or.inl rfl) pe_int)
      (pss_cons (ps_for PassesOwn.leaving rfl (pi_enum (by rfl) B.enu (pa_cons (pe_split (pv 0) pe_str) pa_nil)) (pg_tup rfl (pgs_cons (pg_name (i := 3) scRd.nd rfl (Or.inl rfl)) (pgs_cons (pg_name (i := 4) scRd.nd rfl (Or.inl rfl)) pgs_nil)))
        (pss_cons (ps_set (i := 5) scRd.nd rfl (Or.inl rfl) (pe_callee To hr1 rfl (pa_cons (pv 4) pa_nil)))
        (pss_cons (ps_if (PW.pt (pw_or (pt_cmp (pc_isN (pv 5))) (pw_or1 (pt_cmpR op_lt (pe_ix ix_tup (pv 5) pe_int (fun _ _ => rfl)) (pv 2) (nomark _))))) (pss_one (ps_raise rfl (takes_of rfl rfl rfl rfl) (pmk_exn cT hr2 rfl (pv 3)))) pss_nil)
        (pss_cons (ps_set (i := 2) scRd.nd rfl (Or.inl rfl) (pe_ix ix_tup (pv 5) pe_int (fun _ _ => rfl)))
        (pss_one (ps_expr (pe_bm PySem.F.plainAttrs_list PySem.F.slot_list_append PySem.F.type_list_append mt_append (pe_ix ix_list (pv 1) (pv 2) (fun _ _ => rfl)) (pa_cons (pe_ix ix_tup (pv 5) pe_int (fun _ _ => rfl)) pa_nil))))))))
      (pss_one (ps_ret (pe_make mk FI (hr.mono (by decide)) rfl mH bI .nil (passes_call (takes_of rfl rfl rfl rfl) (fun _ _ _ _ h => h)) (pa_cons (pe_ix ix_list (pv 1) pe_int (fun _ _ => rfl)) (pa_cons (pe_ix ix_list (pv 1) pe_int (fun _ _ => rfl)) (pa_cons (pe_ix ix_list (pv 1) pe_int (fun _ _ => rfl)) pa_nil))))))))), ?_⟩
    have line : (20000 : Nat) ≤ sizeLine := by decide
    rcases ev with ⟨o, sq, ns, bad⟩ | ⟨s, pre, post, z, rfl, s900, es, l100, short, rd, odd, aft⟩
    · have bad := bad_of bad rfl (Same.refl _)
      cases o with
      | none =>
        obtain ⟨ty, h1, _, h3, _⟩ := flat_ty (K := K) (H := H) sq
        rw [ns rfl] at h3
        exact ⟨_, rfl, _, _, _, _, _, rfl, .ty "str", h1, h3, _, rfl, iteT ⟨_, rfl, bad⟩⟩
      | some xs =>
        obtain ⟨a, rfl, sq⟩ := sq
        obtain ⟨ty, h1, _, h3⟩ := seq_ty (K := K) sq
        exact ⟨_, rfl, _, _, _, _, _, rfl, .ty "str", h1, h3, _, rfl, iteT ⟨_, rfl, bad⟩⟩
    · refine ⟨_, rfl, _, _, _, _, true, rfl, .ty "str", .base (.str _), kit_ty (by decide +kernel), _, rfl, iteF ?_⟩
      refine ⟨Nat.zero_le _, fun a0 n0 => ⟨Nat.zero_le _, fun a1 n1 => ⟨Nat.zero_le _, fun a2 n2 => ⟨by show 3 ≤ sizeLine; decide, fun T nT => ?_⟩⟩⟩⟩
      obtain ⟨n10, ne01⟩ := none_of_upd n1
      obtain ⟨n21, ne12⟩ := none_of_upd n2
      obtain ⟨n20, ne02⟩ := none_of_upd n21
      obtain ⟨nT2, ne2T⟩ := none_of_upd nT
      obtain ⟨nT1, ne1T⟩ := none_of_upd nT2
      obtain ⟨nT0, ne0T⟩ := none_of_upd nT1
      have sA : Same H (upd (upd (upd (upd H a0 (.lst [])) a1 (.lst [])) a2 (.lst [])) T (.lst [.ref a0, .ref a1, .ref a2])) := (((same_upd n0).trans (same_upd n1)).trans (same_upd n2)).trans (same_upd nT)
      have at_T : upd (upd (upd (upd H a0 (.lst [])) a1 (.lst [])) a2 (.lst [])) T (.lst [.ref a0, .ref a1, .ref a2]) T = some (.lst [.ref a0, .ref a1, .ref a2]) := upd_same
      have rA : RdAt (upd (upd (upd (upd H a0 (.lst [])) a1 (.lst [])) a2 (.lst [])) T (.lst [.ref a0, .ref a1, .ref a2])) a0 a1 a2 z0 :=
        ⟨⟨[], by rw [upd_ne ne0T, upd_ne ne02, upd_ne ne01]; exact upd_same, .nil⟩, ⟨[], by rw [upd_ne ne1T, upd_ne ne12]; exact upd_same, .nil⟩, [], by rw [upd_ne ne2T]; exact upd_same, .nil⟩
      show Ends.nx _ _ (upd (upd (upd (upd H a0 (.lst [])) a1 (.lst [])) a2 (.lst [])) T (.lst [.ref a0, .ref a1, .ref a2]))
      revert sA at_T rA
      generalize upd (upd (upd (upd H a0 (.lst [])) a1 (.lst [])) a2 (.lst [])) T (.lst [.ref a0, .ref a1, .ref a2]) = HA
      intro sA at_T rA
      refine ⟨_, rfl, ⟨_, rfl⟩, _, _, rfl, rfl, rfl, by omega, fun u nu => ?_⟩
      rw [es]
      have sB := same_upd (o := .lst ((pre ++ post).map V.str)) nu
      have rA0 := rA
      have at_u : upd HA u (.lst ((pre ++ post).map V.str)) u = some (.lst ((pre ++ post).map V.str)) := upd_same
      have sAB := sA.trans sB
      have at_T := sB _ _ at_T
      have rA := rA.same sB
      revert sAB at_T rA at_u
      generalize upd HA u (.lst ((pre ++ post).map V.str)) = HB
      intro at_u sAB at_T rA
      have n0H : H a0 = none := n0
      have n1H : H a1 = none := n10
      have n2H : H a2 = none := n20
      have un : u ≠ a0 ∧ u ≠ a1 ∧ u ≠ a2 := by
        obtain ⟨⟨v0, e0, _⟩, ⟨v1, e1, _⟩, v2, e2, _⟩ := rA0
        exact ⟨fun z => (by rw [z, e0] at nu; cases nu), fun z => (by rw [z, e1] at nu; cases nu), fun z => (by rw [z, e2] at nu; cases nu)⟩
      have lz := readN_len rd
      refine ⟨u, _, rfl, SqL.of at_u, ?_⟩
      refine for_it (walk_enum (xs := (pre ++ post).map V.str)) (fun i σ H' => ∃ (y : Rd) (v3 v4 v5 : Option V), σ = [some (.str s), some (.ref T), some (.int (y.last : Nat)), v3, v4, v5] ∧ i ≤ pre.length ∧ readN z0 (pre.take i) = some y ∧ Same H H' ∧ RdAt H' a0 a1 a2 y ∧ H' T = some (.lst [.ref a0, .ref a1, .ref a2]) ∧ H' u = some (.lst ((pre ++ post).map V.str)))
        ⟨z0, _, _, _, rfl, Nat.zero_le _, rfl, sAB, rA, at_T, at_u⟩ (fun i σ' H' _ z => ?_) ?_ ?_
      · obtain ⟨_, _, _, _, _, _, _, _, _, _, e⟩ := z
        exact SqL.of e
      · rintro i x σ' H2 H2' hi ⟨y, v3, v4, v5, rfl, le, ry, s2, r2, at_T2, at_u2⟩ ⟨t, n', x', rfl, nt, rfl, hy, hz⟩
        cases hy
        have hz : ((pre ++ post).map V.str)[i]? = some x' := hz
        rw [List.getElem?_map] at hz
        obtain ⟨r, hr', rfl⟩ := Option.map_eq_some_iff.mp hz
        have s3 := same_upd (o := .tup [.int (i : Nat), .str r]) nt
        have s23 := s2.trans s3
        obtain ⟨sh1, sh2⟩ := short r (List.mem_of_getElem? hr')
        have at_end : i = pre.length → ∃ p, post = r :: p := fun e => by
          rw [List.getElem?_append_right (by omega), e, Nat.sub_self] at hr'
          cases post with
          | nil => cases hr'
          | cons q p => exact ⟨p, by cases hr'; rfl⟩
        have fail : step1 y r = none → i = pre.length := fun e => by
          by_cases lt : i < pre.length
          · exfalso
            rw [List.getElem?_append_left lt] at hr'
            obtain ⟨_, er⟩ := List.getElem?_eq_some_iff.mp hr'
            obtain ⟨y', ry'⟩ := readN_take (i + 1) rd
            rw [List.take_succ_eq_append_getElem lt, readN_snoc ry, er, e] at ry'
            cases ry'
          · omega
        have fine : ∀ y', step1 y r = some y' → i < pre.length ∧ readN z0 (pre.take (i + 1)) = some y' := fun y' e => by
          have lt : i < pre.length := by
            apply Nat.lt_of_not_le
            intro ge
            have ei : i = pre.length := by omega
            obtain ⟨p, ep⟩ := at_end ei
            have := (odd r p ep).1
            rw [ei, List.take_length, rd] at ry
            injection ry with ry
            rw [← ry, this] at e
            cases e
          refine ⟨lt, ?_⟩
          rw [List.getElem?_append_left lt] at hr'
          obtain ⟨_, er⟩ := List.getElem?_eq_some_iff.mp hr'
          rw [List.take_succ_eq_append_getElem lt, readN_snoc ry, er, e]
        have fails : ∀ {H'}, Same H H' → step1 y r = none → ∀ d, H' d = none → E (.ref CT) (some d) (upd H' d (.xd [("at", .int (i : Nat))])) := fun {H'} s' e => by
          have ei := fail e
          obtain ⟨p, ep⟩ := at_end ei
          exact bad_of (odd r p ep).2 (by rw [ei]) s'
        refine ⟨t, _, rfl, SqT.of upd_same, rfl, _, _, rfl, _, _, rfl, ⟨rfl, _, rfl, r, rfl, sh1, sh2, fun e H' s' => ?_, fun k th e H' w x s' ew xt => ?_⟩⟩
        · have e1 : step1 y r = none := by unfold step1; rw [e]
          exact ⟨_, rfl, _, rfl, iteT (iteT ⟨_, rfl, _, rfl, fails (s23.trans s') e1⟩)⟩
        · have s24 := s23.trans s'
          have sqw := SqT.of (K := K) ew
          refine ⟨_, rfl, _, rfl, iteF ⟨_, rfl, w, _, _, _, rfl, rfl, sqw, atI_nat (j := 0) rfl, _, rfl, _, _, rfl, rfl, _, rfl, ?_⟩⟩
          have e1 : step1 y r = if k < y.last then none else some (put y k th) := by unfold step1; rw [e]
          by_cases lt : k < y.last
          · rw [decide_eq_true (show ((k : Nat) : Int) < (y.last : Nat) by omega)]
            rw [if_pos lt] at e1
            exact iteT ⟨_, rfl, _, rfl, fails s24 e1⟩
          · rw [decide_eq_false (show ¬ ((k : Nat) : Int) < (y.last : Nat) by omega)]
            rw [if_neg lt] at e1
            obtain ⟨lti, ry'⟩ := fine _ e1
            have k2 := rank2 e
            obtain ⟨l, hl⟩ : ∃ l, [a0, a1, a2][k]? = some l := ⟨_, List.getElem?_eq_getElem (by show k < 3; omega)⟩
            have hlv : atI [V.ref a0, V.ref a1, V.ref a2] (k : Int) = some (.ref l) := atI_nat (by
              have := congrArg (Option.map V.ref) hl
              rw [← List.getElem?_map] at this
              exact this)
            have r4 := (r2.same s3).same s'
            obtain ⟨ys, hys, ly, rp⟩ := r4.put ne01 ne02 ne12 k2 hl xt
            have lyy := readN_len ry
            have ll : l = a0 ∨ l = a1 ∨ l = a2 := by
              match k, k2, hl with
              | 0, _, hl => exact .inl (by cases hl; rfl)
              | 1, _, hl => exact .inr (.inl (by cases hl; rfl))
              | 2, _, hl => exact .inr (.inr (by cases hl; rfl))
            have lT : l ≠ T := by
              rcases ll with z | z | z
              · rw [z]; exact ne0T
              · rw [z]; exact ne1T
              · rw [z]; exact ne2T
            have lu : l ≠ u := by
              rcases ll with z | z | z
              · rw [z]; exact Ne.symm un.1
              · rw [z]; exact Ne.symm un.2.1
              · rw [z]; exact Ne.symm un.2.2
            have lH : H l = none := by
              rcases ll with z | z | z
              · rw [z]; exact n0H
              · rw [z]; exact n1H
              · rw [z]; exact n2H
            have at_T4 := s' _ _ (s3 _ _ at_T2)
            have at_u4 := s' _ _ (s3 _ _ at_u2)
            refine iteF ⟨_, rfl, w, _, _, _, rfl, rfl, sqw, atI_nat (j := 0) rfl, _, rfl, _, rfl, T, _, _, _, rfl, rfl, SqL.of at_T4, hlv, .inl ⟨rfl, _, SqL.of hys⟩, _, rfl, w, _, _, _, rfl, rfl, sqw, atI_nat (j := 1) rfl, l, _, _, rfl, rfl, hys, ?_, put y k th, _, _, _, rfl, lti, ry', fun b o eb => ?_, rp, ?_, ?_⟩
            · rw [List.length_take] at lyy
              have z0l : z0.p.length + z0.d.length + z0.c.length = 0 := rfl
              rw [List.length_append] at l100
              omega
            · rw [upd_ne (fun z => by rw [z, lH] at eb; cases eb)]
              exact s24 _ _ eb
            · rw [upd_ne (Ne.symm lT)]
              exact at_T4
            · rw [upd_ne (Ne.symm lu)]
              exact at_u4
      · rintro σ' H2 ⟨y, v3, v4, v5, rfl, le, ry, s2, r2, at_T2, at_u2⟩
        rw [List.length_map, List.length_append] at le
        have p0 : post = [] := List.eq_nil_of_length_eq_zero (by omega)
        rw [List.length_map, List.take_of_length_le (by rw [List.length_append]; omega), rd] at ry
        injection ry with ry
        subst ry
        obtain ⟨l0, l1, l2, ev⟩ := aft p0
        have sqT := SqL.of (K := K) at_T2
        refine ⟨_, rfl, T, _, _, _, rfl, rfl, sqT, atI_nat (j := 0) rfl, _, rfl, T, _, _, _, rfl, rfl, sqT, atI_nat (j := 1) rfl, _, rfl, T, _, _, _, rfl, rfl, sqT, atI_nat (j := 2) rfl, ?_⟩
        intro x dx nx ndx ne
        have s3 : Same H2 (upd (upd H2 dx (.own x)) x (.ins C dx [])) := fun b o e => by
          rw [upd_ne (ne_of_none e nx), upd_ne (ne_of_none e ndx)]
          exact e
        have s03 := s2.trans s3
        obtain ⟨⟨w0, e0, q0⟩, ⟨w1, e1, q1⟩, w2, e2, q2⟩ := r2.same s3
        have nx0 := s2.free nx
        have back : ∀ {H'}, But x (upd (upd H2 dx (.own x)) x (.ins C dx [])) H' → Same H H' := fun {H'} b c o e => b c o (ne_of_none e nx0) (s03 _ _ e)
        refine ⟨x, dx, _, _, _, .sq z.p, .sq z.d, .sq z.c, rfl, upd_same, ⟨a0, w0, rfl, .inl e0, paired_mono (fun _ _ q => q.at) q0, l0⟩, ⟨a1, w1, rfl, .inl e1, paired_mono (fun _ _ q => q.at) q1, l1⟩, ⟨a2, w2, rfl, .inl e2, paired_mono (fun _ _ q => q.at) q2, l2⟩, ?_⟩
        rcases ev with ⟨i, hb, bad⟩ | ⟨h, ok, k⟩
        · refine .inl ⟨i, hb, fun H' d b nd e => bad H' d (back b) (s03.free nd) e⟩
        · exact .inr ⟨h, ok, fun H' b kd => ⟨rfl, k H' x (back b) nx0 kd⟩⟩
end
end K01

namespace K01
open PySem PySem.Spec PyProof.Rows L2
open Cal EnuT Sqx Exn Keys

/-! ### numbers that may lack -/
abbrev CN1 (P : Program) (w : World) (K : W.Frag) (mg : Str → Option Value) (base : Heap) (CN : Addr) : Prop := Cl1 P w K mg base "NoName" CN "name" "LookupError" "LookupError.__new__" "LookupError.__init__" keyTail
def BadN (CN : Addr) (H : Hp) (E : XK) (v : V) : Prop := ∀ H' d, Same H H' → H d = none → H' d = some (.xd [("name", v)]) → E (.ref CN) (some d) H'
theorem BadN.same {CN : Addr} {H H1 : Hp} {E : XK} {v : V} (b : BadN CN H E v) (s : Same H H1) : BadN CN H1 E v := fun H' d s' nd e => b H' d (s.trans s') (s.free nd) e
/-- no name of these -/
def Miss (H : Hp) (ps : List Str) (v : V) : Prop := (∃ x, v = .str x ∧ x ∉ ps) ∨ ∃ o, SqOf H v o ∧ (o = none → isStr v = false)
theorem idx_of {ps : List Str} {x : Str} (h : x ∈ ps) : numV ps x = some (.int (ps.idxOf x : Nat)) := if_pos h
theorem idx_no {ps : List Str} {x : Str} (h : x ∉ ps) : numV ps x = none := if_neg h
theorem miss_ty {K : W.Frag} {H : Hp} {v : V} {o : Option (List V)} (sq : SqOf H v o) (n : o = none → isStr v = false) : ∃ t, TyX K H v t ∧ W.kitOne K t (.type "str") = some false := by
  cases o with
  | none =>
    obtain ⟨t, h1, _, h3, _⟩ := flat_ty (K := K) (H := H) sq
    rw [n rfl] at h3
    exact ⟨t, h1, h3⟩
  | some xs =>
    obtain ⟨a, rfl, sq⟩ := sq
    obtain ⟨t, h1, _, h3⟩ := seq_ty (K := K) sq
    exact ⟨t, h1, h3⟩
def spNumOfX (CN : Addr) : Sp := fun vs H Q E => ∃ (D : Addr) (v : V) (ps : List Str) (kvs : List (Key × V)), vs = [.ref D, v] ∧ H D = some (.dK kvs) ∧ NumsK ps kvs ∧ ((∃ x, v = .str x ∧ x ∈ ps ∧ Q (.int (ps.idxOf x : Nat)) H) ∨ (Miss H ps v ∧ BadN CN H E v))
section
variable {P : Program} {w : World} {K : W.Frag} {mg : Str → Option Value} {base : Heap}
theorem ok_numofX {f CN : Addr} {fd : FuncData} (F : Fun K "_number_of" "_number_of" sNumOf f fd) (B : Bl mg) (cN : CN1 P w K mg base CN) : FnOk P w K mg base (L2.CX P w) 3 f fd ["numbers", "name"] (spNumOfX CN) := by
  refine F.okX scNO (fun vs H Q E h => ?_) (fun cdv A outer s H vs Q E hr h => ?_)
  · obtain ⟨D, v, ps, kvs, rfl, _⟩ := h
    rfl
  · obtain ⟨D, v, ps, kvs, rfl, hD, nk, ev⟩ := h
    have hu0 := hr.units
    have hu : (A.deeper (envOfC "_number_of" (defScope sNumOf) s.heap.objs.size f cdv)).units + 1 < cLine := by omega
    refine ⟨_, pss_cons (ps_if (PW.pt (pw_or (pt_not (pt_val (pe_callB call_isi (by rfl) B.isi (by decide +kernel) (pa_cons (pv 1) (pa_cons (pe_bltn (v := .ty "str") rfl B.str (by decide +kernel) rfl) pa_nil))))) (pw_or1 (pt_cmp (pc_dnotin hu (pv 1) (pv 0)))))) (pss_one (ps_raise rfl (takes_of rfl rfl rfl rfl) (pmk_exn cN hr rfl (pv 1)))) pss_nil)
      (pss_one (ps_ret (pe_dget hu (pv 0) (pv 1) (fun _ _ => rfl)))), ?_⟩
    rcases ev with ⟨x, rfl, m, q⟩ | ⟨(⟨x, rfl, m⟩ | ⟨o, sq, no⟩), bad⟩
    · refine ⟨_, rfl, _, _, _, _, true, rfl, .ty "str", .base (.str _), kit_ty (by decide +kernel), _, rfl, iteF ?_⟩
      refine ⟨_, rfl, _, rfl, D, _, rfl, DGet.k (k := Sum.inr x) hD, ?_⟩
      rw [nk x, idx_of m]
      refine ⟨_, rfl, iteF ?_⟩
      exact ⟨_, rfl, _, rfl, D, _, rfl, by rw [← idx_of m, ← nk x]; exact DGet.k (k := Sum.inr x) hD, q⟩
    · refine ⟨_, rfl, _, _, _, _, true, rfl, .ty "str", .base (.str _), kit_ty (by decide +kernel), _, rfl, iteF ?_⟩
      refine ⟨_, rfl, _, rfl, D, _, rfl, DGet.k (k := Sum.inr x) hD, ?_⟩
      rw [nk x, idx_no m]
      exact ⟨_, rfl, iteT ⟨_, rfl, _, rfl, fun d nd => bad _ d (same_upd nd) nd upd_same⟩⟩
    · obtain ⟨t, h1, h3⟩ := miss_ty (K := K) sq no
      exact ⟨_, rfl, _, _, _, _, false, rfl, .ty "str", h1, h3, _, rfl, iteT (iteT ⟨_, rfl, _, rfl, fun d nd => bad _ d (same_upd nd) nd upd_same⟩)⟩
/-- the number of a thing: what the field f of the house tells of these names -/
def spNumX (C CN : Addr) (f : Str) (ns : Hs → List Str) : Sp := fun vs H Q E => ∃ (o dx D : Addr) (v : V) (h : Hs) (fs : List (Str × V)) (kvs : List (Key × V)), vs = [.ref o, v] ∧ H o = some (.ins C dx fs) ∧ List.lookup f fs = some (.ref D) ∧ H D = some (.dK kvs) ∧ NumsK (ns h) kvs ∧
  ((∃ x, v = .str x ∧ x ∈ ns h ∧ Q (.int ((ns h).idxOf x : Nat)) H) ∨ (Miss H (ns h) v ∧ BadN CN H E v))
theorem scND : FnScope ["self", "name"] ["self", "name"] (defScope sNumDoor) := ⟨rfl, rfl, rfl, by decide +kernel, rfl, by decide +kernel, by decide +kernel⟩
theorem ok_numdoor {f C CN : Addr} {fd : FuncData} (F : Fun K "number_of_door" "House.number_of_door" sNumDoor f fd) (cl : Cls K C) (na : NoAttr K C "_door_numbers") (No : CalleeX P w K mg base "_number_of" 3 ["numbers", "name"] (spNumOfX CN)) :
    FnOk P w K mg base (L2.CX P w) 4 f fd ["self", "name"] (spNumX C CN "_door_numbers" fun h => h.doors.map (·.n)) := by
  refine F.okX scND (fun vs H Q E h => ?_) (fun cdv A outer s H vs Q E hr h => ?_)
  · obtain ⟨o, dx, D, v, h, fs, kvs, rfl, _⟩ := h
    rfl
  · obtain ⟨o, dx, D, v, h, fs, kvs, rfl, ho, lD, hD, nk, ev⟩ := h
    exact ⟨_, pss_one (ps_ret (pe_calleeX No hr rfl (passes_call (takes_of rfl rfl rfl rfl) (fun _ _ _ _ h => h)) (pa_cons (pe_fld (pv 0) rfl) (pa_cons (pv 1) pa_nil)))), _, rfl, o, C, dx, fs, _, rfl, ho, cl, na, lD, _, rfl, D, v, _, kvs, rfl, hD, nk, ev⟩
theorem scNC : FnScope ["self", "name"] ["self", "name"] (defScope sNumCell) := ⟨rfl, rfl, rfl, by decide +kernel, rfl, by decide +kernel, by decide +kernel⟩
theorem ok_numcell {f C CN : Addr} {fd : FuncData} (F : Fun K "number_of_cell" "House.number_of_cell" sNumCell f fd) (cl : Cls K C) (na : NoAttr K C "_cell_numbers") (No : CalleeX P w K mg base "_number_of" 3 ["numbers", "name"] (spNumOfX CN)) :
    FnOk P w K mg base (L2.CX P w) 4 f fd ["self", "name"] (spNumX C CN "_cell_numbers" fun h => h.cells.map (·.n)) := by
  refine F.okX scNC (fun vs H Q E h => ?_) (fun cdv A outer s H vs Q E hr h => ?_)
  · obtain ⟨o, dx, D, v, h, fs, kvs, rfl, _⟩ := h
    rfl
  · obtain ⟨o, dx, D, v, h, fs, kvs, rfl, ho, lD, hD, nk, ev⟩ := h
    exact ⟨_, pss_one (ps_ret (pe_calleeX No hr rfl (passes_call (takes_of rfl rfl rfl rfl) (fun _ _ _ _ h => h)) (pa_cons (pe_fld (pv 0) rfl) (pa_cons (pv 1) pa_nil)))), _, rfl, o, C, dx, fs, _, rfl, ho, cl, na, lD, _, rfl, D, v, _, kvs, rfl, hD, nk, ev⟩
/-- the number of a part, or of outside -/
def spNumPartX (C CN : Addr) : Sp := fun vs H Q E => ∃ (o dx D : Addr) (v : V) (ps : List Str) (fs : List (Str × V)) (kvs : List (Key × V)), vs = [.ref o, v] ∧ H o = some (.ins C dx fs) ∧ List.lookup ("_part_numbers" : Str) fs = some (.ref D) ∧ H D = some (.dK kvs) ∧ NumsK ps kvs ∧
  ((∃ x, v = .str x ∧ EndIn ps x ∧ Q (.int (endN ps x)) H) ∨ (Miss H ps v ∧ v ≠ .str "out" ∧ BadN CN H E v))
theorem ok_numpartX {f C CN : Addr} {fd : FuncData} (F : Fun K "number_of_part" "House.number_of_part" sNumPart f fd) (B : Bl mg) (cl : Cls K C) (na : NoAttr K C "_part_numbers") (No : CalleeX P w K mg base "_number_of" 3 ["numbers", "name"] (spNumOfX CN)) :
    FnOk P w K mg base (L2.CX P w) 4 f fd ["self", "name"] (spNumPartX C CN) := by
  refine F.okX scNP (fun vs H Q E h => ?_) (fun cdv A outer s H vs Q E hr h => ?_)
  · obtain ⟨o, dx, D, v, ps, fs, kvs, rfl, _⟩ := h
    rfl
  · obtain ⟨o, dx, D, v, ps, fs, kvs, rfl, ho, lD, hD, nk, ev⟩ := h
    refine ⟨_, pss_cons (ps_if (PW.pt (pw_and (pt_val (pe_callB call_isi (by rfl) B.isi (by decide +kernel) (pa_cons (pv 1) (pa_cons (pe_bltn (v := .ty "str") rfl B.str (by decide +kernel) rfl) pa_nil)))) (pw_and1 (pt_cmpR op_eq (pv 1) pe_str (nomark _))))) (pss_one (ps_ret (pe_un un_neg pe_int))) pss_nil)
      (pss_one (ps_ret (pe_calleeX No hr rfl (passes_call (takes_of rfl rfl rfl rfl) (fun _ _ _ _ h => h)) (pa_cons (pe_fld (pv 0) rfl) (pa_cons (pv 1) pa_nil))))), ?_⟩
    rcases ev with ⟨x, rfl, hx, q⟩ | ⟨(⟨x, rfl, m⟩ | ⟨u, sq, no⟩), nout, bad⟩
    · refine ⟨_, rfl, _, _, _, _, true, rfl, .ty "str", .base (.str _), kit_ty (by decide +kernel), _, rfl, iteT ⟨_, rfl, rfl, _, rfl, ?_⟩⟩
      refine ite2 (fun hc => ⟨_, rfl, ?_⟩) (fun hc => ?_)
      · obtain rfl : x = "out" := by simpa using hc
        exact q
      · have no : x ≠ "out" := fun z => hc (by simp [z])
        have m : x ∈ ps := hx.resolve_left no
        refine ⟨_, rfl, o, C, dx, fs, _, rfl, ho, cl, na, lD, _, rfl, D, _, ps, kvs, rfl, hD, nk, .inl ⟨x, rfl, m, ?_⟩⟩
        unfold endN at q
        rw [if_neg no] at q
        exact q
    · refine ⟨_, rfl, _, _, _, _, true, rfl, .ty "str", .base (.str _), kit_ty (by decide +kernel), _, rfl, iteT ⟨_, rfl, rfl, _, rfl, ?_⟩⟩
      refine ite2 (fun hc => ?_) (fun hc => ?_)
      · obtain rfl : x = "out" := by simpa using hc
        exact absurd rfl nout
      · exact ⟨_, rfl, o, C, dx, fs, _, rfl, ho, cl, na, lD, _, rfl, D, _, ps, kvs, rfl, hD, nk, .inr ⟨.inl ⟨x, rfl, m⟩, bad⟩⟩
    · obtain ⟨t, h1, h3⟩ := miss_ty (K := K) sq no
      exact ⟨_, rfl, _, _, _, _, false, rfl, .ty "str", h1, h3, _, rfl, iteF ⟨_, rfl, o, C, dx, fs, _, rfl, ho, cl, na, lD, _, rfl, D, _, ps, kvs, rfl, hD, nk, .inr ⟨.inr ⟨u, sq, no⟩, bad⟩⟩⟩
end
end K01

namespace K01
open PySem PySem.Spec PyProof.Rows L2
open Cal EnuT Sqx Exn Keys Gvx

/-! ### what is where -/
def farV (e1 e2 s : Int) : V := if s = e1 then .int e2 else if s = e2 then .int e1 else .non
def spFarEnd (C : Addr) : Sp := fun vs H Q _ => ∃ (o dx te t : Addr) (i : Nat) (s e1 e2 : Int) (fs : List (Str × V)) (ve : List V), vs = [.ref o, .int (i : Nat), .int s] ∧ H o = some (.ins C dx fs) ∧ List.lookup ("ends" : Str) fs = some (.ref te) ∧ H te = some (.tup ve) ∧ ve[i]? = some (.ref t) ∧ H t = some (.tup [.int e1, .int e2]) ∧ Q (farV e1 e2 s) H
def PrAt (H : Hp) (v : V) (p : Int × Int) : Prop := ∃ t, v = .ref t ∧ H t = some (.tup [.int p.1, .int p.2])
theorem PrAt.same {H H' : Hp} (s : Same H H') {v : V} {p : Int × Int} (x : PrAt H v p) : PrAt H' v p := by
  obtain ⟨t, e, h⟩ := x
  exact ⟨t, e, s _ _ h⟩
def inPr (s : Int) (p : Int × Int) : Bool := inV (.int s) [.int p.1, .int p.2]
def spDoorsAt (C : Addr) : Sp := fun vs H Q _ => ∃ (o dx te : Addr) (s : Int) (fs : List (Str × V)) (ve : List V) (ps : List (Int × Int)), vs = [.ref o, .int s] ∧ H o = some (.ins C dx fs) ∧ List.lookup ("ends" : Str) fs = some (.ref te) ∧ H te = some (.tup ve) ∧ Paired (PrAt H) ve ps ∧ ps.length ≤ 20 ∧
  ∀ H' t, Same H H' → H' t = some (.tup (ixsV (inPr s) 0 ps)) → Q (.ref t) H'
def eqI (s : Int) (n : Int) : Bool := decide (V.int n = V.int s)
def spCellsIn (C : Addr) : Sp := fun vs H Q _ => ∃ (o dx tq : Addr) (s : Int) (fs : List (Str × V)) (ns : List Int), vs = [.ref o, .int s] ∧ H o = some (.ins C dx fs) ∧ List.lookup ("cell_parts" : Str) fs = some (.ref tq) ∧ H tq = some (.tup (ns.map V.int)) ∧ ns.length ≤ 20 ∧
  ∀ H' t, Same H H' → H' t = some (.tup (ixsV (eqI s) 0 ns)) → Q (.ref t) H'
section
variable {P : Program} {w : World} {K : W.Frag} {mg : Str → Option Value} {base : Heap}
abbrev NFe : List Str := ["self", "door", "spot", "one", "other"]
theorem scFe : FnScope NFe ["self", "door", "spot"] (defScope sFarEnd) := ⟨rfl, rfl, rfl, by decide +kernel, rfl, by decide +kernel, by decide +kernel⟩
theorem ok_farend {f C : Addr} {fd : FuncData} (F : Fun K "far_end" "House.far_end" sFarEnd f fd) (cl : Cls K C) (na : NoAttr K C "ends") : FnOk P w K mg base CX0 1 f fd ["self", "door", "spot"] (spFarEnd C) := by
  refine F.ok scFe (fun vs H Q E h => ?_) (fun cdv A outer s H vs Q E hr h => ?_)
  · obtain ⟨o, dx, te, t, i, s, e1, e2, fs, ve, rfl, _⟩ := h
    rfl
  · obtain ⟨o, dx, te, t, i, sp, e1, e2, fs, ve, rfl, ho, lE, hte, hv, ht, q⟩ := h
    refine ⟨_, pss_cons (ps_asg (pe_ix ix_tup (pe_fld (pv 0) rfl) (pv 1) (fun _ _ => rfl)) (pg_tup rfl (pgs_cons (pg_name (i := 3) scFe.nd rfl (Or.inl rfl)) (pgs_cons (pg_name (i := 4) scFe.nd rfl (Or.inl rfl)) pgs_nil))))
      (pss_cons (ps_if (pt_cmpR op_eq (pv 2) (pv 3) (nomark _)) (pss_one (ps_ret (pv 4))) pss_nil)
      (pss_cons (ps_if (pt_cmpR op_eq (pv 2) (pv 4) (nomark _)) (pss_one (ps_ret (pv 3))) pss_nil)
      (pss_one (ps_ret pe_non)))), ?_⟩
    refine ⟨_, rfl, o, C, dx, fs, _, rfl, ho, cl, na, lE, _, rfl, te, ve, _, _, rfl, rfl, SqT.of hte, atI_nat hv, t, _, rfl, SqT.of ht, rfl, _, _, rfl, _, _, rfl, rfl, ?_⟩
    refine ⟨_, rfl, _, rfl, rfl, _, rfl, ?_⟩
    unfold farV at q
    refine ite2 (fun hb => ?_) (fun hb => ?_)
    · rw [if_pos (by simpa using hb)] at q
      exact ⟨_, rfl, q⟩
    · rw [if_neg (by simpa using hb)] at q
      refine ⟨_, rfl, _, rfl, rfl, _, rfl, ?_⟩
      refine ite2 (fun hc => ?_) (fun hc => ?_)
      · rw [if_pos (by simpa using hc)] at q
        exact ⟨_, rfl, q⟩
      · rw [if_neg (by simpa using hc)] at q
        exact q
abbrev NDa : List Str := ["self", "spot", "door", "ends"]
theorem scDa : FnScope NDa ["self", "spot"] (defScope sDoorsAt) := ⟨rfl, rfl, rfl, by decide +kernel, rfl, by decide +kernel, by decide +kernel⟩
theorem ok_doorsat {f C : Addr} {fd : FuncData} (F : Fun K "doors_at" "House.doors_at" sDoorsAt f fd) (B : Bl mg) (cl : Cls K C) (na : NoAttr K C "ends") : FnOk P w K mg base CX0 1 f fd ["self", "spot"] (spDoorsAt C) := by
  refine F.ok scDa (fun vs H Q E h => ?_) (fun cdv A outer s H vs Q E hr h => ?_)
  · obtain ⟨o, dx, te, s, fs, ve, ps, rfl, _⟩ := h
    rfl
  · obtain ⟨o, dx, te, sp, fs, ve, ps, rfl, ho, lE, hte, pp, l20, k⟩ := h
    refine ⟨_, pss_one (ps_ret (pe_callTy call_tuple_of (by rfl) B.tuple (by decide +kernel) (pa_cons (pe_lc (own := [("door", 2), ("ends", 3)]) (g := gTup K 2 (gCons (gName 2) (gCons (gName 3) gNil))) (by rfl) scDa.nd (pi_enumS (by rfl) B.enu (pa_cons (pe_fld (pv 0) rfl) pa_nil))
      (blkOk_by (own := [("door", 2), ("ends", 3)]) (N := NDa) (sc := defScope sDoorsAt) (by decide +kernel))
      (fun _ _ _ _ _ => pg_tup rfl (pgs_cons (pg_name (i := 2) scDa.nd rfl (Or.inl rfl)) (pgs_cons (pg_name (i := 3) scDa.nd rfl (Or.inl rfl)) pgs_nil)))
      (fun _ _ _ _ _ => pts_one (show PT _ _ (tTest (tOp (rIn K false) (tVar 1) (tVar 3))) from pt_cmpR op_in_seq (pv 1) (pv 3) (by rfl))) (fun _ _ _ _ _ => pv 2)) pa_nil))), ?_⟩
    refine ret_of (cb_one (en_lc (a := te) (xs := ve) (fun D n H' => Same H H' ∧ H' D = some (.lst (ixsV (inPr sp) 0 (ps.take n)))) (fun R r => ⟨_, rfl, o, C, dx, fs, _, rfl, ho, cl, na, lE, r⟩) (.inr hte) (fun D nD => ⟨same_upd nD, upd_same⟩) (fun D i H' nD _ z => z.1 _) ?_ ?_))
    · rintro D i x H' T nD hx ⟨s1, at_D⟩ nT
      obtain ⟨p, hp, t, rfl, et⟩ := paired_get pp hx
      have s2 := same_upd (o := .tup [.int (i : Nat), .ref t]) nT
      have lt : i < ps.length := (List.getElem?_eq_some_iff.mp hp).1
      have la := ixsV_len (inPr sp) 0 (ps.take i)
      rw [List.length_take] at la
      have line : (100 : Nat) ≤ sizeLine := by decide
      refine ⟨T, _, rfl, SqT.of upd_same, rfl, _, _, rfl, _, _, rfl, ⟨rfl, rfl, _, rfl, _, rfl, t, _, rfl, .inr (SqT.of (s2 _ _ (s1 _ _ et))), rfl, rfl, _, rfl, ?_⟩⟩
      have e1 := ixsV_take (f := inPr sp) hp
      refine ite2 (fun hb => ?_) (fun hb => ?_)
      · refine ⟨_, rfl, _, s2 _ _ at_D, by omega, fun b u e => ?_, ?_⟩
        · rw [upd_ne (ne_of_none e nD)]
          exact s2 _ _ (s1 _ _ e)
        · rw [e1, if_pos (show inPr sp p = true from hb)]
          exact upd_same
      · refine ⟨s1.trans s2, ?_⟩
        rw [e1, if_neg (show ¬ inPr sp p = true from hb), List.append_nil]
        exact s2 _ _ at_D
    · rintro D H' nD ⟨s1, at_D⟩
      rw [paired_len pp, List.take_length] at at_D
      exact ⟨D, _, rfl, .inl ⟨SqL.of at_D, fun l nl => k _ l (s1.trans (same_upd nl)) upd_same⟩⟩
abbrev NCi : List Str := ["self", "spot", "cell", "part"]
theorem scCi : FnScope NCi ["self", "spot"] (defScope sCellsIn) := ⟨rfl, rfl, rfl, by decide +kernel, rfl, by decide +kernel, by decide +kernel⟩
theorem ok_cellsin {f C : Addr} {fd : FuncData} (F : Fun K "cells_in" "House.cells_in" sCellsIn f fd) (B : Bl mg) (cl : Cls K C) (na : NoAttr K C "cell_parts") : FnOk P w K mg base CX0 1 f fd ["self", "spot"] (spCellsIn C) := by
  refine F.ok scCi (fun vs H Q E h => ?_) (fun cdv A outer s H vs Q E hr h => ?_)
  · obtain ⟨o, dx, te, s, fs, ve, rfl, _⟩ := h
    rfl
  · obtain ⟨o, dx, tq, sp, fs, ns, rfl, ho, lE, hte, l20, k⟩ := h
    refine ⟨_, pss_one (ps_ret (pe_callTy call_tuple_of (by rfl) B.tuple (by decide +kernel) (pa_cons (pe_lc (own := [("cell", 2), ("part", 3)]) (g := gTup K 2 (gCons (gName 2) (gCons (gName 3) gNil))) (by rfl) scCi.nd (pi_enumS (by rfl) B.enu (pa_cons (pe_fld (pv 0) rfl) pa_nil))
      (blkOk_by (own := [("cell", 2), ("part", 3)]) (N := NCi) (sc := defScope sCellsIn) (by decide +kernel))
      (fun _ _ _ _ _ => pg_tup rfl (pgs_cons (pg_name (i := 2) scCi.nd rfl (Or.inl rfl)) (pgs_cons (pg_name (i := 3) scCi.nd rfl (Or.inl rfl)) pgs_nil)))
      (fun _ _ _ _ _ => pts_one (pt_cmpR op_eq (pv 3) (pv 1) (nomark _))) (fun _ _ _ _ _ => pv 2)) pa_nil))), ?_⟩
    refine ret_of (cb_one (en_lc (a := tq) (xs := ns.map V.int) (fun D n H' => Same H H' ∧ H' D = some (.lst (ixsV (eqI sp) 0 (ns.take n)))) (fun R r => ⟨_, rfl, o, C, dx, fs, _, rfl, ho, cl, na, lE, r⟩) (.inr hte) (fun D nD => ⟨same_upd nD, upd_same⟩) (fun D i H' nD _ z => z.1 _) ?_ ?_))
    · rintro D i x H' T nD hx ⟨s1, at_D⟩ nT
      rw [List.getElem?_map] at hx
      obtain ⟨n, hn, rfl⟩ := Option.map_eq_some_iff.mp hx
      have s2 := same_upd (o := .tup [.int (i : Nat), .int n]) nT
      have lt : i < ns.length := (List.getElem?_eq_some_iff.mp hn).1
      have la := ixsV_len (eqI sp) 0 (ns.take i)
      rw [List.length_take] at la
      have line : (100 : Nat) ≤ sizeLine := by decide
      refine ⟨T, _, rfl, SqT.of upd_same, rfl, _, _, rfl, _, _, rfl, ⟨rfl, rfl, _, rfl, _, rfl, rfl, _, rfl, ?_⟩⟩
      have e1 := ixsV_take (f := eqI sp) hn
      refine ite2 (fun hb => ?_) (fun hb => ?_)
      · refine ⟨_, rfl, _, s2 _ _ at_D, by omega, fun b u e => ?_, ?_⟩
        · rw [upd_ne (ne_of_none e nD)]
          exact s2 _ _ (s1 _ _ e)
        · rw [e1, if_pos (show eqI sp n = true from hb)]
          exact upd_same
      · refine ⟨s1.trans s2, ?_⟩
        rw [e1, if_neg (show ¬ eqI sp n = true from hb), List.append_nil]
        exact s2 _ _ at_D
    · rintro D H' nD ⟨s1, at_D⟩
      rw [List.length_map, List.take_length] at at_D
      exact ⟨D, _, rfl, .inl ⟨SqL.of at_D, fun l nl => k _ l (s1.trans (same_upd nl)) upd_same⟩⟩
end
end K01

namespace K01
open PySem PySem.Spec PyProof.Rows L2
open Cal EnuT Sqx Exn Keys

/-! ### houses as data -/
def partsD (ps : List Str) : PyData := .tuple (ps.map .str)
def doorD (d : Door) : PyData := .tuple [.str d.n, .str d.one, .str d.two, .bool d.op]
def doorsD (ds : List Door) : PyData := .tuple (ds.map doorD)
def cellD (c : Cell) : PyData := .tuple [.str c.n, .str c.p, .bool c.k]
def cellsD (cs : List Cell) : PyData := .tuple (cs.map cellD)
theorem dps_strs {K : W.Frag} {H : Hp} : ∀ ps : List Str, DpAll K H (ps.map V.str) (ps.map .str)
  | [] => .nil
  | p :: r => .cons (.str p) (dps_strs r)
theorem dps_doors {K : W.Frag} {H : Hp} : ∀ {vs : List V} {ds : List Door}, Paired (DoorAt H) vs ds → DpAll K H vs (ds.map doorD)
  | _, _, .nil => .nil
  | _, _, .cons ⟨c, e, ec⟩ t => by
    subst e
    exact .cons (.tup (SqT.of ec) (.cons (.str _) (.cons (.str _) (.cons (.str _) (.cons (.bl _) .nil))))) (dps_doors t)
theorem dps_cells {K : W.Frag} {H : Hp} : ∀ {vs : List V} {ds : List Cell}, Paired (CellAt H) vs ds → DpAll K H vs (ds.map cellD)
  | _, _, .nil => .nil
  | _, _, .cons ⟨c, e, ec⟩ t => by
    subst e
    exact .cons (.tup (SqT.of ec) (.cons (.str _) (.cons (.str _) (.cons (.bl _) .nil)))) (dps_cells t)
theorem dp_parts {K : W.Frag} {H : Hp} {t : Addr} {ps : List Str} (e : H t = some (.tup (ps.map V.str))) : Dp K H (.ref t) (partsD ps) := .tup (SqT.of e) (dps_strs ps)
theorem dp_doors {K : W.Frag} {H : Hp} {t : Addr} {vs : List V} {ds : List Door} (e : H t = some (.tup vs)) (p : Paired (DoorAt H) vs ds) : Dp K H (.ref t) (doorsD ds) := .tup (SqT.of e) (dps_doors p)
theorem dp_cells {K : W.Frag} {H : Hp} {t : Addr} {vs : List V} {ds : List Cell} (e : H t = some (.tup vs)) (p : Paired (CellAt H) vs ds) : Dp K H (.ref t) (cellsD ds) := .tup (SqT.of e) (dps_cells p)
/-- the names can be laid -/
structure Ok (h : Hs) : Prop where
  p : ∀ x, x ∈ h.parts → PyData.strOk x = true
  d : ∀ d, d ∈ h.doors → PyData.strOk d.n = true ∧ PyData.strOk d.one = true ∧ PyData.strOk d.two = true
  c : ∀ c, c ∈ h.cells → PyData.strOk c.n = true ∧ PyData.strOk c.p = true
theorem lay_parts {ps : List Str} (h : ∀ x, x ∈ ps → PyData.strOk x = true) : Lay.Lay 1 (partsD ps) := Lay.tup fun d hd => by
  obtain ⟨x, hx, rfl⟩ := List.mem_map.mp hd
  exact Lay.str (h x hx)
theorem lay_door {d : Door} (h : PyData.strOk d.n = true ∧ PyData.strOk d.one = true ∧ PyData.strOk d.two = true) : Lay.Lay 1 (doorD d) := Lay.tup fun x hx => by
  simp only [List.mem_cons, List.not_mem_nil, or_false] at hx
  rcases hx with rfl | rfl | rfl | rfl
  · exact Lay.str h.1
  · exact Lay.str h.2.1
  · exact Lay.str h.2.2
  · exact Lay.bl _
theorem lay_cell {d : Cell} (h : PyData.strOk d.n = true ∧ PyData.strOk d.p = true) : Lay.Lay 1 (cellD d) := Lay.tup fun x hx => by
  simp only [List.mem_cons, List.not_mem_nil, or_false] at hx
  rcases hx with rfl | rfl | rfl
  · exact Lay.str h.1
  · exact Lay.str h.2
  · exact Lay.bl _
theorem lay_doors {ds : List Door} (h : ∀ d, d ∈ ds → PyData.strOk d.n = true ∧ PyData.strOk d.one = true ∧ PyData.strOk d.two = true) : Lay.Lay 2 (doorsD ds) := Lay.tup fun x hx => by
  obtain ⟨d, hd, rfl⟩ := List.mem_map.mp hx
  exact lay_door (h d hd)
theorem lay_cells {ds : List Cell} (h : ∀ d, d ∈ ds → PyData.strOk d.n = true ∧ PyData.strOk d.p = true) : Lay.Lay 2 (cellsD ds) := Lay.tup fun x hx => by
  obtain ⟨d, hd, rfl⟩ := List.mem_map.mp hx
  exact lay_cell (h d hd)
def sameH (h h2 : Hs) : Bool := PyData.eqv (partsD h.parts) (partsD h2.parts) && (PyData.eqv (doorsD h.doors) (doorsD h2.doors) && PyData.eqv (cellsD h.cells) (cellsD h2.cells))
theorem same_self {h : Hs} (o : Ok h) : sameH h h = true := by
  unfold sameH
  rw [(lay_parts o.p).refl, (lay_doors o.d).refl, (lay_cells o.c).refl]
  rfl
theorem cells_other {xs ys : List Cell} (h : xs.length ≠ ys.length) : PyData.eqv (cellsD xs) (cellsD ys) = false := by
  unfold cellsD
  rw [PyData.eqv]
  exact PySem.SeqAt.eqvAll_other_length (by rw [List.length_map, List.length_map]; exact h)
/-- == of a house with a house, or with something else -/
def spEq (K : W.Frag) (C : Addr) : Sp := fun vs H Q _ => ∃ (o : Addr) (y : V) (h : Hs), vs = [.ref o, y] ∧ HouseIns H C o h ∧ Ok h ∧
  ((∃ o2 h2, y = .ref o2 ∧ HouseIns H C o2 h2 ∧ Ok h2 ∧ Q (.bl (sameH h h2)) H) ∨ (∃ t, TyX K H y t ∧ W.kitOne K t (.ref C) = some false ∧ Q (.bl false) H))
section
variable {P : Program} {w : World} {K : W.Frag} {mg : Str → Option Value} {base : Heap}
theorem scEq : FnScope ["self", "other"] ["self", "other"] (defScope sEq) := ⟨rfl, rfl, rfl, by decide +kernel, rfl, by decide +kernel, by decide +kernel⟩
theorem ok_eq {f C : Addr} {fd : FuncData} (F : Fun K "__eq__" "House.__eq__" sEq f fd) (B : Bl mg) (T : HC2 K C) (mC : mg "House" = some (.ref C)) (ty : ∀ (H : Hp) (a dx : Addr) (fs : List (Str × V)), H a = some (.ins C dx fs) → TyX K H (.ref a) (.ref C)) (self : W.kitOne K (.ref C) (.ref C) = some true) :
    FnOk P w K mg base CX0 1 f fd ["self", "other"] (spEq K C) := by
  refine F.ok scEq (fun vs H Q E h => ?_) (fun cdv A outer s H vs Q E hr h => ?_)
  · obtain ⟨o, y, h, rfl, _⟩ := h
    rfl
  · obtain ⟨o, y, h, rfl, ⟨dx, fs, tp, td, tc, vd, vc, ho, l1, l2, l3, _, hp, hd, pd, hc, pc⟩, g, q⟩ := h
    have un := hr.units
    refine ⟨_, pss_cons (ps_if (pt_not (pt_val (pe_callB call_isi (by rfl) B.isi (by decide +kernel) (pa_cons (pv 1) (pa_cons (pe_glob (v := .ref C) rfl mC rfl) pa_nil))))) (pss_one (ps_ret pe_bl)) pss_nil)
      (pss_one (ps_ret (pe_and (pe_cmpR (op_eqD un) (pe_fld (pv 0) rfl) (pe_fld (pv 1) rfl) (nomark _)) (pe_and (pe_cmpR (op_eqD un) (pe_fld (pv 0) rfl) (pe_fld (pv 1) rfl) (nomark _)) (pe_one (pe_cmpR (op_eqD un) (pe_fld (pv 0) rfl) (pe_fld (pv 1) rfl) (nomark _))))))), ?_⟩
    rcases q with ⟨o2, h2, rfl, ⟨dx2, fs2, tp2, td2, tc2, vd2, vc2, ho2, m1, m2, m3, _, hp2, hd2, pd2, hc2, pc2⟩, g2, q⟩ | ⟨ty2, hty, no, q⟩
    · refine ⟨_, rfl, _, _, _, _, _, rfl, .own C, ty _ _ _ _ ho2, self, _, rfl, iteF ?_⟩
      unfold sameH at q
      refine ⟨_, rfl, o, C, dx, _, _, rfl, ho, T.cl, T.n1, l1, _, rfl, o2, C, dx2, _, _, rfl, ho2, T.cl, T.n1, m1, partsD h.parts, partsD h2.parts, dp_parts hp, dp_parts hp2, (lay_parts g.p).shaped, (lay_parts g2.p).shaped, _, rfl, ?_⟩
      cases e1 : PyData.eqv (partsD h.parts) (partsD h2.parts) with
      | false =>
        rw [e1] at q
        exact iteF q
      | true =>
        rw [e1, Bool.true_and] at q
        refine iteT ⟨_, rfl, o, C, dx, _, _, rfl, ho, T.cl, T.n2, l2, _, rfl, o2, C, dx2, _, _, rfl, ho2, T.cl, T.n2, m2, doorsD h.doors, doorsD h2.doors, dp_doors hd pd, dp_doors hd2 pd2, (lay_doors g.d).shaped, (lay_doors g2.d).shaped, _, rfl, ?_⟩
        cases e2 : PyData.eqv (doorsD h.doors) (doorsD h2.doors) with
        | false =>
          rw [e2] at q
          exact iteF q
        | true =>
          rw [e2, Bool.true_and] at q
          exact iteT ⟨_, rfl, o, C, dx, _, _, rfl, ho, T.cl, T.n3, l3, _, rfl, o2, C, dx2, _, _, rfl, ho2, T.cl, T.n3, m3, cellsD h.cells, cellsD h2.cells, dp_cells hc pc, dp_cells hc2 pc2, (lay_cells g.c).shaped, (lay_cells g2.c).shaped, q⟩
    · exact ⟨_, rfl, _, _, _, _, _, rfl, .own C, hty, no, _, rfl, iteT q⟩
end
end K01

namespace K01
open PySem PySem.Spec PyProof.Rows L2
open Cal EnuT Sqx Exn Keys Gvx

theorem HsAt.but {H H' : Hp} {h : Hs} {a b c p : Addr} (x : HsAt H h a b c) (bt : But p H H') (bx : Box H p) : HsAt H' h a b c := by
  obtain ⟨pa, ⟨vd, hd, pd⟩, vc, hc, pc⟩ := x
  have nt : ∀ {t xs}, H t = some (.tup xs) → t ≠ p := fun {t xs} e => bx.ne e (fun _ _ _ z => by cases z)
  exact ⟨bt _ _ (bx.ne pa (strs_box _)) pa, ⟨vd, bt _ _ (bx.ne hd (doors_box pd)) hd, paired_mono (fun _ _ r => r.mono fun t e => bt _ _ (nt e) e) pd⟩, vc, bt _ _ (bx.ne hc (cells_box pc)) hc, paired_mono (fun _ _ r => r.mono fun t e => bt _ _ (nt e) e) pc⟩
theorem HsAt.same {H H' : Hp} {h : Hs} {a b c : Addr} (x : HsAt H h a b c) (s : Same H H') : HsAt H' h a b c := by
  obtain ⟨pa, ⟨vd, hd, pd⟩, vc, hc, pc⟩ := x
  exact ⟨s _ _ pa, ⟨vd, s _ _ hd, paired_mono (fun _ _ r => r.mono fun t e => s _ _ e) pd⟩, vc, s _ _ hc, paired_mono (fun _ _ r => r.mono fun t e => s _ _ e) pc⟩
theorem n16_ok {x : Str} (h : x ∈ N16) : nameOk x = true := by
  have : N16.all nameOk = true := by decide +kernel
  exact List.all_eq_true.mp this x h
theorem Good.toH {h : Hs} (g : Good h) : GoodH h where
  p1 := g.p1
  p8 := by have := g.p6; omega
  d12 := by have := g.d7; omega
  c8 := by have := g.c3; omega
  nodup := g.nodup
  name := fun x hx => n16_ok (g.sub x hx)
  ends := g.ends
  cin := g.cin
theorem good_parts {h : Hs} (g : Good h) : ∀ x, x ∈ h.parts → x ∈ N16 := fun x hx => g.sub x (List.mem_append_left _ hx)
theorem good_doors {h : Hs} (g : Good h) : ∀ d, d ∈ h.doors → d.n ∈ N16 := fun d hd => g.sub _ (List.mem_append_right _ (List.mem_append_left _ (List.mem_map.mpr ⟨d, hd, rfl⟩)))
theorem good_cells {h : Hs} (g : Good h) : ∀ d, d ∈ h.cells → d.n ∈ N16 := fun d hd => g.sub _ (List.mem_append_right _ (List.mem_append_right _ (List.mem_map.mpr ⟨d, hd, rfl⟩)))
theorem paired_strs {H : Hp} : ∀ {ps : List Str}, (∀ x, x ∈ ps → flatOk (.str x) = true) → Paired (TvAt H) (ps.map V.str) (ps.map strT)
  | [], _ => .nil
  | p :: ps, h => .cons ⟨rfl, h p (List.mem_cons_self ..)⟩ (paired_strs fun x hx => h x (List.mem_cons_of_mem _ hx))
theorem av_strs {H : Hp} {a : Addr} {ps : List Str} (e : SeqAt H a (ps.map V.str)) (h : ∀ x, x ∈ ps → flatOk (.str x) = true) (l : ps.length ≤ 20) : AvAt H (.ref a) (.sq (ps.map strT)) :=
  ⟨a, _, rfl, e, paired_strs h, by rw [List.length_map]; exact l⟩
theorem name_flat {x : Str} (h : nameOk x = true) : flatOk (.str x) = true := by
  unfold nameOk at h
  simp only [Bool.and_eq_true, decide_eq_true_eq] at h
  exact decide_eq_true (show x.length ≤ 1000 by omega)
theorem n16_flat {x : Str} (h : x ∈ N16) : flatOk (.str x) = true := name_flat (n16_ok h)
theorem gh_doors {h : Hs} (g : GoodH h) : ∀ d, d ∈ h.doors → nameOk d.n = true := fun d hd => g.name _ (List.mem_append_right _ (List.mem_append_left _ (List.mem_map.mpr ⟨d, hd, rfl⟩)))
theorem gh_cells {h : Hs} (g : GoodH h) : ∀ d, d ∈ h.cells → nameOk d.n = true := fun d hd => g.name _ (List.mem_append_right _ (List.mem_append_right _ (List.mem_map.mpr ⟨d, hd, rfl⟩)))
theorem gh_parts {h : Hs} (g : GoodH h) : ∀ x, x ∈ h.parts → nameOk x = true := fun x hx => g.name x (List.mem_append_left _ hx)
theorem end_flat {h : Hs} (g : GoodH h) {x : Str} (e : EndIn h.parts x) : flatOk (.str x) = true := by
  rcases e with rfl | e
  · decide +kernel
  · exact name_flat (gh_parts g x e)
theorem fl_nil : ∀ x, x ∈ ([] : List V) → flatOk x = true := fun _ h => nomatch h
theorem fl_cons {v : V} {vs : List V} (h : flatOk v = true) (t : ∀ x, x ∈ vs → flatOk x = true) : ∀ x, x ∈ v :: vs → flatOk x = true := fun x hx => by
  rcases List.mem_cons.mp hx with rfl | z
  · exact h
  · exact t x z
theorem door_flat {h : Hs} (g : GoodH h) {d : Door} (hd : d ∈ h.doors) : ∀ x, x ∈ dvs d → flatOk x = true := by
  obtain ⟨e1, e2, _⟩ := g.ends d hd
  exact fl_cons (name_flat (gh_doors g d hd)) (fl_cons (end_flat g e1) (fl_cons (end_flat g e2) (fl_cons rfl fl_nil)))
theorem cell_flat {h : Hs} (g : GoodH h) {d : Cell} (hd : d ∈ h.cells) : ∀ x, x ∈ cvs d → flatOk x = true :=
  fl_cons (name_flat (gh_cells g d hd)) (fl_cons (name_flat (gh_parts g _ (g.cin d hd))) (fl_cons rfl fl_nil))
theorem paired_map' {α β γ : Type} {R : α → β → Prop} {S : α → γ → Prop} (f : β → γ) : ∀ {xs : List α} {ys : List β}, Paired R xs ys → (∀ a b, b ∈ ys → R a b → S a (f b)) → Paired S xs (ys.map f)
  | _, _, .nil, _ => .nil
  | _, _, .cons r t, k => .cons (k _ _ (List.mem_cons_self ..) r) (paired_map' f t fun a b hb => k a b (List.mem_cons_of_mem _ hb))
theorem tvs_doors {H : Hp} {h : Hs} (g : GoodH h) {vs : List V} (p : Paired (DoorAt H) vs h.doors) : Paired (TvAt H) vs (h.doors.map dT) := paired_map' dT p fun v d hd ⟨t, e, et⟩ => ⟨t, e, .inr et, by show 4 ≤ 20; decide, door_flat g hd⟩
theorem tvs_cells {H : Hp} {h : Hs} (g : GoodH h) {vs : List V} (p : Paired (CellAt H) vs h.cells) : Paired (TvAt H) vs (h.cells.map cT) := paired_map' cT p fun v d hd ⟨t, e, et⟩ => ⟨t, e, .inr et, by show 3 ≤ 20; decide, cell_flat g hd⟩
theorem av_doors {H : Hp} {h : Hs} {b : Addr} {vs : List V} (g : GoodH h) (e : SeqAt H b vs) (p : Paired (DoorAt H) vs h.doors) : AvAt H (.ref b) (.sq (h.doors.map dT)) :=
  ⟨b, vs, rfl, e, tvs_doors g p, by rw [List.length_map]; have := g.d12; omega⟩
theorem av_cells {H : Hp} {h : Hs} {b : Addr} {vs : List V} (g : GoodH h) (e : SeqAt H b vs) (p : Paired (CellAt H) vs h.cells) : AvAt H (.ref b) (.sq (h.cells.map cT)) :=
  ⟨b, vs, rfl, e, tvs_cells g p, by rw [List.length_map]; have := g.c8; omega⟩
theorem av_parts {H : Hp} {h : Hs} {b : Addr} (g : GoodH h) (e : SeqAt H b (h.parts.map V.str)) : AvAt H (.ref b) (.sq (h.parts.map strT)) := av_strs e (fun y hy => name_flat (gh_parts g y hy)) (by have := g.p8; omega)
theorem cut_dropV (xs : List V) (k : Nat) (h : k ≤ xs.length) : cutV xs (some ((k : Nat) : Int)) none = xs.drop k := by
  unfold cutV HT.sIx
  dsimp only
  rw [if_neg (by omega), Int.toNat_natCast, Nat.min_eq_left h, List.take_of_length_le]
  simp
theorem comp_ixL {K K' : W.Frag} {te : TE} {σ : L2.St} {H : Hp} {Q : VK} {i : Nat} {j : Int} {ws ys : List V} (hte : ∀ R : VK, (∀ H1 td, Same H H1 → H1 td = some (.lst ws) → R (.ref td) H1) → te σ H R) (few : ws.length ≤ 50)
    (pw : Paired (fun v y => ∃ t xs, v = V.ref t ∧ H t = some (.tup xs) ∧ atI xs j = some y) ws ys)
    (hw : ∀ v, wipe ((wipe σ [i]).set i (some v)) [i] = wipe σ [i]) (hg : ∀ v : V, ((wipe σ [i]).set i (some v))[i]? = some (some v))
    (k : ∀ H' D, Same H H' → H D = none → H' D = some (.lst ys) → Q (.ref D) H') :
    tLc (iList K te) (gName i) tYes (tOp (rIxT K') (tVar i) (tC (.int j))) [i] σ H Q := by
  refine hte _ fun H0 td s0 htd => ⟨td, rfl, ⟨_, SqL.of htd⟩, fun D nD => ?_⟩
  refine lc_list (xs := ws) (fun n H' => (∀ b o, b ≠ D → H0 b = some o → H' b = some o) ∧ H' D = some (.lst (ys.take n))) ⟨fun b o ne e => by rw [upd_ne ne]; exact e, upd_same⟩
    (fun n H' _ z => SqL.of (z.1 _ _ (ne_of_none htd nD) htd)) ?_ ?_
  · rintro n x H1 hx ⟨keep, at_D⟩
    obtain ⟨y, hy, t, xs, rfl, et, ej⟩ := paired_get pw hx
    have et := s0 _ _ et
    obtain ⟨lt, rfl⟩ := List.getElem?_eq_some_iff.mp hy
    have ly := paired_len pw
    refine ⟨hw _, kept ⟨_, hg _, t, xs, _, _, rfl, rfl, SqT.of (keep _ _ (ne_of_none et nD) et), ej, _, at_D, ?_, fun b o ne e => by rw [upd_ne ne]; exact keep b o ne e, ?_⟩⟩
    · have : (100 : Nat) ≤ sizeLine := by decide
      rw [List.length_take]
      omega
    · rw [upd_same, List.take_succ_eq_append_getElem lt]
  · rintro H1 ⟨keep, at_D⟩
    rw [paired_len pw, List.take_length] at at_D
    exact k H1 D (fun b o e => keep b o (ne_of_none (s0 _ _ e) nD) (s0 _ _ e)) (s0.free nD) at_D
theorem op_of {r : R2} {ta tb : TE} {σ : L2.St} {H : Hp} {Q : VK} (h : ta σ H fun x H1 => tb σ H1 fun y H2 => r x y H2 Q) : tOp r ta tb σ H Q := h
theorem call2 {sp : Sp} {te tf : TE} {E : XK} {σ : L2.St} {H : Hp} {Q : VK} (h : te σ H fun x H1 => tf σ H1 fun y H2 => sp [x, y] H2 Q E) : tCall sp [] E (tCons te (tCons tf tNil)) σ H Q := h
theorem call3 {sp : Sp} {te tf tg : TE} {E : XK} {σ : L2.St} {H : Hp} {Q : VK} (h : te σ H fun x H1 => tf σ H1 fun y H2 => tg σ H2 fun z H3 => sp [x, y, z] H3 Q E) : tCall sp [] E (tCons te (tCons tf (tCons tg tNil))) σ H Q := h
end K01

namespace K01
open PySem PySem.Spec PyProof.Rows L2
open Cal EnuT Sqx Exn Keys Gvx Cxx

/-! ### kept otherwise -/
def keptC (ns : List Str) (c : Cell) : Cell := ⟨c.n, c.p, decide (c.n ∈ ns)⟩
def keptH (h : Hs) (ns : List Str) : Hs := ⟨h.parts, h.doors, h.cells.map (keptC ns)⟩
def spWithKept (C CN : Addr) : Sp := fun vs H Q E => ∃ (o a : Addr) (h : Hs) (ns : List Str) (rest : List V), vs = [.ref o, .ref a] ∧ HouseX H C o h ∧ GoodH h ∧ H a = some (.lst (ns.map V.str ++ rest)) ∧ (∀ n, n ∈ ns → n ∈ h.cells.map (·.n)) ∧ ns.length + rest.length ≤ 20 ∧
  ((rest = [] ∧ ∀ H' o2, Same H H' → H o2 = none → HouseX H' C o2 (keptH h ns) → Q (.ref o2) H') ∨ (∃ v r, rest = v :: r ∧ Miss H (h.cells.map (·.n)) v ∧ BadN CN H E v))
theorem in_kept {names ns : List Str} (nd : names.Nodup) (sub : ∀ n, n ∈ ns → n ∈ names) {i : Nat} {x : Str} (hx : names[i]? = some x) : inV (.int (i : Nat)) (ns.map fun n => V.int (names.idxOf n : Nat)) = decide (x ∈ ns) := by
  obtain ⟨hi, rfl⟩ := List.getElem?_eq_some_iff.mp hx
  unfold inV
  rw [List.any_map, Bool.eq_iff_iff, List.any_eq_true, decide_eq_true_iff]
  constructor
  · rintro ⟨n, hn, e⟩
    have e : eqV (V.int (names.idxOf n : Nat)) (.int (i : Nat)) = true := e
    simp only [eqV, decide_eq_true_eq, V.int.injEq] at e
    have e : names.idxOf n = i := Int.ofNat_inj.mp (by simpa using e)
    have l := List.idxOf_lt_length_of_mem (sub n hn)
    have := List.getElem_idxOf l
    subst e
    rw [this]
    exact hn
  · intro h
    refine ⟨_, h, ?_⟩
    show eqV (V.int (names.idxOf names[i] : Nat)) (.int (i : Nat)) = true
    rw [nd.idxOf_getElem i hi]
    simp [eqV]
theorem good_kept {h : Hs} (g : GoodH h) (ns : List Str) : GoodH (keptH h ns) := by
  have e : (keptH h ns).names = h.names := by
    unfold Hs.names keptH
    rw [List.map_map]
    rfl
  exact {
    p1 := g.p1
    p8 := g.p8
    d12 := g.d12
    c8 := by show (h.cells.map (keptC ns)).length ≤ 8; rw [List.length_map]; exact g.c8
    nodup := by rw [e]; exact g.nodup
    name := by rw [e]; exact g.name
    ends := g.ends
    cin := fun c hc => by
      obtain ⟨d, hd, rfl⟩ := List.mem_map.mp hc
      exact g.cin d hd }
section
variable {P : Program} {w : World} {K : W.Frag} {mg : Str → Option Value} {base : Heap}
abbrev NWk : List Str := ["self", "names", "kept", "cells", "name", "at", "part", "_"]
theorem scWk : FnScope NWk ["self", "names"] (defScope sWithKept) := ⟨rfl, rfl, rfl, by decide +kernel, rfl, by decide +kernel, by decide +kernel⟩
theorem ok_withkept {f fC fI C CN CH : Addr} {fd fdC fdI : FuncData} (F : Fun K "with_kept" "House.with_kept" sWithKept f fd) (B : Bl mg) (T : HC2 K C) (mH : mg "House" = some (.ref C))
    (Mc : Meth K C "number_of_cell" fC) (FC : FnOk P w K mg base (L2.CX P w) 4 fC fdC ["self", "name"] (spNumX C CN "_cell_numbers" fun h => h.cells.map (·.n))) (bC : Binds K fdC ["self", "name"] [])
    (mk : Mk K C fI) (bI : Binds K fdI ["self", "parts", "doors", "cells"] []) (FI : FnOk P w K mg base (L2.CX P w) 4 fI fdI ["self", "parts", "doors", "cells"] (spInit C CH)) :
    FnOk P w K mg base (L2.CX P w) 6 f fd ["self", "names"] (spWithKept C CN) := by
  refine F.okX scWk (fun vs H Q E h => ?_) (fun cdv A outer s H vs Q E hr h => ?_)
  · obtain ⟨o, a, h, ns, rest, rfl, _⟩ := h
    rfl
  · obtain ⟨o, a, h, ns, rest, rfl, hx, good, ha, sub, l20, ev⟩ := h
    refine ⟨_, pss_cons (ps_set (i := 2) scWk.nd rfl (Or.inr rfl) (pe_lcX (Eb := E) (own := [("name", 4)]) (g := gName 4) (tt := tYes) rfl rfl (takes_of rfl rfl rfl rfl) (fun _ _ _ _ h => h) (by rfl) scWk.nd (pi_list (pv 1))
        (blkOk_by (own := [("name", 4)]) (N := NWk) (sc := defScope sWithKept) (by decide +kernel))
        (fun _ _ _ _ _ => pg_name (i := 4) scWk.nd rfl (Or.inl rfl)) (fun _ _ _ _ _ => pts_nil)
        (fun _ _ _ _ _ => pe_meth (pv 0) T.cl Mc FC (hr.mono (by decide)) bC .nil pass_blk (pa_cons (pv 4) pa_nil))))
      (pss_cons (ps_setLc (i := 3) (own := [("at", 5), ("name", 4), ("part", 6), ("_", 7)]) (g := gTup K 2 (gCons (gName 5) (gCons (gTup K 3 (gCons (gName 4) (gCons (gName 6) (gCons (gName 7) gNil)))) gNil))) (tt := tYes) (by rfl) scWk.nd rfl rfl (sw_true rfl rfl rfl (by decide +kernel)) (pi_enumS (by rfl) B.enu (pa_cons (pe_fld (pv 0) rfl) pa_nil))
        (blkOk_by (own := [("at", 5), ("name", 4), ("part", 6), ("_", 7)]) (N := NWk) (sc := defScope sWithKept) (by decide +kernel))
        (fun _ _ _ _ _ => pg_tup rfl (pgs_cons (pg_name (i := 5) scWk.nd rfl (Or.inl rfl)) (pgs_cons (pg_tup rfl (pgs_cons (pg_name (i := 4) scWk.nd rfl (Or.inl rfl)) (pgs_cons (pg_name (i := 6) scWk.nd rfl (Or.inl rfl)) (pgs_cons (pg_name (i := 7) scWk.nd rfl (Or.inl rfl)) pgs_nil)))) pgs_nil)))
        (fun _ _ _ _ _ => pts_nil) (fun _ _ _ _ _ => pe_tup (pa_cons (pv 4) (pa_cons (pv 6) (pa_cons (show PE _ _ (tOp (rIn K false) (tVar 5) (tVar 2)) from pe_cmpR op_in_seq (pv 5) (pv 2) (by rfl)) pa_nil)))))
      (pss_one (ps_ret (pe_make mk FI hr rfl mH bI .nil (passes_call LamX.takes0 (fun _ _ _ _ h => h)) (pa_cons (pe_fld (pv 0) rfl) (pa_cons (pe_fld (pv 0) rfl) (pa_cons (pv 3) pa_nil))))))), ?_⟩
    obtain ⟨dx, tp, td, tc, D1, D2, D3, te, tq, tk, vd, vc, ve, k1, k2, k3, hn⟩ := hx
    have line : (100 : Nat) ≤ sizeLine := by decide
    have nd := nodup_cells good
    have c8 := good.c8
    have lvc := paired_len hn.cp
    refine seq_set ⟨_, rfl, a, rfl, ⟨_, SqL.of ha⟩, fun D nD => lc_list (xs := ns.map V.str ++ rest) (fun i H' => Same H H' ∧ i ≤ ns.length ∧ H' D = some (.lst ((ns.take i).map fun n => V.int ((h.cells.map (·.n)).idxOf n : Nat)))) ⟨same_upd nD, Nat.zero_le _, upd_same⟩ (fun i H' _ z => SqL.of (z.1 _ _ ha)) ?_ ?_⟩
    · rintro i x H1 hx ⟨s1, le, at_D⟩
      refine ⟨rfl, kept ⟨_, rfl, o, dx, _, rfl, s1 _ _ hn.ins, rfl, _, rfl, ?_⟩⟩
      by_cases lt : i < ns.length
      · rw [List.getElem?_append_left (by rw [List.length_map]; exact lt), List.getElem?_map, List.getElem?_eq_getElem lt] at hx
        obtain rfl := Option.some.inj hx
        refine ⟨o, dx, D3, _, h, _, k3, rfl, s1 _ _ hn.ins, rfl, s1 _ _ hn.n3, hn.m3, .inl ⟨_, rfl, sub _ (List.getElem_mem lt), _, at_D, by rw [List.length_map, List.length_take]; omega, fun b u e => ?_, by omega, ?_⟩⟩
        · rw [upd_ne (ne_of_none e nD)]
          exact s1 _ _ e
        · rw [upd_same, List.take_succ_eq_append_getElem lt, List.map_append]
          rfl
      · obtain rfl : i = ns.length := by omega
        rcases ev with ⟨rfl, _⟩ | ⟨v, r, rfl, miss, bad⟩
        · rw [List.append_nil, List.getElem?_eq_none (by rw [List.length_map]; exact Nat.le_refl _)] at hx
          cases hx
        · rw [List.getElem?_append_right (by rw [List.length_map]; exact Nat.le_refl _), List.length_map, Nat.sub_self] at hx
          obtain rfl := Option.some.inj hx
          refine ⟨o, dx, D3, _, h, _, k3, rfl, s1 _ _ hn.ins, rfl, s1 _ _ hn.n3, hn.m3, .inr ⟨?_, bad.same s1⟩⟩
          rcases miss with ⟨x, rfl, m⟩ | ⟨u, sq, no⟩
          · exact .inl ⟨x, rfl, m⟩
          · refine .inr ⟨u, ?_, no⟩
            cases u with
            | none => exact sq
            | some xs =>
              obtain ⟨b, e, sq⟩ := sq
              exact ⟨b, e, sq.same s1⟩
    · rintro H1 ⟨s1, le, at_D⟩
      rw [List.length_append, List.length_map] at le at_D
      have r0 : rest = [] := List.eq_nil_of_length_eq_zero (by omega)
      subst r0
      rw [List.length_nil, Nat.add_zero, List.take_length] at at_D
      obtain ⟨_, k⟩ : ([] : List V) = [] ∧ ∀ H' o2, Same H H' → H o2 = none → HouseX H' C o2 (keptH h ns) → Q (.ref o2) H' := by
        rcases ev with z | ⟨v, r, e, _⟩
        · exact z
        · cases e
      refine seq_set (en_lc (a := tc) (xs := vc) (fun D2 n H' => Same H1 H' ∧ ∃ acc, H' D2 = some (.lst acc) ∧ Paired (CellAt H') acc ((h.cells.take n).map (keptC ns))) (fun R r => ⟨_, rfl, o, C, dx, _, _, rfl, s1 _ _ hn.ins, T.cl, T.n3, rfl, r⟩) (.inr (s1 _ _ hn.ca)) (fun D2 n2 => ⟨same_upd n2, [], upd_same, .nil⟩) (fun D2 i H' n2 _ z => z.1 _) ?_ ?_)
      · rintro D2 i x H2 T2 n2 hx ⟨s2, acc, at_D2, pa⟩ nT
        obtain ⟨c, hc, t, rfl, et⟩ := paired_get hn.cp hx
        have s3 := same_upd (o := .tup [.int (i : Nat), .ref t]) nT
        have la := paired_len pa
        rw [List.length_map, List.length_take] at la
        refine ⟨T2, _, rfl, SqT.of upd_same, rfl, _, _, rfl, _, _, rfl, t, _, rfl, SqT.of (s3 _ _ (s2 _ _ (s1 _ _ et))), rfl, _, _, rfl, _, _, rfl, _, _, rfl, rfl, rfl, rfl, kept ⟨_, rfl, _, rfl, _, rfl, _, rfl, D, _, rfl, .inl (SqL.of (s3 _ _ (s2 _ _ at_D))), rfl, ?_, by show 3 ≤ sizeLine; decide, fun u nu => ?_⟩⟩
        · rw [List.all_map]
          exact List.all_eq_true.mpr fun _ _ => rfl
        have hcn : (h.cells.map (·.n))[i]? = some c.n := by rw [List.getElem?_map, hc]; rfl
        have e := in_kept nd sub hcn
        have s4 := same_upd (o := .tup (cvs (keptC ns c))) nu
        simp only [Bool.false_eq_true, if_false, e]
        refine ⟨acc, s4 _ _ (s3 _ _ at_D2), by omega, fun b w0 e => ?_, _, upd_same, ?_⟩
        · rw [upd_ne (ne_of_none e n2)]
          exact s4 _ _ (s3 _ _ (s2 _ _ e))
        · obtain ⟨hl, rfl⟩ := List.getElem?_eq_some_iff.mp hc
          have at4 := s4 _ _ (s3 _ _ at_D2)
          rw [List.take_succ_eq_append_getElem hl, List.map_append]
          exact paired_snoc (paired_mono (fun _ _ r => r.mono fun c' ec => by rw [upd_ne (ne_of (s4 _ _ (s3 _ _ ec)) at4 (fun z => by cases z))]; exact s4 _ _ (s3 _ _ ec)) pa) ⟨u, rfl, by rw [upd_ne (ne_of (show (upd (upd H2 T2 (.tup [.int (i : Nat), .ref t])) u (.tup (cvs (keptC ns h.cells[i])))) u = some (.tup (cvs (keptC ns h.cells[i]))) from upd_same) at4 (fun z => by cases z))]; exact upd_same⟩
      · rintro D2 H2 n2 ⟨s2, acc, at_D2, pa⟩
        rw [lvc, List.take_length] at pa
        have s12 := s1.trans s2
        refine ⟨_, rfl, o, C, dx, _, _, rfl, s12 _ _ hn.ins, T.cl, T.n1, rfl, _, rfl, o, C, dx, _, _, rfl, s12 _ _ hn.ins, T.cl, T.n2, rfl, _, rfl, fun o2 dx2 no2 ndx2 ne2 => ?_⟩
        have sX : Same H2 (upd (upd H2 dx2 (.own o2)) o2 (.ins C dx2 [])) := fun b u e => by
          rw [upd_ne (ne_of_none e no2), upd_ne (ne_of_none e ndx2)]
          exact e
        have sA := s12.trans sX
        have gk := good_kept good ns
        refine ⟨o2, dx2, _, _, _, _, _, _, rfl, upd_same, av_parts gk (.inr (sA _ _ hn.pa)), av_doors gk (.inr (sA _ _ hn.da)) (paired_mono (fun _ _ r => r.mono fun t et => sA _ _ et) hn.dp), av_cells gk (.inl (sX _ _ at_D2)) (paired_mono (fun _ _ r => r.mono fun t et => sX _ _ et) pa), .inr ⟨keptH h ns, ⟨gk, rfl, rfl, rfl⟩, fun H' bt hx => ⟨rfl, k H' o2 (fun b u e => bt b u (ne_of_none (s12 _ _ e) no2) (sA _ _ e)) (s12.free no2) hx⟩⟩⟩
end
end K01

namespace K01
open PySem PySem.Spec PyProof.Rows L2
open Cal EnuT Sqx Exn Keys Gvx

/-! ### the text by the law -/
theorem len_add (a b : Str) : (a ++ b).length = a.length + b.length := by rw [Tx.len_L, Tx.L_append, List.length_append, Tx.len_L a, Tx.len_L b]
def doorL (d : Door) (e : Str) : Str := "door " ++ d.n ++ " " ++ d.one ++ " " ++ d.two ++ e
def cellL (c : Cell) (e : Str) : Str := "cell " ++ c.n ++ " " ++ c.p ++ e
theorem L_sp (a : Str) (b : Str) (h : Tx.L b = Tx.L a ++ Tx.L " ") (t : List Nat) : Tx.L b ++ t = Tx.L a ++ (Tx.L " " ++ t) := by rw [h, List.append_assoc]
theorem doorL_eq (d : Door) : doorL d (if d.op = true then " open" else " shut") = doorRow d := by
  unfold doorL doorRow
  rw [show ∀ xs, Txt.join (" " : Str) xs = Str.join " " xs from fun xs => StrLaws.glued_eq_join _ _]
  apply Tx.ext
  simp only [Tx.L_append, Tx.L_join]
  cases d.op with
  | true =>
    simp only [if_true, List.append_assoc]
    rw [show Tx.L ("door " : Str) = Tx.L "door" ++ Tx.L " " from by decide +kernel, show Tx.L (" open" : Str) = Tx.L " " ++ Tx.L "open" from by decide +kernel, List.append_assoc]
    rfl
  | false =>
    simp only [Bool.false_eq_true, if_false, List.append_assoc]
    rw [show Tx.L ("door " : Str) = Tx.L "door" ++ Tx.L " " from by decide +kernel, show Tx.L (" shut" : Str) = Tx.L " " ++ Tx.L "shut" from by decide +kernel, List.append_assoc]
    rfl
theorem cellL_eq (c : Cell) : cellL c (if c.k = true then " kept" else "") = cellRow c := by
  unfold cellL cellRow
  rw [show ∀ xs, Txt.join (" " : Str) xs = Str.join " " xs from fun xs => StrLaws.glued_eq_join _ _]
  apply Tx.ext
  cases c.k with
  | true =>
    simp only [if_true, List.cons_append, List.nil_append, Tx.L_append, Tx.L_join, List.append_assoc]
    rw [show Tx.L ("cell " : Str) = Tx.L "cell" ++ Tx.L " " from by decide +kernel, show Tx.L (" kept" : Str) = Tx.L " " ++ Tx.L "kept" from by decide +kernel, List.append_assoc]
    rfl
  | false =>
    simp only [Bool.false_eq_true, if_false, List.cons_append, List.nil_append, Tx.L_append, Tx.L_join, List.append_assoc]
    rw [show Tx.L ("cell " : Str) = Tx.L "cell" ++ Tx.L " " from by decide +kernel, show Tx.L ("" : Str) = [] from rfl, List.append_nil, List.append_assoc]
    rfl
def spLText : Sp := fun vs H Q _ => ∃ (a b c : Addr) (h : Hs), vs = [.ref a, .ref b, .ref c] ∧ HsAt H h a b c ∧ GoodH h ∧ ∀ H', Same H H' → Q (.str (textOf h)) H'
section
variable {P : Program} {w : World} {K : W.Frag} {mg : Str → Option Value} {base : Heap}
abbrev NLt : List Str := ["parts", "doors", "cells", "rows", "name", "one", "other", "is_open", "part", "is_kept"]
theorem scLt : FnScope NLt ["parts", "doors", "cells"] (defScope sLText) := ⟨rfl, rfl, rfl, by decide +kernel, rfl, by decide +kernel, by decide +kernel⟩
theorem ok_ltext {f : Addr} {fd : FuncData} (F : Fun K "_law_text" "_law_text" sLText f fd) : FnOk P w K mg base CX0 1 f fd ["parts", "doors", "cells"] spLText := by
  refine F.ok scLt (fun vs H Q E h => ?_) (fun cdv A outer s H vs Q E hr h => ?_)
  · obtain ⟨a, b, c, h, rfl, _⟩ := h
    rfl
  · obtain ⟨a, b, c, h, rfl, ⟨hp, ⟨vd, hd, pd⟩, vc, hc, pc⟩, g, k⟩ := h
    refine ⟨_, pss_cons (ps_setLc (i := 3) (own := [("name", 4)]) (g := gName 4) (tt := tYes) (by rfl) scLt.nd rfl rfl (sw_true rfl rfl rfl (by decide +kernel)) (pi_list (pv 0))
        (blkOk_by (own := [("name", 4)]) (N := NLt) (sc := defScope sLText) (by decide +kernel))
        (fun _ _ _ _ _ => pg_name (i := 4) scLt.nd rfl (Or.inl rfl)) (fun _ _ _ _ _ => pts_nil) (fun _ _ _ _ _ => pe_op op_add_str pe_str (pv 4)))
      (pss_cons (ps_for PassesOwn.never rfl (pi_list (pv 1)) (pg_tup rfl (pgs_cons (pg_name (i := 4) scLt.nd rfl (Or.inl rfl)) (pgs_cons (pg_name (i := 5) scLt.nd rfl (Or.inl rfl)) (pgs_cons (pg_name (i := 6) scLt.nd rfl (Or.inl rfl)) (pgs_cons (pg_name (i := 7) scLt.nd rfl (Or.inl rfl)) pgs_nil)))))
        (pss_one (ps_expr (pe_bm PySem.F.plainAttrs_list PySem.F.slot_list_append PySem.F.type_list_append mt_append (pv 3) (pa_cons (pe_op op_add_str (pe_op op_add_str (pe_op op_add_str (pe_op op_add_str (pe_op op_add_str (pe_op op_add_str pe_str (pv 4)) pe_str) (pv 5)) pe_str) (pv 6)) (pe_ifExp (pt_truth (pv 7) (by intro _; rfl)) pe_str pe_str)) pa_nil)))))
      (pss_cons (ps_for PassesOwn.never rfl (pi_list (pv 2)) (pg_tup rfl (pgs_cons (pg_name (i := 4) scLt.nd rfl (Or.inl rfl)) (pgs_cons (pg_name (i := 8) scLt.nd rfl (Or.inl rfl)) (pgs_cons (pg_name (i := 9) scLt.nd rfl (Or.inl rfl)) pgs_nil))))
        (pss_one (ps_expr (pe_bm PySem.F.plainAttrs_list PySem.F.slot_list_append PySem.F.type_list_append mt_append (pv 3) (pa_cons (pe_op op_add_str (pe_op op_add_str (pe_op op_add_str (pe_op op_add_str pe_str (pv 4)) pe_str) (pv 8)) (pe_ifExp (pt_truth (pv 9) (by intro _; rfl)) pe_str pe_str)) pa_nil)))))
      (pss_one (ps_ret (pe_join pe_str (pv 3)))))), ?_⟩
    have line : (1000 : Nat) ≤ sizeLine := by decide
    have p8 := g.p8
    have d12 := g.d12
    have c8 := g.c8
    refine ⟨_, rfl, a, rfl, ⟨_, SqL.of hp⟩, fun D nD => ?_⟩
    refine lc_list (xs := h.parts.map V.str) (fun i H' => Same H H' ∧ H' D = some (.lst (((h.parts.take i).map partRow).map V.str))) ⟨same_upd nD, upd_same⟩ (fun i H' _ z => SqL.of (z.1 _ _ hp)) ?_ ?_
    · rintro i x H1 hx ⟨s1, at_D⟩
      rw [List.getElem?_map] at hx
      obtain ⟨n, hn, rfl⟩ := Option.map_eq_some_iff.mp hx
      obtain ⟨hi, rfl⟩ := List.getElem?_eq_some_iff.mp hn
      have nl := name_len (g.name _ (List.mem_append_left _ (List.getElem_mem hi)))
      refine ⟨rfl, kept ⟨_, rfl, _, _, rfl, rfl, ?_, _, at_D, ?_, fun b o e => ?_, ?_⟩⟩
      · have : ("part " : Str).length = 5 := rfl
        omega
      · rw [List.length_map, List.length_map, List.length_take]
        omega
      · rw [upd_ne (ne_of_none e nD)]
        exact s1 _ _ e
      · rw [upd_same, List.take_succ_eq_append_getElem hi, List.map_append, List.map_append]
        rfl
    rintro H1 ⟨s1, at_D⟩
    rw [List.length_map, List.take_length] at at_D
    have lvd := paired_len pd
    have lvc := paired_len pc
    refine ⟨_, rfl, b, rfl, ⟨_, SqL.of (s1 _ _ hd)⟩, for_it (walk_list (xs := vd)) (fun i σ H' => ∃ v4 v5 v6 v7 v8 v9 : Option V, σ = [some (.ref a), some (.ref b), some (.ref c), some (.ref D), v4, v5, v6, v7, v8, v9] ∧ Same H H' ∧ H' D = some (.lst ((h.parts.map partRow ++ (h.doors.take i).map doorRow).map V.str)))
      ⟨_, _, _, _, _, _, rfl, s1, by rw [List.take_zero, List.map_nil, List.append_nil]; exact at_D⟩ (fun i σ H' _ z => ?_) ?_ ?_⟩
    · obtain ⟨_, _, _, _, _, _, _, s, _⟩ := z
      exact SqL.of (s _ _ hd)
    · rintro i x σ H2' H2 hi ⟨v4, v5, v6, v7, w8, w9, rfl, s2, at_D2⟩ ⟨rfl, hx⟩
      obtain ⟨d, hdi, t, rfl, et⟩ := paired_get pd hx
      obtain ⟨hi', rfl⟩ := List.getElem?_eq_some_iff.mp hdi
      have mem := List.getElem_mem hi'
      generalize ed : h.doors[i] = d at et mem
      have n1 := name_len (g.name d.n (List.mem_append_right _ (List.mem_append_left _ (List.mem_map.mpr ⟨d, mem, rfl⟩))))
      obtain ⟨e1, e2, _⟩ := g.ends d mem
      have l1 := end_len g e1
      have l2 := end_len g e2
      have q5 : ("door " : Str).length = 5 := rfl
      have q1 : (" " : Str).length = 1 := rfl
      have qo : (" open" : Str).length = 5 := rfl
      have qs : (" shut" : Str).length = 5 := rfl
      have er := doorL_eq d
      refine ⟨t, _, rfl, SqT.of (s2 _ _ et), rfl, _, _, rfl, _, _, rfl, _, _, rfl, _, _, rfl, rfl, ?_⟩
      refine ⟨_, rfl, .inl ⟨rfl, _, SqL.of at_D2⟩, ?_⟩
      refine ⟨_, rfl, _, _, rfl, rfl, by omega, _, _, rfl, rfl, by rw [len_add]; omega, _, rfl, _, _, rfl, rfl, by simp only [len_add]; omega, _, _, rfl, rfl, by simp only [len_add]; omega, _, rfl, _, _, rfl, rfl, by simp only [len_add]; omega, _, rfl, d.op, rfl, ?_⟩
      have fin : ∀ e : Str, doorL d e = doorRow d → ∃ (l : Addr) (ys : List V) (z : V), V.ref D = .ref l ∧ [V.str (doorL d e)] = [z] ∧ H2 l = some (.lst ys) ∧ ys.length < sizeLine ∧
          ∃ v4 v5 v6 v7 v8 v9 : Option V, [some (V.ref a), some (V.ref b), some (V.ref c), some (V.ref D), some (V.str d.n), some (V.str d.one), some (V.str d.two), some (V.bl d.op), w8, w9] = [some (.ref a), some (.ref b), some (.ref c), some (.ref D), v4, v5, v6, v7, v8, v9] ∧ Same H (upd H2 l (.lst (ys ++ [z]))) ∧ upd H2 l (.lst (ys ++ [z])) D = some (.lst ((h.parts.map partRow ++ (h.doors.take (i + 1)).map doorRow).map V.str)) := fun e he => by
        refine ⟨D, _, _, rfl, rfl, at_D2, ?_, _, _, _, _, _, _, rfl, fun b u e => ?_, ?_⟩
        · rw [List.length_map, List.length_append, List.length_map, List.length_map, List.length_take]
          omega
        · rw [upd_ne (ne_of_none e nD)]
          exact s2 _ _ e
        · rw [upd_same, List.take_succ_eq_append_getElem hi', ed, List.map_append (f := doorRow), ← List.append_assoc, he, List.map_append (f := V.str) (l₂ := List.map doorRow [d])]
          rfl
      cases eo : d.op with
      | true =>
        rw [eo, if_pos rfl] at er
        rw [eo] at fin
        exact iteT ⟨_, _, rfl, rfl, by simp only [len_add]; omega, fin _ er⟩
      | false =>
        rw [eo, if_neg Bool.false_ne_true] at er
        rw [eo] at fin
        exact iteF ⟨_, _, rfl, rfl, by simp only [len_add]; omega, fin _ er⟩
    · rintro σ H2 ⟨v4, v5, v6, v7, v8, v9, rfl, s2, at_D2⟩
      rw [lvd, List.take_length] at at_D2
      refine ⟨_, rfl, c, rfl, ⟨_, SqL.of (s2 _ _ hc)⟩, for_it (walk_list (xs := vc)) (fun i σ H' => ∃ v4 v5 v6 v7 v8 v9 : Option V, σ = [some (.ref a), some (.ref b), some (.ref c), some (.ref D), v4, v5, v6, v7, v8, v9] ∧ Same H H' ∧ H' D = some (.lst ((h.parts.map partRow ++ (h.doors.map doorRow ++ (h.cells.take i).map cellRow)).map V.str)))
        ⟨_, _, _, _, _, _, rfl, s2, by rw [List.take_zero, List.map_nil, List.append_nil]; exact at_D2⟩ (fun i σ H' _ z => ?_) ?_ ?_⟩
      · obtain ⟨_, _, _, _, _, _, _, s, _⟩ := z
        exact SqL.of (s _ _ hc)
      · rintro i x σ H3' H3 hi ⟨v4, w5, w6, w7, v8, v9, rfl, s3, at_D3⟩ ⟨rfl, hx⟩
        obtain ⟨d, hdi, t, rfl, et⟩ := paired_get pc hx
        obtain ⟨hi', rfl⟩ := List.getElem?_eq_some_iff.mp hdi
        have mem := List.getElem_mem hi'
        generalize ed : h.cells[i] = d at et mem
        have n1 := name_len (g.name d.n (List.mem_append_right _ (List.mem_append_right _ (List.mem_map.mpr ⟨d, mem, rfl⟩))))
        have l1 := name_len (g.name d.p (List.mem_append_left _ (g.cin d mem)))
        have q5 : ("cell " : Str).length = 5 := rfl
        have q1 : (" " : Str).length = 1 := rfl
        have qo : (" kept" : Str).length = 5 := rfl
        have qs : ("" : Str).length = 0 := rfl
        have er := cellL_eq d
        refine ⟨t, _, rfl, SqT.of (s3 _ _ et), rfl, _, _, rfl, _, _, rfl, _, _, rfl, rfl, ?_⟩
        refine ⟨_, rfl, .inl ⟨rfl, _, SqL.of at_D3⟩, ?_⟩
        refine ⟨_, rfl, _, _, rfl, rfl, by omega, _, _, rfl, rfl, by rw [len_add]; omega, _, rfl, _, _, rfl, rfl, by simp only [len_add]; omega, _, rfl, d.k, rfl, ?_⟩
        have fin : ∀ e : Str, cellL d e = cellRow d → ∃ (l : Addr) (ys : List V) (z : V), V.ref D = .ref l ∧ [V.str (cellL d e)] = [z] ∧ H3 l = some (.lst ys) ∧ ys.length < sizeLine ∧
            ∃ v4 v5 v6 v7 v8 v9 : Option V, [some (V.ref a), some (V.ref b), some (V.ref c), some (V.ref D), some (V.str d.n), w5, w6, w7, some (V.str d.p), some (V.bl d.k)] = [some (.ref a), some (.ref b), some (.ref c), some (.ref D), v4, v5, v6, v7, v8, v9] ∧ Same H (upd H3 l (.lst (ys ++ [z]))) ∧ upd H3 l (.lst (ys ++ [z])) D = some (.lst ((h.parts.map partRow ++ (h.doors.map doorRow ++ (h.cells.take (i + 1)).map cellRow)).map V.str)) := fun e he => by
          refine ⟨D, _, _, rfl, rfl, at_D3, ?_, _, _, _, _, _, _, rfl, fun b u e => ?_, ?_⟩
          · rw [List.length_map, List.length_append, List.length_append, List.length_map, List.length_map, List.length_map, List.length_take]
            omega
          · rw [upd_ne (ne_of_none e nD)]
            exact s3 _ _ e
          · rw [upd_same, List.take_succ_eq_append_getElem hi', ed, he]
            simp only [List.map_append, List.append_assoc]
            rfl
        cases eo : d.k with
        | true =>
          rw [eo, if_pos rfl] at er
          rw [eo] at fin
          exact iteT ⟨_, _, rfl, rfl, by simp only [len_add]; omega, fin _ er⟩
        | false =>
          rw [eo, if_neg Bool.false_ne_true] at er
          rw [eo] at fin
          exact iteF ⟨_, _, rfl, rfl, by simp only [len_add]; omega, fin _ er⟩
      · rintro σ H3 ⟨v4, v5, v6, v7, v8, v9, rfl, s3, at_D3⟩
        rw [lvc, List.take_length] at at_D3
        refine ⟨⟨_, rfl⟩, _, rfl, _, D, rowsOf h, rfl, rfl, .inl (SqL.of at_D3), ?_, k _ s3⟩
        have := sum_le ((rowsOf h).map (·.length)) 60 (fun x hx => by
          obtain ⟨r, hr, rfl⟩ := List.mem_map.mp hx
          exact row_len g r hr)
        have := rows_len g
        rw [List.length_map] at *
        have e1 : ("\n" : Str).length = 1 := rfl
        rw [e1]
        omega
end
end K01

namespace K01
open PySem PySem.Spec PyProof.Rows L2
open Cal EnuT Sqx Exn Keys Gvx

def spNumber : Sp := fun vs H Q _ => ∃ (a : Addr) (ps : List Str) (x : Str), vs = [.ref a, .str x] ∧ H a = some (.lst (ps.map V.str)) ∧ EndIn ps x ∧ Q (.int (endN ps x)) H
section
variable {P : Program} {w : World} {K : W.Frag} {mg : Str → Option Value} {base : Heap}
theorem scNr : FnScope ["parts", "name"] ["parts", "name"] (defScope sNumber) := ⟨rfl, rfl, rfl, by decide +kernel, rfl, by decide +kernel, by decide +kernel⟩
theorem idx_first {ps : List Str} {x : Str} (h : x ∈ ps) : (ps.map V.str)[ps.idxOf x]? = some (.str x) ∧ ∀ (m : Nat) (z' : V), m < ps.idxOf x → (ps.map V.str)[m]? = some z' → eqV z' (.str x) = false := by
  have l := List.idxOf_lt_length_of_mem h
  refine ⟨?_, fun m z' hm hz => ?_⟩
  · rw [List.getElem?_map, List.getElem?_eq_getElem l, List.getElem_idxOf l]
    rfl
  · rw [List.getElem?_map] at hz
    obtain ⟨y, hy, rfl⟩ := Option.map_eq_some_iff.mp hz
    obtain ⟨lm, rfl⟩ := List.getElem?_eq_some_iff.mp hy
    have : ps[m] ≠ x := fun e => by
      have := List.not_of_lt_findIdx (p := (· == x)) hm
      simp [e] at this
    simp [eqV, this]
theorem ok_number {f : Addr} {fd : FuncData} (F : Fun K "_law_number" "_law_number" sNumber f fd) : FnOk P w K mg base CX0 1 f fd ["parts", "name"] spNumber := by
  refine F.ok scNr (fun vs H Q E h => ?_) (fun cdv A outer s H vs Q E hr h => ?_)
  · obtain ⟨a, ps, x, rfl, _⟩ := h
    rfl
  · obtain ⟨a, ps, x, rfl, ha, hx, q⟩ := h
    refine ⟨_, pss_one (ps_ret (pe_ifExp (pt_cmpR op_eq (pv 1) pe_str (nomark _)) (pe_op op_sub pe_int pe_int) (pe_bm PySem.F.plainAttrs_list PySem.F.slot_list_index PySem.F.type_list_index mt_index (pv 0) (pa_cons (pv 1) pa_nil)))), ?_⟩
    refine ⟨_, rfl, rfl, _, rfl, ?_⟩
    unfold endN at q
    refine ite2 (fun hc => ?_) (fun hc => ?_)
    · rw [if_pos (by simpa using hc)] at q
      exact ⟨_, _, rfl, rfl, q⟩
    · have no : x ≠ "out" := fun z => hc (by simp [z])
      rw [if_neg no] at q
      have m := hx.resolve_left no
      obtain ⟨h1, h2⟩ := idx_first m
      exact ⟨_, rfl, .inl ⟨rfl, _, SqL.of ha⟩, _, rfl, a, _, _, _, _, rfl, rfl, SqL.of ha, rfl, flat_strs ps, h1, by simp [eqV], h2, q⟩
end
end K01

namespace K01
open PySem PySem.Spec PyProof.Rows L2
open Cal EnuT Sqx Exn Keys Gvx

/-! ### all that a house knows, looked at -/
/-- the methods that tell of a house -/
structure HouseM (P : Program) (w : World) (K : W.Frag) (mg : Str → Option Value) (base : Heap) (C CN : Addr) : Prop where
  T : HC2 K C
  far : ∃ f fd, Meth K C "far_end" f ∧ Binds K fd ["self", "door", "spot"] [] ∧ FnOk P w K mg base CX0 1 f fd ["self", "door", "spot"] (spFarEnd C)
  dat : ∃ f fd, Meth K C "doors_at" f ∧ Binds K fd ["self", "spot"] [] ∧ FnOk P w K mg base CX0 1 f fd ["self", "spot"] (spDoorsAt C)
  cin : ∃ f fd, Meth K C "cells_in" f ∧ Binds K fd ["self", "spot"] [] ∧ FnOk P w K mg base CX0 1 f fd ["self", "spot"] (spCellsIn C)
  np : ∃ f fd, Meth K C "number_of_part" f ∧ Binds K fd ["self", "name"] [] ∧ FnOk P w K mg base (L2.CX P w) 4 f fd ["self", "name"] (spNumPartX C CN)
  nd : ∃ f fd, Meth K C "number_of_door" f ∧ Binds K fd ["self", "name"] [] ∧ FnOk P w K mg base (L2.CX P w) 4 f fd ["self", "name"] (spNumX C CN "_door_numbers" fun h => h.doors.map (·.n))
  nc : ∃ f fd, Meth K C "number_of_cell" f ∧ Binds K fd ["self", "name"] [] ∧ FnOk P w K mg base (L2.CX P w) 4 f fd ["self", "name"] (spNumX C CN "_cell_numbers" fun h => h.cells.map (·.n))
def spRight (C : Addr) : Sp := fun vs H Q _ => ∃ (o a b c : Addr) (h : Hs), vs = [.ref o, .ref a, .ref b, .ref c] ∧ HouseX H C o h ∧ HsAt H h a b c ∧ GoodH h ∧ ∀ H', Same H H' → Q (.bl true) H'
abbrev NRt : List Str := ["house", "parts", "doors", "cells", "ends", "spots", "spot", "at", "one", "other", "name", "found", "door", "cell", "pair", "part"]
def endP (ps : List Str) (d : Door) : Int × Int := (endN ps d.one, endN ps d.two)
def prsD (ps : List (Int × Int)) : PyData := .tuple (ps.map fun p => .tuple [.int p.1, .int p.2])
def intsD (ns : List Int) : PyData := .tuple (ns.map .int)
def bolsD (bs : List Bool) : PyData := .tuple (bs.map .bool)
theorem dps_prs {K : W.Frag} {H : Hp} : ∀ {vs : List V} {ps : List (Int × Int)}, Paired (PrAt H) vs ps → DpAll K H vs (ps.map fun p => .tuple [.int p.1, .int p.2])
  | _, _, .nil => .nil
  | _, _, .cons ⟨c, e, ec⟩ t => by
    subst e
    exact .cons (.tup (SqT.of ec) (.cons (.int _) (.cons (.int _) .nil))) (dps_prs t)
theorem dps_ints {K : W.Frag} {H : Hp} : ∀ ns : List Int, DpAll K H (ns.map V.int) (ns.map .int)
  | [] => .nil
  | n :: ns => .cons (.int n) (dps_ints ns)
theorem dps_bols {K : W.Frag} {H : Hp} : ∀ ns : List Bool, DpAll K H (ns.map V.bl) (ns.map .bool)
  | [] => .nil
  | n :: ns => .cons (.bl n) (dps_bols ns)
theorem lay_prs (ps : List (Int × Int)) : Lay.Lay 2 (prsD ps) := Lay.tup fun x hx => by
  obtain ⟨p, _, rfl⟩ := List.mem_map.mp hx
  exact Lay.tup fun y hy => by
    simp only [List.mem_cons, List.not_mem_nil, or_false] at hy
    rcases hy with rfl | rfl <;> exact Lay.int _
theorem lay_ints (ns : List Int) : Lay.Lay 1 (intsD ns) := Lay.tup fun x hx => by
  obtain ⟨p, _, rfl⟩ := List.mem_map.mp hx
  exact Lay.int _
theorem lay_bols (ns : List Bool) : Lay.Lay 1 (bolsD ns) := Lay.tup fun x hx => by
  obtain ⟨p, _, rfl⟩ := List.mem_map.mp hx
  exact Lay.bl _
theorem prs_of {ps : List Str} {H : Hp} {vs : List V} {ds : List Door} (p : Paired (EndAt ps H) vs ds) : Paired (PrAt H) vs (ds.map (endP ps)) := paired_map' (endP ps) p fun _ _ _ r => r
theorem prs_same {H H' : Hp} (s : Same H H') {vs : List V} {ps : List (Int × Int)} (p : Paired (PrAt H) vs ps) : Paired (PrAt H') vs ps := paired_mono (fun _ _ r => r.same s) p
theorem nelay {K : W.Frag} {H : Hp} {x y : V} {d : PyData} {n : Nat} {Q : VK} (l : Lay.Lay n d) (hn : n ≤ 64) (h1 : Dp K H x d) (h2 : Dp K H y d) (q : Q (.bl false) H) : rNeD K x y H Q := by
  refine ⟨d, d, h1, h2, l.shaped hn, l.shaped hn, ?_⟩
  rw [l.refl]
  exact q
theorem ixsV_ints {α : Type} (f : α → Bool) : ∀ (k : Nat) (xs : List α), ∃ ns : List Int, ixsV f k xs = ns.map V.int
  | _, [] => ⟨[], rfl⟩
  | k, x :: xs => by
    obtain ⟨ns, e⟩ := ixsV_ints f (k + 1) xs
    by_cases h : f x = true
    · exact ⟨(k : Int) :: ns, by unfold ixsV; rw [if_pos h, e]; rfl⟩
    · exact ⟨ns, by unfold ixsV; rw [if_neg h, e]; rfl⟩
theorem paired_get_r {α β : Type} {R : α → β → Prop} : ∀ {xs : List α} {ys : List β} {i : Nat} {y : β}, Paired R xs ys → ys[i]? = some y → ∃ x, xs[i]? = some x ∧ R x y
  | _, _, 0, _, .cons r _, h => ⟨_, rfl, by cases h; exact r⟩
  | _, _, i + 1, _, .cons _ t, h => paired_get_r (i := i) t h
  | _, _, _, _, .nil, h => nomatch h
def rowN (n : Nat) : List V := (List.range n).map fun i => V.int (i : Nat)
theorem rowN_succ (n : Nat) : rowN (n + 1) = rowN n ++ [V.int (n : Nat)] := by
  unfold rowN
  rw [List.range_succ, List.map_append]
  rfl
theorem rowN_len (n : Nat) : (rowN n).length = n := by unfold rowN; rw [List.length_map, List.length_range]
theorem rg_row (n : Nat) : rgV 0 (n : Nat) = rowN n := by
  unfold rgV rowN
  have : (((n : Nat) : Int) - 0).toNat = n := by omega
  rw [this]
  refine List.map_congr_left fun i _ => ?_
  rw [Int.zero_add]
theorem row_ints (n : Nat) : rowN n = ((List.range n).map fun i => ((i : Nat) : Int)).map V.int := by
  unfold rowN
  rw [List.map_map]
  rfl
theorem c_of {v : V} {σ : L2.St} {H : Hp} {Q : VK} (h : Q v H) : tC v σ H Q := h
theorem eqlay {K : W.Frag} {H : Hp} {x y : V} {d : PyData} {n : Nat} {Q : VK} (l : Lay.Lay n d) (hn : n ≤ 64) (h1 : Dp K H x d) (h2 : Dp K H y d) (q : Q (.bl true) H) : rEqD K x y H Q := by
  refine ⟨d, d, h1, h2, l.shaped hn, l.shaped hn, ?_⟩
  rw [l.refl]
  exact q
section
variable {P : Program} {w : World} {K : W.Frag} {mg : Str → Option Value} {base : Heap}
theorem scRt : FnScope NRt ["house", "parts", "doors", "cells"] (defScope sRight) := ⟨rfl, rfl, rfl, by decide +kernel, rfl, by decide +kernel, by decide +kernel⟩
theorem ok_right {f C CN : Addr} {fd : FuncData} (F : Fun K "_law_numbers_right" "_law_numbers_right" sRight f fd) (B : Bl mg) (M : HouseM P w K mg base C CN) (Nm : Callee P w K mg base "_law_number" 1 ["parts", "name"] spNumber) :
    FnOk P w K mg base CX0 5 f fd ["house", "parts", "doors", "cells"] (spRight C) := by
  refine F.ok scRt (fun vs H Q E h => ?_) (fun cdv A outer s H vs Q E hr h => ?_)
  · obtain ⟨o, a, b, c, h, rfl, _⟩ := h
    rfl
  · obtain ⟨o, a, b, c, h, rfl, hx, ⟨hp, ⟨ld, hd, pd⟩, lc, hc, pc⟩, g, k⟩ := h
    have hr1 := hr.mono (show 1 ≤ 4 by decide)
    have un := hr.units
    obtain ⟨fF, fdF, mF, bF, okF⟩ := M.far
    obtain ⟨fD, fdD, mD, bD, okD⟩ := M.dat
    obtain ⟨fC, fdC, mC, bC, okC⟩ := M.cin
    obtain ⟨fP, fdP, mP, bP, okP⟩ := M.np
    obtain ⟨fN, fdN, mN, bN, okN⟩ := M.nd
    obtain ⟨fL, fdL, mL, bL, okL⟩ := M.nc
    have T := M.T
    refine ⟨_, pss_cons (ps_setLc (i := 4) (own := [("door", 12)]) (g := gName 12) (tt := tYes) (by rfl) scRt.nd rfl rfl (sw_true rfl rfl rfl (by decide +kernel)) (pi_list (pv 2))
        (blkOk_by (own := [("door", 12)]) (N := NRt) (sc := defScope sRight) (by decide +kernel))
        (fun _ _ _ _ _ => pg_name (i := 12) scRt.nd rfl (Or.inl rfl)) (fun _ _ _ _ _ => pts_nil)
        (fun _ _ _ _ _ => pe_tup (pa_cons (pe_callee Nm hr1 (by rfl) (pa_cons (pv 1) (pa_cons (show PE _ _ (tOp (rIxT K) (tVar 12) (tC (.int 1))) from pe_ix ix_tup (pv 12) pe_int (fun _ _ => rfl)) pa_nil)))
          (pa_cons (pe_callee Nm hr1 (by rfl) (pa_cons (pv 1) (pa_cons (show PE _ _ (tOp (rIxT K) (tVar 12) (tC (.int 2))) from pe_ix ix_tup (pv 12) pe_int (fun _ _ => rfl)) pa_nil))) pa_nil))))
      (pss_cons (ps_setLc (i := 5) (own := [("cell", 13)]) (g := gName 13) (tt := tYes) (by rfl) scRt.nd rfl rfl (sw_true rfl rfl rfl (by decide +kernel)) (pi_list (pv 3))
        (blkOk_by (own := [("cell", 13)]) (N := NRt) (sc := defScope sRight) (by decide +kernel))
        (fun _ _ _ _ _ => pg_name (i := 13) scRt.nd rfl (Or.inl rfl)) (fun _ _ _ _ _ => pts_nil)
        (fun _ _ _ _ _ => pe_callee Nm hr1 (by rfl) (pa_cons (pv 1) (pa_cons (show PE _ _ (tOp (rIxT K) (tVar 13) (tC (.int 1))) from pe_ix ix_tup (pv 13) pe_int (fun _ _ => rfl)) pa_nil))))
      (pss_cons (ps_if (PW.pt (pw_or (pt_cmpR (op_neD un) (pe_fld (pv 0) rfl) (pe_callTy call_tuple_of (by rfl) B.tuple (by decide +kernel) (pa_cons (pv 4) pa_nil)) (nomark _))
          (pw_or (pt_cmpR (op_neD un) (pe_fld (pv 0) rfl) (pe_callTy call_tuple_of (by rfl) B.tuple (by decide +kernel) (pa_cons (pv 5) pa_nil)) (nomark _))
          (pw_or1 (pt_cmpR (op_neD un) (pe_fld (pv 0) rfl) (pe_callTy call_tuple_of (by rfl) B.tuple (by decide +kernel) (pa_cons (pe_lc (own := [("cell", 13)]) (g := gName 13) (tt := tYes) (by rfl) scRt.nd (pi_list (pv 3))
            (blkOk_by (own := [("cell", 13)]) (N := NRt) (sc := defScope sRight) (by decide +kernel))
            (fun _ _ _ _ _ => pg_name (i := 13) scRt.nd rfl (Or.inl rfl)) (fun _ _ _ _ _ => pts_nil) (fun _ _ _ _ _ => show PE _ _ (tOp (rIxT K) (tVar 13) (tC (.int 2))) from pe_ix ix_tup (pv 13) pe_int (fun _ _ => rfl))) pa_nil)) (nomark _)))))) (pss_one ps_never) pss_nil)
      (pss_cons (ps_for PassesOwn.never rfl (pi_range2 (by rfl) B.range (pa_cons (pe_op op_sub pe_int pe_int) (pa_cons (pe_callB call_len_seq (by rfl) B.nums.len PySem.boot_len (pa_cons (pv 1) pa_nil)) pa_nil))) (pg_name (i := 6) scRt.nd rfl (Or.inr rfl))
        (pss_cons (ps_if (pt_cmpR (op_neD un) (pe_meth (pv 0) T.cl mD okD hr1 bD .nil pass0 (pa_cons (pv 6) pa_nil)) (pe_callTy call_tuple_of (by rfl) B.tuple (by decide +kernel) (pa_cons (pe_lc (own := [("at", 7), ("pair", 14)]) (g := gTup K 2 (gCons (gName 7) (gCons (gName 14) gNil))) (by rfl) scRt.nd (pi_enumS (by rfl) B.enu (pa_cons (pv 4) pa_nil))
            (blkOk_by (own := [("at", 7), ("pair", 14)]) (N := NRt) (sc := defScope sRight) (by decide +kernel))
            (fun _ _ _ _ _ => pg_tup rfl (pgs_cons (pg_name (i := 7) scRt.nd rfl (Or.inl rfl)) (pgs_cons (pg_name (i := 14) scRt.nd rfl (Or.inl rfl)) pgs_nil)))
            (fun _ _ _ _ _ => pts_one (show PT _ _ (tTest (tOp (rIn K false) (tVar 6) (tVar 14))) from pt_cmpR op_in_seq (pv 6) (pv 14) (by rfl))) (fun _ _ _ _ _ => pv 7)) pa_nil)) (nomark _)) (pss_one ps_never) pss_nil)
        (pss_cons (ps_if (pt_cmpR (op_neD un) (pe_meth (pv 0) T.cl mC okC hr1 bC .nil pass0 (pa_cons (pv 6) pa_nil)) (pe_callTy call_tuple_of (by rfl) B.tuple (by decide +kernel) (pa_cons (pe_lc (own := [("at", 7), ("part", 15)]) (g := gTup K 2 (gCons (gName 7) (gCons (gName 15) gNil))) (by rfl) scRt.nd (pi_enumS (by rfl) B.enu (pa_cons (pv 5) pa_nil))
            (blkOk_by (own := [("at", 7), ("part", 15)]) (N := NRt) (sc := defScope sRight) (by decide +kernel))
            (fun _ _ _ _ _ => pg_tup rfl (pgs_cons (pg_name (i := 7) scRt.nd rfl (Or.inl rfl)) (pgs_cons (pg_name (i := 15) scRt.nd rfl (Or.inl rfl)) pgs_nil)))
            (fun _ _ _ _ _ => pts_one (pt_cmpR op_eq (pv 15) (pv 6) (nomark _))) (fun _ _ _ _ _ => pv 7)) pa_nil)) (nomark _)) (pss_one ps_never) pss_nil)
        (pss_one (ps_for PassesOwn.never rfl (pi_enumS (by rfl) B.enu (pa_cons (pv 4) pa_nil)) (pg_tup rfl (pgs_cons (pg_name (i := 7) scRt.nd rfl (Or.inl rfl)) (pgs_cons (pg_tup rfl (pgs_cons (pg_name (i := 8) scRt.nd rfl (Or.inl rfl)) (pgs_cons (pg_name (i := 9) scRt.nd rfl (Or.inl rfl)) pgs_nil))) pgs_nil)))
          (pss_one (ps_if (pt_cmpR (op_neD un) (pe_meth (pv 0) T.cl mF okF hr1 bF .nil pass0 (pa_cons (pv 7) (pa_cons (pv 6) pa_nil))) (pe_ifExp (pt_cmpR op_eq (pv 6) (pv 8) (nomark _)) (pv 9) (pe_ifExp (pt_cmpR op_eq (pv 6) (pv 9) (nomark _)) (pv 8) pe_non)) (nomark _)) (pss_one ps_never) pss_nil)))))))
      (pss_cons (ps_for PassesOwn.never rfl (pi_enumS (by rfl) B.enu (pa_cons (pv 1) pa_nil)) (pg_tup rfl (pgs_cons (pg_name (i := 7) scRt.nd rfl (Or.inl rfl)) (pgs_cons (pg_name (i := 10) scRt.nd rfl (Or.inl rfl)) pgs_nil)))
        (pss_one (ps_if (pt_cmpR op_ne (pe_meth (pv 0) T.cl mP okP hr bP .nil (passes_call LamX.takes0 (fun _ _ _ _ h => h)) (pa_cons (pv 10) pa_nil)) (pv 7) (nomark _)) (pss_one ps_never) pss_nil)))
      (pss_cons (ps_set (i := 11) scRt.nd rfl (Or.inl rfl) (pe_op op_cat (pe_lc (own := [("door", 12)]) (g := gName 12) (tt := tYes) (by rfl) scRt.nd (pi_list (pv 2))
          (blkOk_by (own := [("door", 12)]) (N := NRt) (sc := defScope sRight) (by decide +kernel))
          (fun _ _ _ _ _ => pg_name (i := 12) scRt.nd rfl (Or.inl rfl)) (fun _ _ _ _ _ => pts_nil)
          (fun _ _ _ _ _ => pe_meth (pv 0) T.cl mN okN hr bN .nil (passes_call LamX.takes0 (fun _ _ _ _ h => h)) (pa_cons (show PE _ _ (tOp (rIxT K) (tVar 12) (tC (.int 0))) from pe_ix ix_tup (pv 12) pe_int (fun _ _ => rfl)) pa_nil)))
        (pe_lc (own := [("cell", 13)]) (g := gName 13) (tt := tYes) (by rfl) scRt.nd (pi_list (pv 3))
          (blkOk_by (own := [("cell", 13)]) (N := NRt) (sc := defScope sRight) (by decide +kernel))
          (fun _ _ _ _ _ => pg_name (i := 13) scRt.nd rfl (Or.inl rfl)) (fun _ _ _ _ _ => pts_nil)
          (fun _ _ _ _ _ => pe_meth (pv 0) T.cl mL okL hr bL .nil (passes_call LamX.takes0 (fun _ _ _ _ h => h)) (pa_cons (show PE _ _ (tOp (rIxT K) (tVar 13) (tC (.int 0))) from pe_ix ix_tup (pv 13) pe_int (fun _ _ => rfl)) pa_nil)))))
      (pss_one (ps_ret (pe_and (pe_cmpR (op_eqD un) (pv 11) (pe_op op_cat (pe_listRg rfl (by rfl) B.list (prg_1 (by rfl) B.range (pe_callB call_len_seq (by rfl) B.nums.len PySem.boot_len (pa_cons (pv 2) pa_nil))))
          (pe_listRg rfl (by rfl) B.list (prg_1 (by rfl) B.range (pe_callB call_len_seq (by rfl) B.nums.len PySem.boot_len (pa_cons (pv 3) pa_nil))))) (nomark _))
        (pe_one (pe_cmpR op_eq (pe_meth (pv 0) T.cl mP okP hr bP .nil (passes_call LamX.takes0 (fun _ _ _ _ h => h)) (pa_cons pe_str pa_nil)) (pe_op op_sub pe_int pe_int) (nomark _))))))))))), ?_⟩
    obtain ⟨dx, tp, td, tc, D1, D2, D3, te, tq, tk, vd, vc, ve, k1, k2, k3, n⟩ := hx
    have line : (100 : Nat) ≤ sizeLine := by decide
    have p8 := g.p8
    have d12 := g.d12
    have c8 := g.c8
    have lld := paired_len pd
    have llc := paired_len pc
    refine seq_set ⟨_, rfl, b, rfl, ⟨_, SqL.of hd⟩, fun D4 n4 => lc_list (xs := ld) (fun i H' => Same H H' ∧ ∃ acc, H' D4 = some (.lst acc) ∧ Paired (PrAt H') acc ((h.doors.take i).map (endP h.parts))) ⟨same_upd n4, [], upd_same, .nil⟩ (fun i H' _ z => SqL.of (z.1 _ _ hd)) ?_ ?_⟩
    · rintro i x H1 hx ⟨s1, acc, at_D, pa⟩
      obtain ⟨d, hdi, t, rfl, et⟩ := paired_get pd hx
      have la := paired_len pa
      rw [List.length_map, List.length_take] at la
      obtain ⟨g1, g2, _⟩ := g.ends d (List.mem_of_getElem? hdi)
      refine ⟨rfl, kept ⟨_, rfl, _, rfl, t, _, _, V.str d.one, rfl, rfl, SqT.of (s1 _ _ et), atI_nat (j := 1) rfl, a, h.parts, d.one, rfl, s1 _ _ hp, g1, _, rfl, _, rfl, t, _, _, V.str d.two, rfl, rfl, SqT.of (s1 _ _ et), atI_nat (j := 2) rfl, a, h.parts, d.two, rfl, s1 _ _ hp, g2, by show 2 ≤ sizeLine; decide, fun u nu => ?_⟩⟩
      have s2 := same_upd (o := .tup [.int (endN h.parts d.one), .int (endN h.parts d.two)]) nu
      refine ⟨acc, s2 _ _ at_D, by omega, fun b x e => ?_, _, upd_same, ?_⟩
      · rw [upd_ne (ne_of_none e n4)]
        exact s2 _ _ (s1 _ _ e)
      · obtain ⟨hl, rfl⟩ := List.getElem?_eq_some_iff.mp hdi
        have at2 := s2 _ _ at_D
        rw [List.take_succ_eq_append_getElem hl, List.map_append]
        refine paired_snoc (paired_mono (fun _ _ ⟨t, e, et⟩ => ⟨t, e, by rw [upd_ne (ne_of (s2 _ _ et) at2 (fun z => by cases z))]; exact s2 _ _ et⟩) pa) ⟨u, rfl, ?_⟩
        rw [upd_ne (ne_of upd_same at2 (fun z => by cases z))]
        exact upd_same
    rintro H1 ⟨s1, v4, at4, pr4⟩
    rw [lld, List.take_length] at pr4
    refine seq_set ⟨_, rfl, c, rfl, ⟨_, SqL.of (s1 _ _ hc)⟩, fun D5 n5 => lc_list (xs := lc) (fun i H' => Same H1 H' ∧ H' D5 = some (.lst (((h.cells.take i).map fun c => endN h.parts c.p).map V.int))) ⟨same_upd n5, upd_same⟩ (fun i H' _ z => SqL.of (z.1 _ _ (s1 _ _ hc))) ?_ ?_⟩
    · rintro i x H2 hx ⟨s2, at_D⟩
      obtain ⟨d, hdi, t, rfl, et⟩ := paired_get pc hx
      refine ⟨rfl, kept ⟨_, rfl, _, rfl, t, _, _, V.str d.p, rfl, rfl, SqT.of (s2 _ _ (s1 _ _ et)), atI_nat (j := 1) rfl, a, h.parts, d.p, rfl, s2 _ _ (s1 _ _ hp), .inr (g.cin d (List.mem_of_getElem? hdi)), ?_⟩⟩
      obtain ⟨hl, rfl⟩ := List.getElem?_eq_some_iff.mp hdi
      refine ⟨_, at_D, by rw [List.length_map, List.length_map, List.length_take]; omega, fun b x e => ?_, ?_⟩
      · rw [upd_ne (ne_of_none e n5)]
        exact s2 _ _ e
      · rw [upd_same, List.take_succ_eq_append_getElem hl]
        simp only [List.map_append]
        rfl
    rintro H2 ⟨s2, at5⟩
    rw [llc, List.take_length] at at5
    have s12 := s1.trans s2
    refine ⟨_, rfl, o, C, dx, _, _, rfl, s12 _ _ n.ins, T.cl, T.n7, rfl, _, rfl, D4, _, rfl, .inl ⟨SqL.of (s2 _ _ at4), fun t4 nt4 => nelay (lay_prs (h.doors.map (endP h.parts))) (by decide) (.tup (SqT.of (same_upd nt4 _ _ (s12 _ _ n.ea))) (dps_prs (prs_same (s12.trans (same_upd nt4)) (prs_of n.ep)))) (.tup (SqT.of upd_same) (dps_prs (prs_same (s2.trans (same_upd nt4)) pr4))) ⟨_, rfl, iteF ?_⟩⟩⟩
    have s3 := same_upd (o := .tup v4) nt4
    revert s3
    generalize upd H2 t4 (.tup v4) = H3
    intro s3
    have s13 := s12.trans s3
    have qa : H tq = some (.tup ((h.cells.map fun c => endN h.parts c.p).map V.int)) := by rw [List.map_map]; exact n.qa
    have ka : H tk = some (.tup ((h.cells.map fun c => c.k).map V.bl)) := by rw [List.map_map]; exact n.ka
    refine ⟨_, rfl, o, C, dx, _, _, rfl, s13 _ _ n.ins, T.cl, T.n8, rfl, _, rfl, D5, _, rfl, .inl ⟨SqL.of (s3 _ _ at5), fun t5 nt5 => nelay (lay_ints (h.cells.map fun c => endN h.parts c.p)) (by decide) (.tup (SqT.of (same_upd nt5 _ _ (s13 _ _ qa))) (dps_ints _)) (.tup (SqT.of upd_same) (dps_ints _)) ⟨_, rfl, iteF ?_⟩⟩⟩
    have s4 := same_upd (o := .tup ((h.cells.map fun c => endN h.parts c.p).map V.int)) nt5
    revert s4
    generalize upd H3 t5 (.tup ((h.cells.map fun c => endN h.parts c.p).map V.int)) = H4
    intro s4
    have s14 := s13.trans s4
    have s24 := (s3.trans s4)
    refine ⟨_, rfl, o, C, dx, _, _, rfl, s14 _ _ n.ins, T.cl, T.n9, rfl, ?_⟩
    refine cb_one (comp_ixL (i := 13) (j := 2) (ws := lc) (ys := (h.cells.map fun c => c.k).map V.bl) (fun R r => ⟨_, rfl, r _ c (Same.refl _) (s14 _ _ hc)⟩) (by omega) (by rw [List.map_map]; exact paired_map' _ pc fun v d _ ⟨t, e, et⟩ => ⟨t, _, e, s14 _ _ et, atI_nat (j := 2) rfl⟩) (by intro; rfl) (by intro; rfl) fun H5 D6 s5 n6 at6 => ?_)
    refine ⟨D6, _, rfl, .inl ⟨SqL.of at6, fun t6 nt6 => nelay (lay_bols (h.cells.map fun c => c.k)) (by decide) (.tup (SqT.of (same_upd nt6 _ _ (s5 _ _ (s14 _ _ ka)))) (dps_bols _)) (.tup (SqT.of upd_same) (dps_bols _)) ⟨_, rfl, iteF ?_⟩⟩⟩
    have s6 := same_upd (o := .tup ((h.cells.map fun c => c.k).map V.bl)) nt6
    show Ends.nx _ _ (upd H5 t6 (.tup ((h.cells.map fun c => c.k).map V.bl)))
    revert s6
    generalize upd H5 t6 (.tup ((h.cells.map fun c => c.k).map V.bl)) = H6
    intro s6
    have s16 := (s14.trans s5).trans s6
    have s26 := ((s24.trans s5).trans s6)
    have at4' := s26 _ _ (s2 _ _ at4)
    have at5' := s26 _ _ at5
    have pr4' := prs_same (s2.trans s26) pr4
    refine ⟨_, _, rfl, rfl, _, rfl, a, _, rfl, .inl (SqL.of (s16 _ _ hp)), ?_⟩
    have pe0 := prs_of n.ep
    generalize hprs : h.doors.map (endP h.parts) = prs at pr4' pe0
    have lprs : prs.length = h.doors.length := by rw [← hprs, List.length_map]
    have lv4 := paired_len pr4'
    generalize hq : (h.cells.map fun c => endN h.parts c.p) = qs at at5' qa
    have lqs : qs.length = h.cells.length := by rw [← hq, List.length_map]
    refine ⟨_, _, rfl, ⟨by decide, by decide, by rw [List.length_map]; omega, by rw [List.length_map]; omega⟩, for_range (fun i σ H' => ∃ w6 w7 w8 w9 : Option V, σ = [some (.ref o), some (.ref a), some (.ref b), some (.ref c), some (.ref D4), some (.ref D5), w6, w7, w8, w9, none, none, none, none, none, none] ∧ Same H6 H') ⟨_, _, _, _, rfl, Same.refl _⟩ ?_ ?_⟩
    · rintro i σ G0 hi ⟨w6, w7, w8, w9, rfl, r0⟩
      generalize (0 - 1 + (i : Int) : Int) = sp
      have q0 := s16.trans r0
      refine ⟨_, rfl, o, dx, _, rfl, q0 _ _ n.ins, rfl, _, rfl, o, dx, te, sp, _, ve, prs, rfl, q0 _ _ n.ins, rfl, q0 _ _ n.ea, prs_same q0 pe0, by omega, fun G1 t1 r1 et1 => ?_⟩
      have r01 := r0.trans r1
      have prG1 := prs_same r01 pr4'
      refine cb_one (en_lc (a := D4) (xs := v4) (fun D m H' => Same G1 H' ∧ H' D = some (.lst (ixsV (inPr sp) 0 (prs.take m)))) (fun R r => ⟨_, rfl, r⟩) (.inl (r01 _ _ at4')) (fun D nD => ⟨same_upd nD, upd_same⟩) (fun D i H' nD _ z => z.1 _) ?_ ?_)
      · rintro D j x H' T1 nD hx ⟨u1, at_D⟩ nT
        obtain ⟨p, hp', t, rfl, et⟩ := paired_get prG1 hx
        have u2 := same_upd (o := .tup [.int (j : Nat), .ref t]) nT
        have la := ixsV_len (inPr sp) 0 (prs.take j)
        rw [List.length_take] at la
        have lt : j < prs.length := (List.getElem?_eq_some_iff.mp hp').1
        refine ⟨T1, _, rfl, SqT.of upd_same, rfl, _, _, rfl, _, _, rfl, ⟨rfl, rfl, _, rfl, _, rfl, t, _, rfl, .inr (SqT.of (u2 _ _ (u1 _ _ et))), rfl, rfl, _, rfl, ?_⟩⟩
        have e1 := ixsV_take (f := inPr sp) hp'
        refine ite2 (fun hb => ?_) (fun hb => ?_)
        · refine ⟨_, rfl, _, u2 _ _ at_D, by omega, fun b u e => ?_, ?_⟩
          · rw [upd_ne (ne_of_none e nD)]
            exact u2 _ _ (u1 _ _ e)
          · rw [e1, if_pos (show inPr sp p = true from hb)]
            exact upd_same
        · refine ⟨u1.trans u2, ?_⟩
          rw [e1, if_neg (show ¬ inPr sp p = true from hb), List.append_nil]
          exact u2 _ _ at_D
      rintro D H' nD ⟨r2, at_D⟩
      rw [lv4, List.take_length] at at_D
      obtain ⟨ns, ens⟩ := ixsV_ints (inPr sp) 0 prs
      rw [ens] at at_D et1
      refine ⟨D, _, rfl, .inl ⟨SqL.of at_D, fun t2 nt2 => nelay (lay_ints ns) (by decide) (.tup (SqT.of (same_upd nt2 _ _ (r2 _ _ et1))) (dps_ints _)) (.tup (SqT.of upd_same) (dps_ints _)) ⟨_, rfl, iteF ?_⟩⟩⟩
      have r3 := (r01.trans r2).trans (same_upd (o := .tup (ns.map V.int)) nt2)
      show Ends.nx _ _ (upd H' t2 (.tup (ns.map V.int)))
      revert r3
      generalize upd H' t2 (.tup (ns.map V.int)) = G2
      intro r3
      have q3 := s16.trans r3
      refine ⟨_, rfl, o, dx, _, rfl, q3 _ _ n.ins, rfl, _, rfl, o, dx, tq, sp, _, qs, rfl, q3 _ _ n.ins, rfl, q3 _ _ qa, by omega, fun G3 t3 r4 et3 => ?_⟩
      have r34 := r3.trans r4
      refine cb_one (en_lc (a := D5) (xs := qs.map V.int) (fun D m H' => Same G3 H' ∧ H' D = some (.lst (ixsV (eqI sp) 0 (qs.take m)))) (fun R r => ⟨_, rfl, r⟩) (.inl (r34 _ _ at5')) (fun D nD => ⟨same_upd nD, upd_same⟩) (fun D i H' nD _ z => z.1 _) ?_ ?_)
      · rintro D j x H' T1 nD hx ⟨u1, at_D⟩ nT
        rw [List.getElem?_map] at hx
        obtain ⟨m, hm, rfl⟩ := Option.map_eq_some_iff.mp hx
        have u2 := same_upd (o := .tup [.int (j : Nat), .int m]) nT
        have lt : j < qs.length := (List.getElem?_eq_some_iff.mp hm).1
        have la := ixsV_len (eqI sp) 0 (qs.take j)
        rw [List.length_take] at la
        refine ⟨T1, _, rfl, SqT.of upd_same, rfl, _, _, rfl, _, _, rfl, ⟨rfl, rfl, _, rfl, _, rfl, rfl, _, rfl, ?_⟩⟩
        have e1 := ixsV_take (f := eqI sp) hm
        refine ite2 (fun hb => ?_) (fun hb => ?_)
        · refine ⟨_, rfl, _, u2 _ _ at_D, by omega, fun b u e => ?_, ?_⟩
          · rw [upd_ne (ne_of_none e nD)]
            exact u2 _ _ (u1 _ _ e)
          · rw [e1, if_pos (show eqI sp m = true from hb)]
            exact upd_same
        · refine ⟨u1.trans u2, ?_⟩
          rw [e1, if_neg (show ¬ eqI sp m = true from hb), List.append_nil]
          exact u2 _ _ at_D
      rintro D' H'' nD' ⟨r5, at_D'⟩
      rw [List.length_map, List.take_length] at at_D'
      obtain ⟨ms, ems⟩ := ixsV_ints (eqI sp) 0 qs
      rw [ems] at at_D' et3
      refine ⟨D', _, rfl, .inl ⟨SqL.of at_D', fun t4 nt4 => nelay (lay_ints ms) (by decide) (.tup (SqT.of (same_upd nt4 _ _ (r5 _ _ et3))) (dps_ints _)) (.tup (SqT.of upd_same) (dps_ints _)) ⟨_, rfl, iteF ?_⟩⟩⟩
      have r6 := (r34.trans r5).trans (same_upd (o := .tup (ms.map V.int)) nt4)
      show Ends.nx _ _ (upd H'' t4 (.tup (ms.map V.int)))
      revert r6
      generalize upd H'' t4 (.tup (ms.map V.int)) = G4
      intro r6
      have q6 := s16.trans r6
      refine ⟨_, rfl, D4, rfl, en_for (xs := v4) (fun j σ H' => ∃ w7 w8 w9 : Option V, σ = [some (.ref o), some (.ref a), some (.ref b), some (.ref c), some (.ref D4), some (.ref D5), some (.int sp), w7, w8, w9, none, none, none, none, none, none] ∧ Same H6 H') (.inl (r6 _ _ at4')) ⟨_, _, _, rfl, r6⟩ (fun j σ' H' _ z => ?_) ?_ ?_⟩
      · obtain ⟨_, _, _, _, s'⟩ := z
        exact fun o e => by
          rw [r6 _ _ at4'] at e
          cases e
          exact s' _ _ at4'
      · rintro j x σ' K1 T1 hx ⟨w7', w8', w9', rfl, r7⟩ nT
        have r8 := r7.trans (same_upd (o := .tup [.int (j : Nat), x]) nT)
        obtain ⟨p, hp', t, rfl, et⟩ := paired_get pr4' hx
        obtain ⟨x', hx', t', rfl, et'⟩ := paired_get_r pe0 hp'
        have q8 := s16.trans r8
        refine ⟨T1, _, rfl, SqT.of upd_same, rfl, _, _, rfl, _, _, rfl, t, _, rfl, SqT.of (r8 _ _ et), rfl, _, _, rfl, _, _, rfl, rfl, rfl, ?_⟩
        refine ⟨_, rfl, o, dx, _, rfl, q8 _ _ n.ins, rfl, _, rfl, _, rfl, o, dx, te, t', j, sp, p.1, p.2, _, ve, rfl, q8 _ _ n.ins, rfl, q8 _ _ n.ea, hx', q8 _ _ et', ?_⟩
        refine ⟨_, rfl, _, rfl, rfl, _, rfl, ?_⟩
        have done : ∃ w7 w8 w9 : Option V, [some (V.ref o), some (V.ref a), some (V.ref b), some (V.ref c), some (V.ref D4), some (V.ref D5), some (V.int sp), some (V.int (j : Nat)), some (V.int p.1), some (V.int p.2), none, none, none, none, none, none] = [some (.ref o), some (.ref a), some (.ref b), some (.ref c), some (.ref D4), some (.ref D5), some (.int sp), w7, w8, w9, none, none, none, none, none, none] ∧ Same H6 (upd K1 T1 (.tup [.int (j : Nat), .ref t])) := ⟨_, _, _, rfl, r8⟩
        unfold farV
        refine ite2 (fun hb => ?_) (fun hb => ?_)
        · rw [if_pos (by simpa using hb)]
          exact ⟨_, rfl, nelay (Lay.int p.2) (by decide) (.int _) (.int _) ⟨_, rfl, iteF done⟩⟩
        · rw [if_neg (by simpa using hb)]
          refine ⟨_, rfl, _, rfl, rfl, _, rfl, ?_⟩
          refine ite2 (fun hc => ?_) (fun hc => ?_)
          · rw [if_pos (by simpa using hc)]
            exact ⟨_, rfl, nelay (Lay.int p.1) (by decide) (.int _) (.int _) ⟨_, rfl, iteF done⟩⟩
          · rw [if_neg (by simpa using hc)]
            exact c_of (nelay Lay.non (by decide) .non .non ⟨_, rfl, iteF done⟩)
      · rintro σ' K1 ⟨w7', w8', w9', rfl, r7⟩
        exact ⟨_, _, _, _, rfl, r7⟩
    · rintro σ G0 ⟨w6, w7, w8, w9, rfl, r0⟩
      have q0 := s16.trans r0
      refine ⟨_, rfl, a, rfl, en_for (xs := h.parts.map V.str) (fun j σ H' => ∃ w7 w10 : Option V, σ = [some (.ref o), some (.ref a), some (.ref b), some (.ref c), some (.ref D4), some (.ref D5), w6, w7, w8, w9, w10, none, none, none, none, none] ∧ Same H6 H') (.inl (q0 _ _ hp)) ⟨_, _, rfl, r0⟩ (fun j σ' H' _ z => ?_) ?_ ?_⟩
      · obtain ⟨_, _, _, s'⟩ := z
        exact fun o e => by
          rw [q0 _ _ hp] at e
          cases e
          exact (s16.trans s') _ _ hp
      · rintro j x σ' K1 T1 hx ⟨w7', w10', rfl, r7⟩ nT
        have r8 := r7.trans (same_upd (o := .tup [.int (j : Nat), x]) nT)
        have q8 := s16.trans r8
        rw [List.getElem?_map] at hx
        obtain ⟨y, hy, rfl⟩ := Option.map_eq_some_iff.mp hx
        obtain ⟨hl, rfl⟩ := List.getElem?_eq_some_iff.mp hy
        have mem := List.getElem_mem hl
        refine ⟨T1, _, rfl, SqT.of upd_same, rfl, _, _, rfl, _, _, rfl, rfl, ?_⟩
        refine ⟨_, rfl, o, dx, _, rfl, q8 _ _ n.ins, rfl, _, rfl, o, dx, D1, _, h.parts, _, k1, rfl, q8 _ _ n.ins, rfl, q8 _ _ n.n1, n.m1, .inl ⟨_, rfl, .inr mem, _, rfl, rfl, _, rfl, ?_⟩⟩
        have nout : h.parts[j] ≠ "out" := fun z => by
          have := gh_parts g _ mem
          rw [z] at this
          exact absurd this (by decide +kernel)
        have e : endN h.parts h.parts[j] = (j : Nat) := by
          unfold endN
          rw [if_neg nout, (parts_good g).nodup.idxOf_getElem j hl]
        rw [e, decide_eq_true rfl]
        refine iteF ?_
        exact ⟨_, _, rfl, r8⟩
      · rintro σ' K1 ⟨w7', w10', rfl, r7⟩
        have q7 := s16.trans r7
        refine ⟨_, rfl, b, rfl, ⟨_, SqL.of (q7 _ _ hd)⟩, fun D6 m6 => lc_list (xs := ld) (fun i H' => Same K1 H' ∧ H' D6 = some (.lst (rowN i))) ⟨same_upd m6, upd_same⟩ (fun i H' _ z => SqL.of (z.1 _ _ (q7 _ _ hd))) ?_ ?_⟩
        · rintro i x K2 hx ⟨u1, at_D⟩
          obtain ⟨d, hdi, t, rfl, et⟩ := paired_get pd hx
          obtain ⟨hl, rfl⟩ := List.getElem?_eq_some_iff.mp hdi
          have q := q7.trans u1
          have mem : h.doors[i].n ∈ h.doors.map (·.n) := List.mem_map.mpr ⟨_, List.getElem_mem hl, rfl⟩
          refine ⟨rfl, kept ⟨_, rfl, o, dx, _, rfl, q _ _ n.ins, rfl, _, rfl, t, _, _, V.str h.doors[i].n, rfl, rfl, SqT.of (q _ _ et), atI_nat (j := 0) rfl, o, dx, D2, _, h, _, k2, rfl, q _ _ n.ins, rfl, q _ _ n.n2, n.m2, .inl ⟨_, rfl, mem, _, at_D, by rw [rowN_len]; omega, fun b x e => ?_, ?_⟩⟩⟩
          · rw [upd_ne (ne_of_none e m6)]
            exact u1 _ _ e
          · have e : (h.doors.map (·.n)).idxOf h.doors[i].n = i := by
              have := (nodup_doors g).idxOf_getElem i (by rw [List.length_map]; exact hl)
              rwa [List.getElem_map] at this
            rw [upd_same, rowN_succ, e]
        rintro K2 ⟨u1, at_D6⟩
        refine ⟨_, rfl, c, rfl, ⟨_, SqL.of (u1 _ _ (q7 _ _ hc))⟩, fun D7 m7 => lc_list (xs := lc) (fun i H' => Same K2 H' ∧ H' D7 = some (.lst (rowN i))) ⟨same_upd m7, upd_same⟩ (fun i H' _ z => SqL.of (z.1 _ _ (u1 _ _ (q7 _ _ hc)))) ?_ ?_⟩
        · rintro i x K3 hx ⟨u2, at_D⟩
          obtain ⟨d, hdi, t, rfl, et⟩ := paired_get pc hx
          obtain ⟨hl, rfl⟩ := List.getElem?_eq_some_iff.mp hdi
          have q := (q7.trans u1).trans u2
          have mem : h.cells[i].n ∈ h.cells.map (·.n) := List.mem_map.mpr ⟨_, List.getElem_mem hl, rfl⟩
          refine ⟨rfl, kept ⟨_, rfl, o, dx, _, rfl, q _ _ n.ins, rfl, _, rfl, t, _, _, V.str h.cells[i].n, rfl, rfl, SqT.of (q _ _ et), atI_nat (j := 0) rfl, o, dx, D3, _, h, _, k3, rfl, q _ _ n.ins, rfl, q _ _ n.n3, n.m3, .inl ⟨_, rfl, mem, _, at_D, by rw [rowN_len]; omega, fun b x e => ?_, ?_⟩⟩⟩
          · rw [upd_ne (ne_of_none e m7)]
            exact u2 _ _ e
          · have e : (h.cells.map (·.n)).idxOf h.cells[i].n = i := by
              have := (nodup_cells g).idxOf_getElem i (by rw [List.length_map]; exact hl)
              rwa [List.getElem_map] at this
            rw [upd_same, rowN_succ, e]
        rintro K3 ⟨u2, at_D7⟩
        refine ⟨_, _, _, _, rfl, rfl, u2 _ _ at_D6, at_D7, by rw [rowN_len, rowN_len]; omega, fun u nu => ?_⟩
        have u3 := same_upd (o := .lst (rowN ld.length ++ rowN lc.length)) nu
        have at_u : upd K3 u (.lst (rowN ld.length ++ rowN lc.length)) u = some (.lst (rowN ld.length ++ rowN lc.length)) := upd_same
        revert u3 at_u
        generalize upd K3 u (.lst (rowN ld.length ++ rowN lc.length)) = K4
        intro u3 at_u
        have q4 := ((q7.trans u1).trans u2).trans u3
        refine ⟨_, rfl, _, rfl, b, _, rfl, .inl (SqL.of (q4 _ _ hd)), _, rfl, RgOk.of_le (by omega) (by omega) (by omega) (by omega), fun y ny => ?_⟩
        rw [rg_row]
        have u4 := same_upd (o := .lst (rowN ld.length)) ny
        refine ⟨_, rfl, c, _, rfl, .inl (SqL.of ((q4.trans u4) _ _ hc)), _, rfl, RgOk.of_le (by omega) (by omega) (by omega) (by omega), fun y2 ny2 => ?_⟩
        rw [rg_row]
        have u5 := same_upd (o := .lst (rowN lc.length)) ny2
        refine ⟨_, _, _, _, rfl, rfl, u5 _ _ upd_same, upd_same, by rw [rowN_len, rowN_len]; omega, fun y3 ny3 => ?_⟩
        have u6 := same_upd (o := .lst (rowN ld.length ++ rowN lc.length)) ny3
        have e : rowN ld.length ++ rowN lc.length = (((List.range ld.length).map fun i => ((i : Nat) : Int)) ++ ((List.range lc.length).map fun i => ((i : Nat) : Int))).map V.int := by
          rw [row_ints, row_ints, List.map_append]
        have at_u6 := u6 _ _ (u5 _ _ (u4 _ _ at_u))
        have at_y3 : upd (upd (upd K4 y (.lst (rowN ld.length))) y2 (.lst (rowN lc.length))) y3 (.lst (rowN ld.length ++ rowN lc.length)) y3 = some (.lst (rowN ld.length ++ rowN lc.length)) := upd_same
        have q9 := ((q4.trans u4).trans u5).trans u6
        revert at_u6 at_y3 q9
        generalize upd (upd (upd K4 y (.lst (rowN ld.length))) y2 (.lst (rowN lc.length))) y3 (.lst (rowN ld.length ++ rowN lc.length)) = K9
        intro at_u6 at_y3 q9
        rw [e] at at_u6 at_y3
        have lay : Lay.Lay 1 (PyData.list ((((List.range ld.length).map fun i => ((i : Nat) : Int)) ++ ((List.range lc.length).map fun i => ((i : Nat) : Int))).map .int)) := Lay.lst fun x hx => by
          obtain ⟨p, _, rfl⟩ := List.mem_map.mp hx
          exact Lay.int _
        refine eqlay lay (by decide) (.lst (SqL.of at_u6) (dps_ints _)) (.lst (SqL.of at_y3) (dps_ints _)) ⟨_, rfl, iteT ?_⟩
        refine ⟨_, rfl, o, dx, _, rfl, q9 _ _ n.ins, rfl, o, dx, D1, _, h.parts, _, k1, rfl, q9 _ _ n.ins, rfl, q9 _ _ n.n1, n.m1, .inl ⟨_, rfl, .inl rfl, _, _, rfl, rfl, rfl, ?_⟩⟩
        exact k _ q9
end
end K01

namespace K01
open PySem PySem.Spec PyProof.Rows L2
open Cal EnuT Sqx Exn Keys LamX LamY Trt
/-- what can be written by repr -/
structure Shw (K : W.Frag) (H : Hp) (v : V) (d : PyData) : Prop where
  dp : Dp K H v d
  sh : d.showable = true
  nd : d.hasDict = false
  de : d.depth ≤ 20
  sz : d.shown.length ≤ sizeLine
/-- what _law_unknown makes of the work and the name it is given -/
def TTunk (K : W.Frag) (CN : Addr) : V → (XK → Hp → VK → Prop) → Hp → VK → Prop := fun v tl H Q =>
  tl (fun cls d H' => ∃ dd dat, d = some dd ∧ cls = .ref CN ∧ H' dd = some (.xd [("name", v)]) ∧ Shw K H' v dat ∧ Q (.bl true) H') H (fun _ H' => Q (.bl false) H')
abbrev NU : List Str := ["work", "name", "error"]
theorem scUn : FnScope NU ["work", "name"] (defScope sUnknown) := ⟨rfl, rfl, rfl, by decide +kernel, rfl, by decide +kernel, by decide +kernel⟩
theorem unk_gives {X : Cx} {q : Str} {g CN : Addr} {cdg : Value} (cN : CN1 X.prog X.w X.K X.mg X.base CN) (ex : W.exmAny X.K (.ref CN) [.ref CN] = some true) (B : Bl X.mg)
    (gu : X.A.guards = some []) (un : ∀ env, (X.A.deeper env).units + 64 < cLine) : GivesTo2 X NU "_law_unknown" (defScope sUnknown) g cdg (defBody sUnknown) "work" q (TTunk X.K CN) := by
  intro f c' v s H Q tl act hc h
  refine ⟨_, pss_cons (ps_try_manyA (X := (cxOf C8.CX0 X.prog X.w X.K X.mg X.base NU "_law_unknown" (defScope sUnknown) g cdg X.A X.stack s H C8.E0).nox)
      (tb := fun W D σ H => ∃ Ech : XK, (∀ cls d H', Ech cls d H' → W cls d σ H') ∧ σ[0]? = some (some (.ref f)) ∧ H c' = some (CodeO c' q) ∧ tl Ech H (fun _ H1 => D.nx σ H1))
      rfl rfl scUn.nd LamX.takes0 (fun W pn xe tk _ => ?_)
      (.cons (tst_one ⟨rfl, by decide, .inl cN.m⟩) (i := 2) rfl rfl (fun a oe cls d pn hz hf => pss_one (ps_ret (pe_cmpR op_eq (pe_callB (show CallR _ (.builtin "repr") (rRepr X.K) from call_repr (X := (cxOf C8.CX0 X.prog X.w X.K X.mg X.base NU "_law_unknown" (defScope sUnknown) g cdg X.A X.stack s H C8.E0).nox.suite a ((a, oe) :: pn)) gu (un (envOfC "_law_unknown" (defScope sUnknown) s.heap.objs.size g cdg))) (by rfl) B.repr (by decide +kernel) (pa_cons (pe_errF hz hf (pv 2)) pa_nil))
        (pe_callB (show CallR _ (.builtin "repr") (rRepr X.K) from call_repr (X := (cxOf C8.CX0 X.prog X.w X.K X.mg X.base NU "_law_unknown" (defScope sUnknown) g cdg X.A X.stack s H C8.E0).nox.suite a ((a, oe) :: pn)) gu (un (envOfC "_law_unknown" (defScope sUnknown) s.heap.objs.size g cdg))) (by rfl) B.repr (by decide +kernel) (pa_cons (pv 1) pa_nil)) (nomark _)))) .nil)) (pss_one (ps_ret pe_bl)), ?_⟩
  · refine ⟨fun pins s' σ H' D I h' => ?_⟩
    obtain ⟨Ech, hW, h1, h2, h3⟩ := h'
    exact (pss_one (ps_expr (act _ pn xe Ech _ _ tk))).run pins s' σ H' D I ⟨h1, h2, hW, h3⟩
  · refine ⟨_, fun cls d H' z => ?_, rfl, hc, h⟩
    obtain ⟨dd, dat, rfl, rfl, hd, sw, q⟩ := z
    refine ⟨true, ex, fun _ a na => ?_, fun z => nomatch z⟩
    refine ⟨⟨CN, rfl, cN.T.xf, cN.no⟩, _, rfl, rfl, dd, _, v, rfl, hd, rfl, v, dat, rfl, sw.dp, sw.sh, sw.nd, sw.de, sw.sz, _, rfl, v, dat, rfl, sw.dp, sw.sh, sw.nd, sw.de, sw.sz, rfl, ?_⟩
    rw [decide_eq_true rfl]
    exact q
/-- _law_unknown(lambda: .., name), by its name in the module -/
structure Unk (P : Program) (w : World) (K : W.Frag) (mg : Str → Option Value) (base : Heap) (CN : Addr) : Prop where
  cn : CN1 P w K mg base CN
  ex : W.exmAny K (.ref CN) [.ref CN] = some true
  bl : Bl mg
  at_ : ∃ (g : Addr) (oc : Value) (od : Option Addr) (kV doc pm : Value) (an : Option Addr) (cdv ct : Value) (osl : Array (Option Value)), mg "_law_unknown" = some (.ref g) ∧ W.keepIn K (.ref g) = true ∧
    K.lookup g = some ⟨oc, od, .func (W.fnOf "_law_unknown" "_law_unknown" (defArgs sUnknown) (defBody sUnknown) (defScope sUnknown) .none kV doc pm an cdv ct), osl⟩ ∧ W.codeIn K cdv "_law_unknown" = true
theorem pe_unk {X : Cx} {CN c P : Addr} {T : List (Addr × Str)} {k : Nat} {params : Arguments} {body e2 : Expr} {scope : Scope} {t : XK → TE} {te : TE} {p lpos pos : Pos} (R : Unk X.prog X.w X.K X.mg X.base CN) (hg : Gl X "_law_unknown") (gu : X.A.guards = some [])
    (TB : TabB X.base X.mg c P) (hcode : X.env.code = .ref c) (hmT : (P, X.env.qual ++ "<lambda>") ∈ T) (hu : ∀ p ∈ T, p.1 = P → p.2 = X.env.qual ++ "<lambda>") (hr : Room (k + 2) X.A) (L : LamS X.env.scope scope) (hdef : defaultsOf params X.env = ([], []))
    (hbind : ∀ (q : Str) (cl : List (Str × Addr)) (pm cv ctv : Value), bindArgs (W.kla_fn "<lambda>" q params body scope cl pm cv ctv) ⟨[], []⟩ = pure [])
    (hbody : ∀ (A : Around) (outer : List Env) (s : Shared) (H : Hp) (E : XK) (f c' : Addr), Room k (A.deeper (lamEnv X scope s.heap.objs.size f c')) → PE (lamCx X A outer s H E scope f c') body (t E)) (he : PE X e2 te)
    (hs2 : starEach [e2] X.env = (false, eval e2 X.env) :: starEach [] X.env := by rfl) :
    PE X (.Call (.Name "_law_unknown" p) [.Lambda params body scope lpos, e2] [] pos) (tLam2 T (TTunk X.K CN) t te) := by
  obtain ⟨g, oc, od, kV, doc, pm, an, cdv, ct, osl, m, kp, lk, hcd⟩ := R.at_
  exact pe_lamcall2 (a := "work") (b := "name") hg m kp lk hcd (.all fun us hl => match us, hl with | [_, _], _ => rfl) scUn rfl (.inl rfl) (unk_gives R.cn R.ex R.bl gu fun env => (hr.deeper env).units) TB hcode hmT hu hr L hdef hbind hbody he (by decide) (by decide) (by decide) hs2
end K01

namespace K01
open PySem PySem.Spec PyProof.Rows L2
open Cal EnuT Sqx Exn Keys LamX LamY Trt Gvx
/-- a house asked for cells of which the last is none of its own -/
def TTkr (K : W.Frag) (C : Addr) : List V → Hp → VK → Prop := fun vs H Q => ∃ (o a : Addr) (h : Hs) (ns : List Str) (v : V) (dat : PyData), vs = [.ref o, .ref a] ∧ HouseX H C o h ∧ GoodH h ∧ H a = some (.lst (ns.map V.str ++ [v])) ∧ (∀ n, n ∈ ns → n ∈ h.cells.map (·.n)) ∧ ns.length ≤ 19 ∧
  Miss H (h.cells.map (·.n)) v ∧ (∀ H', Same H H' → Shw K H' v dat) ∧ ∀ H', Same H H' → Q (.str dat.shown) H'
abbrev NKr : List Str := ["house", "names", "error"]
theorem scKr : FnScope NKr ["house", "names"] (defScope sKeptRef) := ⟨rfl, rfl, rfl, by decide +kernel, rfl, by decide +kernel, by decide +kernel⟩
structure KeptC (P : Program) (w : World) (K : W.Frag) (mg : Str → Option Value) (base : Heap) (C CN : Addr) : Prop where
  cl : Cls K C
  wk : ∃ f fd, Meth K C "with_kept" f ∧ Binds K fd ["self", "names"] [] ∧ FnOk P w K mg base (L2.CX P w) 6 f fd ["self", "names"] (spWithKept C CN)
theorem keptref_runs {X : Cx} {g C CN : Addr} {cdg : Value} (cN : CN1 X.prog X.w X.K X.mg X.base CN) (ex : W.exmAny X.K (.ref CN) [.ref CN] = some true) (B : Bl X.mg) (D : KeptC X.prog X.w X.K X.mg X.base C CN)
    (gu : X.A.guards = some []) (s : Shared) (H : Hp) (Q : VK) (vs : List V) (hr : Room 6 (X.A.deeper (envOfC "_law_kept_refused" (defScope sKeptRef) s.heap.objs.size g cdg))) (h : TTkr X.K C vs H Q) :
    ∃ t, PSs (cxOf C8.CX0 X.prog X.w X.K X.mg X.base NKr "_law_kept_refused" (defScope sKeptRef) g cdg X.A X.stack s H C8.E0).nox (defBody sKeptRef) t ∧ t { nx := fun _ H' => Q .non H', rt := Q } (L2.start NKr vs) H := by
  obtain ⟨o, a, hs, ns, v, dat, rfl, hx, good, ha, sub, few, miss, sw, q⟩ := h
  obtain ⟨f, fd, mt, bd, okf⟩ := D.wk
  have un := hr.units
  refine ⟨_, pss_cons (ps_try_manyA (X := (cxOf C8.CX0 X.prog X.w X.K X.mg X.base NKr "_law_kept_refused" (defScope sKeptRef) g cdg X.A X.stack s H C8.E0).nox)
      (tb := fun W D σ H0 => ∃ Ech : XK, (∀ cls d σ' H', σ'.length = 3 → Ech cls d H' → W cls d σ' H') ∧ tMeth C "with_kept" (spWithKept C CN) [] Ech (tVar 0) (tCons (tVar 1) tNil) σ H0 fun _ H1 => D.nx σ H1)
      rfl rfl scKr.nd LamX.takes0 (fun W pn xe tk _ => ?_)
      (.cons (tst_one ⟨rfl, by decide, .inl cN.m⟩) (i := 2) rfl rfl (fun a oe cls d pn hz hf => pss_one (ps_ret (pe_callB (show CallR _ (.builtin "repr") (rRepr X.K) from call_repr (X := (cxOf C8.CX0 X.prog X.w X.K X.mg X.base NKr "_law_kept_refused" (defScope sKeptRef) g cdg X.A X.stack s H C8.E0).nox.suite a ((a, oe) :: pn)) gu un) (by rfl) B.repr (by decide +kernel) (pa_cons (pe_errF hz hf (pv 2)) pa_nil)))) .nil)) (pss_one (ps_ret pe_non)), ?_⟩
  · refine ⟨fun pins s' σ H' D' I h' => ?_⟩
    obtain ⟨Ech, hW, h1⟩ := h'
    exact (pss_one (ps_expr (X := (cxOf C8.CX0 X.prog X.w X.K X.mg X.base NKr "_law_kept_refused" (defScope sKeptRef) g cdg X.A X.stack s H C8.E0).nox.tr pn xe) (pe_meth (X := (cxOf C8.CX0 X.prog X.w X.K X.mg X.base NKr "_law_kept_refused" (defScope sKeptRef) g cdg X.A X.stack s H C8.E0).nox.tr pn xe) (pv 0) D.cl mt okf hr bd .nil (passes_call (takes_len tk) (fun cls d σ' H' e l => hW cls d σ' H' l e)) (pa_cons (pv 1) pa_nil)))).run pins s' σ H' D' I h1
  · refine ⟨fun cls d H' => Same H H' ∧ cls = .ref CN ∧ ∃ dd, d = some dd ∧ H' dd = some (.xd [("name", v)]), ?_, ?_⟩
    · rintro cls d σ' H' hl ⟨s1, rfl, dd, rfl, hd⟩
      match σ', hl with
      | [w0, w1, w2], _ =>
        have w := sw H' s1
        exact ⟨true, ex, fun _ a na => ⟨⟨CN, rfl, cN.T.xf, cN.no⟩, _, rfl, rfl, dd, _, v, rfl, hd, rfl, v, dat, rfl, w.dp, w.sh, w.nd, w.de, w.sz, q H' s1⟩, fun z => nomatch z⟩
    · obtain ⟨dx, tp, td, tc, D1, D2, D3, te, tq, tk, vd, vc, ve, k1, k2, k3, n⟩ := hx
      refine ⟨_, rfl, o, dx, _, rfl, n.ins, rfl, _, rfl, o, a, hs, ns, [v], rfl, ⟨dx, tp, td, tc, D1, D2, D3, te, tq, tk, vd, vc, ve, k1, k2, k3, n⟩, good, ha, sub, by show ns.length + 1 ≤ 20; omega, .inr ⟨v, [], rfl, miss, fun H' d s1 nd e => ⟨s1, rfl, d, rfl, e⟩⟩⟩
end K01

namespace K01
open PySem PySem.Spec PyProof.Rows L2
open Cal EnuT Sqx Exn Keys Gvx
def spKR (C : Addr) : Sp := fun vs H Q _ => ∃ (p o a b c : Addr) (h : Hs), vs = [.ref p, .ref o, .ref a, .ref b, .ref c] ∧ Box H p ∧ HouseX H C o h ∧ HsAt H h a b c ∧ Good h ∧ ∀ H', But p H H' → Box H' p → Q (.bl true) H'
abbrev NKk : List Str := ["box", "house", "parts", "doors", "cells", "chosen", "other", "told", "cell"]
theorem HouseN.but {H H' : Hp} {p C o : Addr} {h : Hs} {dx tp td tc D1 D2 D3 te tq tk : Addr} {vd vc ve : List V} {k1 k2 k3 : List (Key × V)} (n : HouseN H C o h dx tp td tc D1 D2 D3 te tq tk vd vc ve k1 k2 k3) (b : But p H H') (x : Box H p) : HouseN H' C o h dx tp td tc D1 D2 D3 te tq tk vd vc ve k1 k2 k3 := by
  have nt : ∀ {a xs}, H a = some (.tup xs) → H' a = some (.tup xs) := fun {a xs} e => b _ _ (x.ne e (fun _ _ _ z => by cases z)) e
  have nk : ∀ {a xs}, H a = some (.dK xs) → H' a = some (.dK xs) := fun {a xs} e => b _ _ (x.ne e (fun _ _ _ z => by cases z)) e
  exact {
    ins := b _ _ (x.ne n.ins (fun _ _ _ z => by cases z)) n.ins
    pa := nt n.pa
    da := nt n.da
    dp := paired_mono (fun _ _ r => r.mono fun c ec => nt ec) n.dp
    ca := nt n.ca
    cp := paired_mono (fun _ _ r => r.mono fun c ec => nt ec) n.cp
    n1 := nk n.n1
    m1 := n.m1
    n2 := nk n.n2
    m2 := n.m2
    n3 := nk n.n3
    m3 := n.m3
    ea := nt n.ea
    ep := paired_mono (fun _ _ ⟨t, e, et⟩ => ⟨t, e, nt et⟩) n.ep
    qa := nt n.qa
    ka := nt n.ka }
theorem n16_str {x : Str} (h : x ∈ N16) : PyData.strOk x = true := by
  have : N16.all PyData.strOk = true := by decide +kernel
  exact List.all_eq_true.mp this x h
theorem end_str {h : Hs} (g : Good h) {x : Str} (e : EndIn h.parts x) : PyData.strOk x = true := by
  rcases e with rfl | e
  · decide +kernel
  · exact n16_str (good_parts g x e)
theorem Good.ok {h : Hs} (g : Good h) : Ok h where
  p := fun x hx => n16_str (good_parts g x hx)
  d := fun d hd => ⟨n16_str (good_doors g d hd), end_str g (g.ends d hd).1, end_str g (g.ends d hd).2.1⟩
  c := fun c hc => ⟨n16_str (good_cells g c hc), n16_str (good_parts g _ (g.cin c hc))⟩
section
variable {P : Program} {w : World} {K : W.Frag} {mg : Str → Option Value} {base : Heap}
theorem scKk : FnScope NKk ["box", "house", "parts", "doors", "cells"] (defScope sKeptRight) := ⟨rfl, rfl, rfl, by decide +kernel, rfl, by decide +kernel, by decide +kernel⟩
theorem ok_keptright {f C CN : Addr} {fd : FuncData} (F : Fun K "_law_kept_right" "_law_kept_right" sKeptRight f fd) (B : Bl mg) (T : HC2 K C) (D : KeptC P w K mg base C CN)
    (Tk : Callee P w K mg base "_law_take" 1 ["box", "many"] spTake) (M : Callee P w K mg base "_law_mixed" 2 ["box", "some"] spMixed) : FnOk P w K mg base CX0 7 f fd ["box", "house", "parts", "doors", "cells"] (spKR C) := by
  refine F.ok scKk (fun vs H Q E h => ?_) (fun cdv A outer s H vs Q E hr h => ?_)
  · obtain ⟨p, o, a, b, c, h, rfl, _⟩ := h
    rfl
  · obtain ⟨p, o, a, b, c, h, rfl, hB, hx, hs, g, k⟩ := h
    have hr1 := hr.mono (show 1 ≤ 6 by decide)
    have hr2 := hr.mono (show 2 ≤ 6 by decide)
    have un := hr.units
    obtain ⟨fW, fdW, mW, bW, okW⟩ := D.wk
    refine ⟨_, pss_cons (ps_set (i := 5) scKk.nd rfl (Or.inr rfl) (pe_lc (own := [("cell", 8)]) (g := gName 8) (by rfl) scKk.nd (pi_list (pv 4))
        (blkOk_by (own := [("cell", 8)]) (N := NKk) (sc := defScope sKeptRight) (by decide +kernel))
        (fun _ _ _ _ _ => pg_name (i := 8) scKk.nd rfl (Or.inl rfl)) (fun _ _ _ _ _ => pts_one (pt_cmpR op_eq (pe_callee Tk hr1 (by rfl) (pa_cons (pv 0) (pa_cons pe_int pa_nil))) pe_int (nomark _)))
        (fun _ _ _ _ _ => show PE _ _ (tOp (rIxT K) (tVar 8) (tC (.int 0))) from pe_ix ix_tup (pv 8) pe_int (fun _ _ => rfl))))
      (pss_cons (ps_set (i := 6) scKk.nd rfl (Or.inl rfl) (pe_meth (pv 1) T.cl mW okW hr bW .nil (passes_call LamX.takes0 (fun _ _ _ _ h => h)) (pa_cons (pe_callee M hr2 rfl (pa_cons (pv 0) (pa_cons (pv 5) pa_nil))) pa_nil)))
      (pss_cons (ps_set (i := 7) scKk.nd rfl (Or.inl rfl) (pe_callTy call_tuple_of (by rfl) B.tuple (by decide +kernel) (pa_cons (pe_lc (own := [("cell", 8)]) (g := gName 8) (tt := tYes) (by rfl) scKk.nd (pi_list (pv 4))
        (blkOk_by (own := [("cell", 8)]) (N := NKk) (sc := defScope sKeptRight) (by decide +kernel))
        (fun _ _ _ _ _ => pg_name (i := 8) scKk.nd rfl (Or.inl rfl)) (fun _ _ _ _ _ => pts_nil)
        (fun _ _ _ _ _ => pe_tup (pa_cons (show PE _ _ (tOp (rIxT K) (tVar 8) (tC (.int 0))) from pe_ix ix_tup (pv 8) pe_int (fun _ _ => rfl)) (pa_cons (show PE _ _ (tOp (rIxT K) (tVar 8) (tC (.int 1))) from pe_ix ix_tup (pv 8) pe_int (fun _ _ => rfl))
          (pa_cons (show PE _ _ (tOp (rIn K false) (tOp (rIxT K) (tVar 8) (tC (.int 0))) (tVar 5)) from pe_cmpR op_in_seq (pe_ix ix_tup (pv 8) pe_int (fun _ _ => rfl)) (pv 5) (by rfl)) pa_nil))))) pa_nil)))
      (pss_one (ps_ret (pe_and (pe_cmpR (op_eqD un) (pe_tup (pa_cons (pe_fld (pv 6) rfl) (pa_cons (pe_fld (pv 6) rfl) (pa_cons (pe_fld (pv 6) rfl) pa_nil))))
          (pe_tup (pa_cons (pe_callTy call_tuple_of (by rfl) B.tuple (by decide +kernel) (pa_cons (pv 2) pa_nil)) (pa_cons (pe_callTy call_tuple_of (by rfl) B.tuple (by decide +kernel) (pa_cons (pv 3) pa_nil)) (pa_cons (pv 7) pa_nil)))) (nomark _))
        (pe_one (pe_cmpR (op_eqD un) (pe_fld (pv 1) rfl) (pe_callTy call_tuple_of (by rfl) B.tuple (by decide +kernel) (pa_cons (pv 4) pa_nil)) (nomark _)))))))), ?_⟩
    obtain ⟨dx, tp, td, tc, D1, D2, D3, te, tq, tk, vd, vc, ve, k1, k2, k3, n⟩ := hx
    obtain ⟨hp, ⟨ld, hd, pd⟩, lc, hc, pc⟩ := hs
    have gH := g.toH
    have line : (100 : Nat) ≤ sizeLine := by decide
    have c3 := g.c3
    have llc := paired_len pc
    have stay : ∀ {H' : Hp}, But p H H' → HouseN H' C o h dx tp td tc D1 D2 D3 te tq tk vd vc ve k1 k2 k3 ∧ HsAt H' h a b c ∧ H' c = some (.lst lc) ∧ Paired (CellAt H') lc h.cells := fun {H'} bt => by
      have x := HsAt.but ⟨hp, ⟨ld, hd, pd⟩, lc, hc, pc⟩ bt hB
      exact ⟨n.but bt hB, x, bt _ _ (hB.ne hc (cells_box pc)) hc, paired_mono (fun _ _ r => r.mono fun t et => bt _ _ (hB.ne et (fun _ _ _ z => by cases z)) et) pc⟩
    refine seq_set ⟨_, rfl, c, rfl, ⟨_, SqL.of hc⟩, fun D nD => lc_list (xs := lc) (fun i H' => But p H H' ∧ Box H' p ∧ ∃ acc : List Str, H' D = some (.lst (acc.map V.str)) ∧ acc.Sublist ((h.cells.take i).map (·.n))) ⟨But.of_same (same_upd nD), hB.same (same_upd nD), [], upd_same, List.Sublist.refl _⟩ (fun i H' _ z => SqL.of (stay z.1).2.2.1) ?_ ?_⟩
    · rintro i x H1 hx ⟨b1, x1, acc, at_D, sub⟩
      obtain ⟨d, hdi, t, rfl, et⟩ := paired_get (stay b1).2.2.2 hx
      have Dp : D ≠ p := fun z => by
        obtain ⟨_, _, _, e, _⟩ := hB
        rw [← z, nD] at e
        cases e
      refine ⟨rfl, _, rfl, p, _, rfl, x1, by decide, by decide, fun r H2 r0 r2 b2 x2 => ⟨rfl, _, rfl, ?_⟩⟩
      have at2 := b2 _ _ Dp at_D
      have et2 := b2 _ _ (x1.ne et (fun _ _ _ z => by cases z)) et
      obtain ⟨hl, rfl⟩ := List.getElem?_eq_some_iff.mp hdi
      have ls := sub.length_le
      rw [List.length_map, List.length_take] at ls
      have e1 : (h.cells.take (i + 1)).map (·.n) = (h.cells.take i).map (·.n) ++ [h.cells[i].n] := by
        rw [List.take_succ_eq_append_getElem hl, List.map_append]
        rfl
      refine ite2 (fun _ => ?_) (fun _ => ?_)
      · refine ⟨_, rfl, t, _, _, V.str h.cells[i].n, rfl, rfl, SqT.of et2, atI_nat (j := 0) rfl, _, at2, by rw [List.length_map]; omega, fun e o' ne e' => ?_, ?_, acc ++ [h.cells[i].n], ?_, ?_⟩
        · rw [upd_ne (ne_of_none e' nD)]
          exact (b1.trans b2) _ _ ne e'
        · obtain ⟨y0, y1, y2, e, hy⟩ := x2
          exact ⟨y0, y1, y2, by rw [upd_ne (Ne.symm Dp)]; exact e, hy⟩
        · rw [upd_same, List.map_append]
          rfl
        · rw [e1]
          exact sub.append (List.Sublist.refl _)
      · refine ⟨b1.trans b2, x2, acc, at2, ?_⟩
        rw [e1]
        exact sub.trans (List.sublist_append_left _ _)
    rintro H1 ⟨b1, x1, ch, at_D, sub⟩
    rw [llc, List.take_length] at sub
    have lch := sub.length_le
    rw [List.length_map] at lch
    refine ⟨_, rfl, o, dx, _, rfl, (stay b1).1.ins, rfl, _, rfl, _, rfl, p, D, ch, rfl, x1, at_D, by omega, fun x hx => ?_, fun ys H2 l perm b2 x2 nl at_l => ?_⟩
    · obtain ⟨d, hd', rfl⟩ := List.mem_map.mp (sub.subset hx)
      exact (g.ok.c d hd').1
    have b12 := b1.trans b2
    have memy : ∀ y, y ∈ ys ↔ y ∈ ch := fun y => perm.mem_iff
    have keq : keptC ys = keptC ch := funext fun c => by
      unfold keptC
      rw [show decide (c.n ∈ ys) = decide (c.n ∈ ch) from by rw [decide_eq_decide]; exact memy _]
    refine ⟨o, l, h, ys, [], rfl, ⟨_, _, _, _, _, _, _, _, _, _, _, _, _, _, _, _, (stay b12).1⟩, gH, by rw [List.append_nil]; exact at_l, fun y hy => sub.subset ((memy y).mp hy), by rw [perm.length_eq]; show ch.length + 0 ≤ 20; omega, .inl ⟨rfl, fun H3 o2 s3 n2 hx2 => ?_⟩⟩
    obtain ⟨dx2, tp2, td2, tc2, E1, E2, E3, te2, tq2, tk2, vd2, vc2, ve2, j1, j2, j3, m⟩ := hx2
    have b13 := b12.trans (But.of_same s3)
    have x3 := x2.same s3
    have Dp : D ≠ p := fun z => by
      obtain ⟨_, _, _, e, _⟩ := hB
      rw [← z, nD] at e
      cases e
    have atD3 := s3 _ _ (b2 _ _ Dp at_D)
    obtain ⟨_, hs3, hc3, pc3⟩ := stay b13
    refine ⟨_, rfl, c, rfl, ⟨_, SqL.of hc3⟩, fun D4 n4 => lc_list (xs := lc) (fun i H' => Same H3 H' ∧ ∃ acc, H' D4 = some (.lst acc) ∧ Paired (CellAt H') acc ((h.cells.take i).map (keptC ch))) ⟨same_upd n4, [], upd_same, .nil⟩ (fun i H' _ z => SqL.of (z.1 _ _ hc3)) ?_ ?_⟩
    · rintro i x H4 hx ⟨s4, acc, at4, pa⟩
      obtain ⟨d, hdi, t, rfl, et⟩ := paired_get pc3 hx
      have et4 := s4 _ _ et
      have la := paired_len pa
      rw [List.length_map, List.length_take] at la
      refine ⟨rfl, kept ⟨_, rfl, t, _, _, V.str d.n, rfl, rfl, SqT.of et4, atI_nat (j := 0) rfl, _, rfl, t, _, _, V.str d.p, rfl, rfl, SqT.of et4, atI_nat (j := 1) rfl, _, rfl, t, _, _, V.str d.n, rfl, rfl, SqT.of et4, atI_nat (j := 0) rfl, _, rfl, D, _, rfl, .inl (SqL.of (s4 _ _ atD3)), rfl, flat_strs ch, by show 3 ≤ sizeLine; decide, fun u nu => ?_⟩⟩
      simp only [Bool.false_eq_true, if_false, inV_strs]
      have s5 := same_upd (o := .tup (cvs (keptC ch d))) nu
      have at5 := s5 _ _ at4
      refine ⟨acc, at5, by omega, fun b' x' e => ?_, _, upd_same, ?_⟩
      · rw [upd_ne (ne_of_none e n4)]
        exact s5 _ _ (s4 _ _ e)
      · obtain ⟨hl, rfl⟩ := List.getElem?_eq_some_iff.mp hdi
        rw [List.take_succ_eq_append_getElem hl, List.map_append]
        refine paired_snoc (paired_mono (fun _ _ r => r.mono fun c' ec => by rw [upd_ne (ne_of (s5 _ _ ec) at5 (fun z => by cases z))]; exact s5 _ _ ec) pa) ⟨u, rfl, ?_⟩
        rw [upd_ne (ne_of (show (upd H4 u (.tup (cvs (keptC ch h.cells[i])))) u = some (.tup (cvs (keptC ch h.cells[i]))) from upd_same) at5 (fun z => by cases z))]
        exact upd_same
    rintro H4 ⟨s4, acc, at4, pa⟩
    rw [llc, List.take_length] at pa
    refine ⟨D4, _, rfl, .inl ⟨SqL.of at4, fun t5 n5 => ?_⟩⟩
    have s5 := same_upd (o := .tup acc) n5
    have at5 : upd H4 t5 (.tup acc) t5 = some (.tup acc) := upd_same
    have pa5 : Paired (CellAt (upd H4 t5 (.tup acc))) acc (h.cells.map (keptC ch)) := paired_mono (fun _ _ r => r.mono fun c' ec => s5 _ _ ec) pa
    show Ends.nx _ _ (upd H4 t5 (.tup acc))
    revert s5 at5 pa5
    generalize upd H4 t5 (.tup acc) = H5
    intro s5 at5 pa5
    have s35 := s4.trans s5
    have m5 := m.same s35
    have q35 : But p H H5 := b13.trans (But.of_same s35)
    obtain ⟨n5', hs5, hc5, pc5⟩ := stay q35
    have lay : Lay.Lay 3 (.tuple [partsD h.parts, doorsD h.doors, cellsD (h.cells.map (keptC ch))]) := Lay.tup fun x hx => by
      simp only [List.mem_cons, List.not_mem_nil, or_false] at hx
      rcases hx with rfl | rfl | rfl
      · exact (lay_parts g.ok.p).up
      · exact lay_doors g.ok.d
      · exact lay_cells fun d hd => by
          obtain ⟨c', hc', rfl⟩ := List.mem_map.mp hd
          exact g.ok.c c' hc'
    have mcp : Paired (CellAt H5) vc2 (h.cells.map (keptC ch)) := by
      have := m5.cp
      rw [show (keptH h ys).cells = h.cells.map (keptC ch) from by unfold keptH; rw [keq]] at this
      exact this
    refine ⟨_, rfl, o2, C, dx2, _, _, rfl, m5.ins, T.cl, T.n1, rfl, _, rfl, o2, C, dx2, _, _, rfl, m5.ins, T.cl, T.n2, rfl, _, rfl, o2, C, dx2, _, _, rfl, m5.ins, T.cl, T.n3, rfl, by show 3 ≤ sizeLine; decide, fun u1 v1 => ?_⟩
    have r1 := same_upd (o := .tup [.ref tp2, .ref td2, .ref tc2]) v1
    have at1 : upd H5 u1 (.tup [.ref tp2, .ref td2, .ref tc2]) u1 = some (.tup [.ref tp2, .ref td2, .ref tc2]) := upd_same
    revert r1 at1
    generalize upd H5 u1 (.tup [.ref tp2, .ref td2, .ref tc2]) = G1
    intro r1 at1
    refine ⟨_, rfl, a, _, rfl, .inl ⟨SqL.of (r1 _ _ hs5.pa), fun u2 v2 => ?_⟩⟩
    have r2 := same_upd (o := .tup (h.parts.map V.str)) v2
    have at2 : upd G1 u2 (.tup (h.parts.map V.str)) u2 = some (.tup (h.parts.map V.str)) := upd_same
    revert r2 at2
    generalize upd G1 u2 (.tup (h.parts.map V.str)) = G2
    intro r2 at2
    have r12 := r1.trans r2
    obtain ⟨vd5, hd5, pd5⟩ := hs5.da
    refine ⟨_, rfl, b, _, rfl, .inl ⟨SqL.of (r12 _ _ hd5), fun u3 v3 => ?_⟩⟩
    have r3 := same_upd (o := .tup vd5) v3
    have at3 : upd G2 u3 (.tup vd5) u3 = some (.tup vd5) := upd_same
    revert r3 at3
    generalize upd G2 u3 (.tup vd5) = G3
    intro r3 at3
    refine ⟨_, rfl, by show 3 ≤ sizeLine; decide, fun u4 v4 => ?_⟩
    have r4 := same_upd (o := .tup [.ref u2, .ref u3, .ref t5]) v4
    have r14 := (r12.trans r3).trans r4
    have at4' : upd G3 u4 (.tup [.ref u2, .ref u3, .ref t5]) u4 = some (.tup [.ref u2, .ref u3, .ref t5]) := upd_same
    have at2' := (r3.trans r4) _ _ at2
    have at3' := r4 _ _ at3
    have at1' := ((r2.trans r3).trans r4) _ _ at1
    revert r14 at4' at2' at3' at1'
    generalize upd G3 u4 (.tup [.ref u2, .ref u3, .ref t5]) = G4
    intro r14 at4' at2' at3' at1'
    refine eqlay lay (by decide) (.tup (SqT.of at1') (.cons (dp_parts (r14 _ _ m5.pa)) (.cons (dp_doors (r14 _ _ m5.da) (paired_mono (fun _ _ r => r.mono fun c' ec => r14 _ _ ec) m5.dp)) (.cons (dp_cells (r14 _ _ m5.ca) (paired_mono (fun _ _ r => r.mono fun c' ec => r14 _ _ ec) mcp)) .nil))))
      (.tup (SqT.of at4') (.cons (dp_parts at2') (.cons (dp_doors at3' (paired_mono (fun _ _ r => r.mono fun c' ec => r14 _ _ ec) pd5)) (.cons (dp_cells (r14 _ _ at5) (paired_mono (fun _ _ r => r.mono fun c' ec => r14 _ _ ec) pa5)) .nil)))) ⟨_, rfl, iteT ?_⟩
    refine ⟨_, rfl, o, C, dx, _, _, rfl, r14 _ _ n5'.ins, T.cl, T.n3, rfl, _, rfl, c, _, rfl, .inl ⟨SqL.of (r14 _ _ hc5), fun u5 v5 => ?_⟩⟩
    have r5 := same_upd (o := .tup lc) v5
    have r15 := r14.trans r5
    exact eqlay (lay_cells g.ok.c) (by decide) (dp_cells (r15 _ _ n5'.ca) (paired_mono (fun _ _ r => r.mono fun c' ec => r15 _ _ ec) n5'.cp)) (dp_cells upd_same (paired_mono (fun _ _ r => r.mono fun c' ec => r15 _ _ ec) pc5)) (k _ (q35.trans (But.of_same r15)) ((x3.same s35).same r15))
end
end K01

namespace K01
open PySem PySem.Spec PyProof.Rows L2
open Cal EnuT Sqx Exn Keys LamX

/-! ### texts of houses, read -/
def plainW (s : Str) : Bool := (!s.cps.toList.contains 32) && (!s.cps.toList.contains 10) && decide (s.length ≤ 8)
def N20 : List Str := N16 ++ [("out" : Str), "zz", "X", "", "part", "door", "cell", "open", "shut", "kept"]
theorem n20_plain : ∀ x, x ∈ N20 → plainW x = true := by
  have h : N20.all plainW = true := by decide +kernel
  exact fun x hx => List.all_eq_true.mp h x hx
theorem n16_20 {x : Str} (h : x ∈ N16) : x ∈ N20 := List.mem_append_left _ h
structure Plain (ws : List Str) : Prop where
  ne : ws ≠ []
  all : ∀ x, x ∈ ws → x ∈ N20
  few : ws.length ≤ 5
theorem no32 {x : Str} (h : x ∈ N20) : 32 ∉ Tx.L x := by
  have := n20_plain x h
  unfold plainW at this
  simp only [Bool.and_eq_true, Bool.not_eq_true'] at this
  intro z
  have := this.1.1
  rw [List.contains_iff_mem.mpr z] at this
  cases this
theorem no10 {x : Str} (h : x ∈ N20) : 10 ∉ Tx.L x := by
  have := n20_plain x h
  unfold plainW at this
  simp only [Bool.and_eq_true, Bool.not_eq_true'] at this
  intro z
  have := this.1.2
  rw [List.contains_iff_mem.mpr z] at this
  cases this
theorem len8 {x : Str} (h : x ∈ N20) : x.length ≤ 8 := by
  have := n20_plain x h
  unfold plainW at this
  simp only [Bool.and_eq_true, decide_eq_true_eq] at this
  exact this.2
def rowW (ws : List Str) : Str := Txt.join " " ws
theorem words_row {ws : List Str} (p : Plain ws) : wordsOf (rowW ws) = ws := Tx.split_join (c := 32) p.ne fun x hx => no32 (p.all x hx)
theorem mem_join {c : Nat} {sep : Str} : ∀ {xs : List Str}, c ∈ Tx.L (Str.join sep xs) → c ∈ Tx.L sep ∨ ∃ x, x ∈ xs ∧ c ∈ Tx.L x
  | [], h => by
    have : c ∈ ([] : List Nat) := h
    cases this
  | [x], h => .inr ⟨x, List.mem_cons_self .., h⟩
  | x :: y :: r, h => by
    rw [Tx.L_join] at h
    rcases List.mem_append.mp h with z | z
    · exact .inr ⟨x, List.mem_cons_self .., z⟩
    · rcases List.mem_append.mp z with z | z
      · exact .inl z
      · rcases mem_join z with z | ⟨w, hw, z⟩
        · exact .inl z
        · exact .inr ⟨w, List.mem_cons_of_mem _ hw, z⟩
theorem row_nl {ws : List Str} (p : Plain ws) : 10 ∉ Tx.L (rowW ws) := fun z => by
  have e : rowW ws = Str.join " " ws := StrLaws.glued_eq_join _ _
  rw [e] at z
  rcases mem_join z with z | ⟨w, hw, z⟩
  · have : (10 : Nat) ∉ Tx.L (" " : Str) := by decide
    exact this z
  · exact no10 (p.all w hw) z
theorem row_len60 {ws : List Str} (p : Plain ws) : (rowW ws).length ≤ 60 := by
  have h := join_len " " ws
  have := sum_le (ws.map fun x => x.length) 8 (fun x hx => by
    obtain ⟨y, hy, rfl⟩ := List.mem_map.mp hx
    exact len8 (p.all y hy))
  rw [List.length_map] at this
  have e1 : (" " : Str).length = 1 := rfl
  rw [e1] at h
  have := p.few
  show (Txt.join " " ws).length ≤ 60
  omega
theorem row_short {ws : List Str} (p : Plain ws) : ShortR (rowW ws) := by
  refine ⟨by have := row_len60 p; omega, ?_⟩
  rw [words_row p]
  have := p.few
  omega
def partW (n : Str) : List Str := ["part", n]
def doorW (d : Door) : List Str := ["door", d.n, d.one, d.two, if d.op = true then "open" else "shut"]
def cellW (c : Cell) : List Str := [("cell" : Str), c.n, c.p] ++ if c.k = true then [("kept" : Str)] else []
theorem partRow_eq (n : Str) : partRow n = rowW (partW n) := by
  show ("part " ++ n : Str) = Txt.join " " ["part", n]
  rw [show Txt.join " " ["part", n] = Str.join " " ["part", n] from StrLaws.glued_eq_join _ _]
  rfl
theorem doorRow_eq (d : Door) : doorRow d = rowW (doorW d) := rfl
theorem cellRow_eq (d : Cell) : cellRow d = rowW (cellW d) := rfl
/-- a house whose names are all plain -/
structure Pl (h : Hs) : Prop where
  p : ∀ x, x ∈ h.parts → x ∈ N20
  d : ∀ d, d ∈ h.doors → d.n ∈ N20 ∧ d.one ∈ N20 ∧ d.two ∈ N20
  c : ∀ c, c ∈ h.cells → c.n ∈ N20 ∧ c.p ∈ N20
theorem out20 : ("out" : Str) ∈ N20 := by decide +kernel
theorem mem20 {x : Str} (h : N20.contains x = true) : x ∈ N20 := List.contains_iff_mem.mp h
theorem Good.pl {h : Hs} (g : Good h) : Pl h where
  p := fun x hx => n16_20 (good_parts g x hx)
  d := fun d hd => by
    obtain ⟨e1, e2, _⟩ := g.ends d hd
    have ie : ∀ {x : Str}, EndIn h.parts x → x ∈ N20 := fun {x} e => by
      rcases e with rfl | e
      · exact out20
      · exact n16_20 (good_parts g x e)
    exact ⟨n16_20 (good_doors g d hd), ie e1, ie e2⟩
  c := fun d hd => ⟨n16_20 (good_cells g d hd), n16_20 (good_parts g _ (g.cin d hd))⟩
theorem pl_part {x : Str} (h : x ∈ N20) : Plain (partW x) := by
  refine ⟨List.cons_ne_nil _ _, fun y hy => ?_, by show 2 ≤ 5; decide⟩
  simp only [partW, List.mem_cons, List.not_mem_nil, or_false] at hy
  rcases hy with rfl | rfl
  · exact mem20 (by decide +kernel)
  · exact h
theorem pl_door {d : Door} (h : d.n ∈ N20 ∧ d.one ∈ N20 ∧ d.two ∈ N20) : Plain (doorW d) := by
  refine ⟨List.cons_ne_nil _ _, fun y hy => ?_, by show 5 ≤ 5; decide⟩
  simp only [doorW, List.mem_cons, List.not_mem_nil, or_false] at hy
  rcases hy with rfl | rfl | rfl | rfl | rfl
  · exact mem20 (by decide +kernel)
  · exact h.1
  · exact h.2.1
  · exact h.2.2
  · cases d.op
    · exact (show ("shut" : Str) ∈ N20 from mem20 (by decide +kernel))
    · exact (show ("open" : Str) ∈ N20 from mem20 (by decide +kernel))
theorem pl_cell {c : Cell} (h : c.n ∈ N20 ∧ c.p ∈ N20) : Plain (cellW c) := by
  refine ⟨List.cons_ne_nil _ _, fun y hy => ?_, ?_⟩
  · unfold cellW at hy
    rcases List.mem_append.mp hy with hy | hy
    · simp only [List.mem_cons, List.not_mem_nil, or_false] at hy
      rcases hy with rfl | rfl | rfl
      · exact mem20 (by decide +kernel)
      · exact h.1
      · exact h.2
    · cases ek : c.k with
      | true =>
        rw [ek, if_pos rfl] at hy
        obtain rfl := List.mem_singleton.mp hy
        exact mem20 (by decide +kernel)
      | false =>
        rw [ek, if_neg (by decide)] at hy
        exact absurd hy (List.not_mem_nil)
  · unfold cellW
    cases c.k
    · show 3 ≤ 5; decide
    · show 4 ≤ 5; decide
theorem thing_part (x : Str) : thingP (partW x) = some (0, strT x) := (tq1 ..).trans (if_pos rfl)
theorem thing_door (d : Door) : thingP (doorW d) = some (1, dT d) := by
  unfold doorW
  cases eo : d.op with
  | true =>
    rw [if_pos rfl]
    refine (tq4 ..).trans ((if_pos ⟨rfl, .inl rfl⟩).trans ?_)
    unfold dT dvs
    rw [eo]
    rfl
  | false =>
    rw [if_neg (by decide)]
    refine (tq4 ..).trans ((if_pos ⟨rfl, .inr rfl⟩).trans ?_)
    unfold dT dvs
    rw [eo]
    rfl
theorem thing_cell (c : Cell) : thingP (cellW c) = some (2, cT c) := by
  unfold cellW
  cases ek : c.k with
  | true =>
    rw [if_pos rfl]
    refine (tq3 ..).trans ((if_pos ⟨rfl, rfl⟩).trans ?_)
    unfold cT cvs
    rw [ek]
  | false =>
    rw [if_neg (by decide)]
    refine (tq2 ..).trans ((if_pos rfl).trans ?_)
    unfold cT cvs
    rw [ek]
theorem readN_app : ∀ {z y : Rd} {as bs : List Str}, readN z as = some y → readN z (as ++ bs) = readN y bs
  | z, y, [], bs, h => by
    have h : some z = some y := h
    injection h with h
    rw [h]
    rfl
  | z, y, a :: as, bs, h => by
    have h : (match step1 z a with
      | none => none
      | some z' => readN z' as) = some y := h
    show (match step1 z a with
      | none => none
      | some z' => readN z' (as ++ bs)) = _
    cases e : step1 z a with
    | none => rw [e] at h; cases h
    | some w =>
      rw [e] at h
      exact readN_app h
theorem readN_cons {z w : Rd} {a : Str} {as : List Str} (e : step1 z a = some w) : readN z (a :: as) = readN w as := by
  show (match step1 z a with
      | none => none
      | some z' => readN z' as) = _
  rw [e]
theorem step_of {z : Rd} {ws : List Str} {k : Nat} {t : Tv} (p : Plain ws) (e : thingP ws = some (k, t)) (le : z.last ≤ k) : step1 z (rowW ws) = some (put z k t) := by
  unfold step1
  rw [words_row p, e]
  exact if_neg (by omega)
theorem step_no {z : Rd} {ws : List Str} {k : Nat} {t : Tv} (p : Plain ws) (e : thingP ws = some (k, t)) (lt : k < z.last) : step1 z (rowW ws) = none := by
  unfold step1
  rw [words_row p, e]
  exact if_pos lt
theorem read_parts : ∀ (qs : List Str) (ps : List Tv), (∀ x, x ∈ qs → x ∈ N20) → readN ⟨0, ps, [], []⟩ (qs.map partRow) = some ⟨0, ps ++ qs.map strT, [], []⟩
  | [], ps, _ => by
    rw [List.map_nil, List.map_nil, List.append_nil]
    rfl
  | q :: qs, ps, h => by
    rw [List.map_cons, partRow_eq, readN_cons (step_of (pl_part (h q (List.mem_cons_self ..))) (thing_part q) (Nat.le_refl 0))]
    have := read_parts qs (ps ++ [strT q]) fun x hx => h x (List.mem_cons_of_mem _ hx)
    rw [List.append_assoc] at this
    exact this
theorem read_doors : ∀ (ds : List Door) (z : Rd), z.last ≤ 1 → (∀ d, d ∈ ds → d.n ∈ N20 ∧ d.one ∈ N20 ∧ d.two ∈ N20) → ∃ l, l ≤ 1 ∧ readN z (ds.map doorRow) = some ⟨l, z.p, z.d ++ ds.map dT, z.c⟩
  | [], z, h, _ => ⟨z.last, h, by rw [List.map_nil, List.map_nil, List.append_nil]; rfl⟩
  | q :: qs, z, h, hp => by
    obtain ⟨l, hl, e⟩ := read_doors qs (put z 1 (dT q)) (Nat.le_refl 1) fun x hx => hp x (List.mem_cons_of_mem _ hx)
    refine ⟨l, hl, ?_⟩
    rw [List.map_cons, doorRow_eq, readN_cons (step_of (pl_door (hp q (List.mem_cons_self ..))) (thing_door q) h), e]
    show some (Rd.mk l z.p ((z.d ++ [dT q]) ++ qs.map dT) z.c) = _
    rw [List.append_assoc]
    rfl
theorem read_cells : ∀ (ds : List Cell) (z : Rd), z.last ≤ 2 → (∀ d, d ∈ ds → d.n ∈ N20 ∧ d.p ∈ N20) → ∃ l, l ≤ 2 ∧ readN z (ds.map cellRow) = some ⟨l, z.p, z.d, z.c ++ ds.map cT⟩
  | [], z, h, _ => ⟨z.last, h, by rw [List.map_nil, List.map_nil, List.append_nil]; rfl⟩
  | q :: qs, z, h, hp => by
    obtain ⟨l, hl, e⟩ := read_cells qs (put z 2 (cT q)) (Nat.le_refl 2) fun x hx => hp x (List.mem_cons_of_mem _ hx)
    refine ⟨l, hl, ?_⟩
    rw [List.map_cons, cellRow_eq, readN_cons (step_of (pl_cell (hp q (List.mem_cons_self ..))) (thing_cell q) h), e]
    show some (Rd.mk l z.p z.d ((z.c ++ [cT q]) ++ qs.map cT)) = _
    rw [List.append_assoc]
    rfl
/-- what is read of a house's rows -/
theorem read_rows {h : Hs} (p : Pl h) : ∃ l, readN z0 (rowsOf h) = some ⟨l, h.parts.map strT, h.doors.map dT, h.cells.map cT⟩ := by
  have e1 := read_parts h.parts [] p.p
  obtain ⟨l1, h1, e2⟩ := read_doors h.doors ⟨0, [] ++ h.parts.map strT, [], []⟩ (Nat.zero_le 1) p.d
  obtain ⟨l2, h2, e3⟩ := read_cells h.cells ⟨l1, [] ++ h.parts.map strT, [] ++ h.doors.map dT, []⟩ (by show l1 ≤ 2; omega) p.c
  refine ⟨l2, ?_⟩
  unfold rowsOf
  rw [readN_app (z := z0) e1, readN_app e2, e3]
  rfl
theorem last_mono : ∀ {z y : Rd} {rs : List Str}, readN z rs = some y → z.last ≤ y.last ∧ ∀ r k t, r ∈ rs → thingP (wordsOf r) = some (k, t) → k ≤ y.last
  | z, y, [], h => by
    have h : some z = some y := h
    injection h with h
    rw [h]
    exact ⟨Nat.le_refl _, fun r k t hr => nomatch hr⟩
  | z, y, a :: as, h => by
    have h : (match step1 z a with
      | none => none
      | some z' => readN z' as) = some y := h
    cases e : step1 z a with
    | none => rw [e] at h; cases h
    | some w =>
      rw [e] at h
      obtain ⟨i1, i2⟩ := last_mono h
      unfold step1 at e
      split at e
      · cases e
      · rename_i k0 t0 ht
        split at e
        · cases e
        · rename_i nlt
          injection e with e
          have hw : w.last = k0 := by rw [← e]; rfl
          refine ⟨by omega, fun r k t hr hk => ?_⟩
          rcases List.mem_cons.mp hr with rfl | z
          · rw [ht] at hk
            injection hk with hk
            injection hk with hk _
            omega
          · exact i2 r k t z hk
end K01

namespace K01
open PySem PySem.Spec PyProof.Rows L2
open Cal EnuT Sqx Exn Keys LamX

def FineR (r : Str) : Prop := ShortR r ∧ 10 ∉ Tx.L r ∧ r.length ≤ 60
theorem fine_row {ws : List Str} (p : Plain ws) : FineR (rowW ws) := ⟨row_short p, row_nl p, row_len60 p⟩
theorem fine_rows {h : Hs} (p : Pl h) : ∀ r, r ∈ rowsOf h → FineR r := fun r hr => by
  rcases List.mem_append.mp hr with z | z
  · obtain ⟨n, hn, rfl⟩ := List.mem_map.mp z
    rw [partRow_eq]
    exact fine_row (pl_part (p.p n hn))
  · rcases List.mem_append.mp z with z | z
    · obtain ⟨d, hd, rfl⟩ := List.mem_map.mp z
      exact fine_row (pl_door (p.d d hd))
    · obtain ⟨d, hd, rfl⟩ := List.mem_map.mp z
      exact fine_row (pl_cell (p.c d hd))
theorem join_le {xs : List Str} (f : ∀ r, r ∈ xs → FineR r) (few : xs.length ≤ 60) : (xs.map fun x => x.length).sum + xs.length * ("\n" : Str).length ≤ 9000 := by
  have := sum_le (xs.map fun x => x.length) 60 (fun x hx => by
    obtain ⟨y, hy, rfl⟩ := List.mem_map.mp hx
    exact (f y hy).2.2)
  rw [List.length_map] at this
  have e1 : ("\n" : Str).length = 1 := rfl
  rw [e1]
  omega
theorem spRead_of {C CH CT : Addr} {H : Hp} {Q : VK} {E : XK} {xs pre post : List Str} {z : Rd} (f : ∀ r, r ∈ xs → FineR r) (few : xs.length ≤ 60) (ne : xs ≠ []) (e : xs = pre ++ post) (rd : readN z0 pre = some z)
    (odd : ∀ r p, post = r :: p → step1 z r = none ∧ Bad CT H E pre.length) (aft : post = [] → After C CH H Q E z) : spRead C CH CT [.str (Txt.join "\n" xs)] H Q E := by
  refine ⟨_, rfl, .inr ⟨_, pre, post, z, rfl, ?_, ?_, ?_, fun r hr => (f r (by rw [e]; exact hr)).1, rd, odd, aft⟩⟩
  · have := join_len "\n" xs
    have := join_le f few
    omega
  · rw [← e]
    exact Tx.split_join (c := 10) ne fun x hx => (f x hx).2.1
  · rw [← e]
    omega
/-! the rows that are no rows -/
def odds (q : Str) : List Str := ["", "parts", "part a b", "door n out", ("door n out " ++ q) ++ " ajar", "door n out " ++ q, "cells n", "cell n a held", "Part x", " part x", "part x ", "cell n a kept kept", "hall", "door  n out a open"]
def oddOk (r : Str) : Bool := (thingP (wordsOf r)).isNone && (decide (r.length ≤ 60) && (decide ((wordsOf r).length ≤ 1000) && !r.cps.toList.contains 10))
theorem odds_ok : ∀ q, q ∈ N16 → ∀ r, r ∈ odds q → oddOk r = true := by
  have h : (N16.all fun q => (odds q).all oddOk) = true := by decide +kernel
  exact fun q hq r hr => List.all_eq_true.mp (List.all_eq_true.mp h q hq) r hr
theorem odd_fine {r : Str} (h : oddOk r = true) : FineR r ∧ thingP (wordsOf r) = none := by
  unfold oddOk at h
  simp only [Bool.and_eq_true, decide_eq_true_eq, Bool.not_eq_true'] at h
  obtain ⟨h1, h2, h3, h4⟩ := h
  refine ⟨⟨⟨by omega, h3⟩, fun z => ?_, h2⟩, ?_⟩
  · rw [List.contains_iff_mem.mpr z] at h4
    cases h4
  · cases e : thingP (wordsOf r) with
    | none => rfl
    | some _ => rw [e] at h1; cases h1
theorem step_odd {z : Rd} {r : Str} (h : thingP (wordsOf r) = none) : step1 z r = none := by
  unfold step1
  rw [h]
def insR (xs : List Str) (j : Nat) (r : Str) : List Str := xs.take j ++ [r] ++ xs.drop j
theorem insR_fine {xs : List Str} {j : Nat} {r : Str} (f : ∀ r, r ∈ xs → FineR r) (fr : FineR r) : ∀ q, q ∈ insR xs j r → FineR q := fun q hq => by
  unfold insR at hq
  simp only [List.mem_append, List.mem_singleton] at hq
  rcases hq with (z | rfl) | z
  · exact f q (List.mem_of_mem_take z)
  · exact fr
  · exact f q (List.mem_of_mem_drop z)
theorem insR_len {xs : List Str} {j : Nat} {r : Str} : (insR xs j r).length = xs.length + 1 := by
  unfold insR
  simp only [List.length_append, List.length_take, List.length_drop, List.length_singleton]
  omega
theorem insR_ne {xs : List Str} {j : Nat} {r : Str} : insR xs j r ≠ [] := fun z => by
  have := insR_len (xs := xs) (j := j) (r := r)
  rw [z] at this
  cases this
/-- a row that is none of the rows that may stand there -/
theorem read_good {C CH CT : Addr} {H : Hp} {Q : VK} {E : XK} {h : Hs} (g : GoodH h) (p : Pl h) (k : ∀ H' o, Same H H' → H o = none → HouseX H' C o h → Q (.ref o) H') : spRead C CH CT [.str (Txt.join "\n" (rowsOf h))] H Q E := by
  obtain ⟨l, e⟩ := read_rows p
  have := rows_len g
  have p1 := g.p1
  have p8 := g.p8
  have d12 := g.d12
  have c8 := g.c8
  refine spRead_of (pre := rowsOf h) (post := []) (fine_rows p) (by omega) (fun z => ?_) (List.append_nil _).symm e (fun r' p' e' => nomatch e') (fun _ => ⟨by rw [List.length_map]; omega, by rw [List.length_map]; omega, by rw [List.length_map]; omega, .inr ⟨h, ⟨g, rfl, rfl, rfl⟩, k⟩⟩)
  have : (rowsOf h).length = 0 := by rw [z]; rfl
  unfold rowsOf at this
  rw [List.length_append, List.length_map] at this
  omega
/-! rows that stand late -/
def BN (p : Addr) (H H' : Hp) : Prop := ∀ b o, b ≠ p → H b = some o → (∀ ps, o ≠ .tbl ps) → H' b = some o
theorem BN.trans {p : Addr} {H H1 H2 : Hp} (a : BN p H H1) (b : BN p H1 H2) : BN p H H2 := fun c o n e t => b c o n (a c o n e t) t
theorem BN.of {p : Addr} {H H' : Hp} (s : Same H H') : BN p H H' := fun c o _ e _ => s _ _ e
theorem BN.but {p : Addr} {H H' : Hp} (s : But p H H') : BN p H H' := fun c o n e _ => s _ _ n e
theorem BN.ext {p : Addr} {H H' : Hp} (s : ExtN H H') : BN p H H' := fun c o _ e t => s _ _ e t
theorem HsAt.bn {H H' : Hp} {h : Hs} {a b c p : Addr} (x : HsAt H h a b c) (bt : BN p H H') (bx : Box H p) : HsAt H' h a b c := by
  obtain ⟨pa, ⟨vd, hd, pd⟩, vc, hc, pc⟩ := x
  have nt : ∀ {t xs}, H t = some (.tup xs) → t ≠ p := fun {t xs} e => bx.ne e (fun _ _ _ z => by cases z)
  exact ⟨bt _ _ (bx.ne pa (strs_box _)) pa (fun _ z => nomatch z), ⟨vd, bt _ _ (bx.ne hd (doors_box pd)) hd (fun _ z => nomatch z), paired_mono (fun _ _ r => r.mono fun t e => bt _ _ (nt e) e (fun _ z => nomatch z)) pd⟩, vc, bt _ _ (bx.ne hc (cells_box pc)) hc (fun _ z => nomatch z), paired_mono (fun _ _ r => r.mono fun t e => bt _ _ (nt e) e (fun _ z => nomatch z)) pc⟩
theorem tabs_butB {p : Addr} {H H' : Hp} {T : List (Addr × Str)} (d : Box H p) (s : But p H H') (t : Tabs T H) : Tabs T H' := fun x hx => by
  obtain ⟨ps, h1, h2, h3⟩ := t x hx
  obtain ⟨b0, b1, b2, hp, _⟩ := d
  refine ⟨ps, s _ _ (ne_of h1 hp (fun z => by cases z)) h1, h2, fun pos cv hc => ?_⟩
  obtain ⟨c, e1, e2⟩ := h3 pos cv hc
  exact ⟨c, e1, s _ _ (ne_of e2 hp (fun z => by cases z)) e2⟩
theorem Box.ext {H H' : Hp} {p : Addr} (d : Box H p) (s : ExtN H H') : Box H' p := by
  obtain ⟨b0, b1, b2, e, h⟩ := d
  exact ⟨b0, b1, b2, s _ _ e (fun _ z => nomatch z), h⟩
end K01

namespace K01
open PySem PySem.Spec PyProof.Rows L2
open Cal EnuT Sqx Exn Keys LamX LamY Gvx
/-- no name of the house, nor outside; and it can be written -/
def Odd (K : W.Frag) (H : Hp) (h : Hs) (x : V) : Prop := (∃ dat, Shw K H x dat) ∧ ((∃ s, x = .str s ∧ s ∉ h.names ∧ s ≠ "out") ∨ ∃ o, SqOf H x o ∧ (o = none → isStr x = false))
theorem plus_x : ∀ y, y ∈ N16 → (y ++ ("x" : Str)) ∉ N16 ∧ (y ++ ("x" : Str)) ≠ "out" ∧ PyData.showable (.str (y ++ ("x" : Str))) = true ∧ (PyData.shown (.str (y ++ ("x" : Str)))).length ≤ 100 := by
  have h : N16.all (fun y => !N16.contains (y ++ ("x" : Str)) && decide ((y ++ ("x" : Str)) ≠ "out") && PyData.showable (.str (y ++ ("x" : Str))) && decide ((PyData.shown (.str (y ++ ("x" : Str)))).length ≤ 100)) = true := by decide +kernel
  intro y hy
  have := List.all_eq_true.mp h y hy
  simp only [Bool.and_eq_true, decide_eq_true_eq, Bool.not_eq_true'] at this
  obtain ⟨⟨⟨a, b⟩, c⟩, d⟩ := this
  refine ⟨fun z => ?_, b, c, d⟩
  rw [List.contains_iff_mem.mpr z] at a
  cases a
theorem shw_str {K : W.Frag} {H : Hp} {s : Str} (h1 : PyData.showable (.str s) = true) (h2 : (PyData.shown (.str s)).length ≤ 100) : Shw K H (.str s) (.str s) := ⟨.str s, h1, by simp [PyData.hasDict], by simp [PyData.depth], Nat.le_trans h2 (by decide)⟩
theorem odd_str {K : W.Frag} {H : Hp} {h : Hs} (g : Good h) {s : Str} (h0 : s ∉ N16) (h3 : s ≠ "out") (h1 : PyData.showable (.str s) = true) (h2 : (PyData.shown (.str s)).length ≤ 100) : Odd K H h (.str s) := ⟨⟨_, shw_str h1 h2⟩, .inl ⟨s, rfl, fun z => h0 (g.sub s z), h3⟩⟩
theorem odd_mem {K : W.Frag} {H : Hp} {h : Hs} {x : V} {q : Addr} {y : Str} (g : Good h) (hq : H q = some (.tup [.str "a"])) (hy : y ∈ N16) (hx : x ∈ [V.str "none", .str "", .non, .int 0, .ref q, .str "A", .str (y ++ ("x" : Str))]) : Odd K H h x := by
  simp only [List.mem_cons, List.not_mem_nil, or_false] at hx
  rcases hx with rfl | rfl | rfl | rfl | rfl | rfl | rfl
  · exact odd_str g (by decide +kernel) (by decide +kernel) (by decide +kernel) (by decide +kernel)
  · exact odd_str g (by decide +kernel) (by decide +kernel) (by decide +kernel) (by decide +kernel)
  · exact ⟨⟨.none, .non, by decide +kernel, by decide +kernel, by decide +kernel, Nat.le_trans (show _ ≤ 100 by decide +kernel) (by decide)⟩, .inr ⟨none, rfl, fun _ => rfl⟩⟩
  · exact ⟨⟨.int 0, .int 0, by decide +kernel, by decide +kernel, by decide +kernel, Nat.le_trans (show _ ≤ 100 by decide +kernel) (by decide)⟩, .inr ⟨none, rfl, fun _ => rfl⟩⟩
  · exact ⟨⟨.tuple [.str "a"], .tup (SqT.of hq) (.cons (.str _) .nil), by decide +kernel, by decide +kernel, by decide +kernel, Nat.le_trans (show _ ≤ 100 by decide +kernel) (by decide)⟩, .inr ⟨some [.str "a"], ⟨q, rfl, .inr hq⟩, fun z => nomatch z⟩⟩
  · exact odd_str g (by decide +kernel) (by decide +kernel) (by decide +kernel) (by decide +kernel)
  · obtain ⟨h1, h2, h3, h4⟩ := plus_x y hy
    exact odd_str g h1 h2 h3 h4
theorem Odd.miss {K : W.Frag} {H : Hp} {h : Hs} {x : V} (o : Odd K H h x) {ns : List Str} (sub : ∀ n, n ∈ ns → n ∈ h.names) : Miss H ns x := by
  rcases o.2 with ⟨s, rfl, no, _⟩ | ⟨u, sq, n⟩
  · exact .inl ⟨s, rfl, fun z => no (sub s z)⟩
  · exact .inr ⟨u, sq, n⟩
theorem Odd.out {K : W.Frag} {H : Hp} {h : Hs} {x : V} (o : Odd K H h x) : x ≠ .str "out" := fun z => by
  subst z
  rcases o.2 with ⟨s, e, _, no⟩ | ⟨u, sq, n⟩
  · injection e with e
    exact no e.symm
  · cases u with
    | none => exact nomatch n rfl
    | some xs =>
      obtain ⟨_, e, _⟩ := sq
      cases e
theorem shw_any {K : W.Frag} {G G' : Hp} {s : Str} {dat : PyData} (w : Shw K G (.str s) dat) : Shw K G' (.str s) dat := by
  obtain ⟨dp, a, b, c, d⟩ := w
  cases dp
  exact ⟨.str s, a, b, c, d⟩
/-- the name told to be kept: it is one that the house has not -/
theorem odd_lack {K : W.Frag} {H : Hp} {h : Hs} {x : V} (g : Good h) (o : Odd K H h x) : ∃ (s : Str) (dat : PyData) (t : Value), (if isStr x = true then x else V.str "none") = .str s ∧ s ∉ h.names ∧ (∀ G, Shw K G (.str s) dat) ∧ TyX K H x t ∧ W.kitOne K t (.type "str") = some (isStr x) := by
  have no : ∀ G, Odd K G h (.str "none") := fun G => odd_str g (by decide +kernel) (by decide +kernel) (by decide +kernel) (by decide +kernel)
  obtain ⟨d0, sh0⟩ := (no H).1
  have nn : ("none" : Str) ∉ h.names := by
    rcases (no H).2 with ⟨s, e, z, _⟩ | ⟨u, sq, z⟩
    · injection e with e
      rw [e]
      exact z
    · cases u with
      | none => exact nomatch z rfl
      | some xs =>
        obtain ⟨_, e, _⟩ := sq
        cases e
  rcases o.2 with ⟨s, rfl, z, _⟩ | ⟨u, sq, z⟩
  · obtain ⟨d, sh⟩ := o.1
    exact ⟨s, d, .type "str", rfl, z, fun G => shw_any sh, .base (.str _), kit_ty (show kitB "str" "str" = some true by decide +kernel)⟩
  · cases u with
    | none =>
      obtain ⟨t, h1, _, h3, _⟩ := flat_ty (K := K) (H := H) sq
      rw [z rfl] at h3 ⊢
      exact ⟨"none", d0, t, rfl, nn, fun G => shw_any sh0, h1, h3⟩
    | some xs =>
      obtain ⟨a, rfl, sq⟩ := sq
      obtain ⟨t, h1, _, h3⟩ := seq_ty (K := K) sq
      exact ⟨"none", d0, t, rfl, nn, fun G => shw_any sh0, h1, h3⟩
theorem ifStr {c : Bool} {x : V} {s : Str} {Q : V → Prop} (h : (if c = true then x else V.str "none") = .str s) (q : Q (.str s)) : if c = true then (∃ v, (some (some x) : Option (Option V)) = some (some v) ∧ Q v) else Q (.str "none") := by
  cases c with
  | true =>
    have e : x = .str s := h
    subst e
    exact ⟨_, rfl, q⟩
  | false =>
    have e : V.str "none" = .str s := h
    rw [← e] at q
    exact q
end K01

namespace K01
open PySem PySem.Spec PyProof.Rows L2
open Cal EnuT Sqx Exn Keys LamX LamY Stc Gvx Oeq
abbrev NLw : List Str := ["script", "k", "box", "parts", "doors", "cells", "handed", "house", "some", "text", "again", "odd", "lacking", "door", "cell"]
theorem scL : FnScope NLw ["script"] (defScope sLaw) := ⟨rfl, rfl, rfl, by decide +kernel, rfl, by decide +kernel, by decide +kernel⟩
abbrev qL : Str := "law.<locals>.<lambda>"
theorem HouseN.ext {H H' : Hp} {C o : Addr} {h : Hs} {dx tp td tc D1 D2 D3 te tq tk : Addr} {vd vc ve : List V} {k1 k2 k3 : List (Key × V)} (n : HouseN H C o h dx tp td tc D1 D2 D3 te tq tk vd vc ve k1 k2 k3) (s : ExtN H H') : HouseN H' C o h dx tp td tc D1 D2 D3 te tq tk vd vc ve k1 k2 k3 := by
  have nt : ∀ {a xs}, H a = some (.tup xs) → H' a = some (.tup xs) := fun {a xs} e => s _ _ e (fun _ z => nomatch z)
  have nk : ∀ {a xs}, H a = some (.dK xs) → H' a = some (.dK xs) := fun {a xs} e => s _ _ e (fun _ z => nomatch z)
  exact {
    ins := s _ _ n.ins (fun _ z => nomatch z)
    pa := nt n.pa
    da := nt n.da
    dp := paired_mono (fun _ _ r => r.mono fun c ec => nt ec) n.dp
    ca := nt n.ca
    cp := paired_mono (fun _ _ r => r.mono fun c ec => nt ec) n.cp
    n1 := nk n.n1
    m1 := n.m1
    n2 := nk n.n2
    m2 := n.m2
    n3 := nk n.n3
    m3 := n.m3
    ea := nt n.ea
    ep := paired_mono (fun _ _ ⟨t, e, et⟩ => ⟨t, e, nt et⟩) n.ep
    qa := nt n.qa
    ka := nt n.ka }
theorem seq_extn {K : W.Frag} {H H' : Hp} {a : Addr} {xs : List V} (e : ExtN H H') (h : SqL K H a xs) : SqL K H' a xs := by
  rcases h with (h | ⟨o, h⟩) | h
  · exact .inl (.inl (e _ _ h (fun _ z => nomatch z)))
  · exact .inl (.inr ⟨o, e _ _ h (fun _ z => nomatch z)⟩)
  · exact .inr h
theorem BN.ext_of {p : Addr} {H0 H1 H : Hp} (n : H1 p = none) (e : ExtN H0 H1) (b : BN p H1 H) : ExtN H0 H := fun c o h t => b c o (fun z => by
  have := e _ _ h t
  rw [z, n] at this
  cases this) (e c o h t) t
/-- where a turn of the law stands -/
structure Lw (p a b c : Addr) (h : Hs) (T : List (Addr × Str)) (H0 H : Hp) : Prop where
  bn : BN p H0 H
  box : Box H p
  tb : Tabs T H
  hs : HsAt H h a b c
theorem Lw.same {p a b c : Addr} {h : Hs} {T : List (Addr × Str)} {H0 H H' : Hp} (x : Lw p a b c h T H0 H) (s : Same H H') : Lw p a b c h T H0 H' := ⟨x.bn.trans (.of s), x.box.same s, x.tb.ext s, x.hs.same s⟩
theorem Lw.but {p a b c : Addr} {h : Hs} {T : List (Addr × Str)} {H0 H H' : Hp} (x : Lw p a b c h T H0 H) (s : But p H H') (y : Box H' p) : Lw p a b c h T H0 H' := ⟨x.bn.trans (.but s), y, tabs_butB x.box s x.tb, x.hs.but s x.box⟩
theorem Lw.ext {p a b c : Addr} {h : Hs} {T : List (Addr × Str)} {H0 H H' : Hp} (x : Lw p a b c h T H0 H) (s : ExtN H H') (t : Tabs T H') : Lw p a b c h T H0 H' := ⟨x.bn.trans (.ext s), x.box.ext s, t, x.hs.bn (.ext s) x.box⟩
/-- a door, as a tuple or as a list -/
def DoorS (H : Hp) (v : V) (d : Door) : Prop := ∃ t, v = .ref t ∧ SeqAt H t (dvs d)
theorem dvs_box (d : Door) (b0 b1 b2 : Int) : HO.lst (dvs d) ≠ .lst [.int b0, .int b1, .int b2] := fun z => by
  injection z with z
  unfold dvs at z
  cases z
theorem DoorS.but {H H' : Hp} {p : Addr} {v : V} {d : Door} (x : DoorS H v d) (b : But p H H') (bx : Box H p) : DoorS H' v d := by
  obtain ⟨t, e, sq⟩ := x
  exact ⟨t, e, sq.imp (fun q => b _ _ (bx.ne q (dvs_box d)) q) (fun q => b _ _ (bx.ne q (fun _ _ _ z => by cases z)) q)⟩
theorem DoorS.same {H H' : Hp} {v : V} {d : Door} (x : DoorS H v d) (s : Same H H') : DoorS H' v d := by
  obtain ⟨t, e, sq⟩ := x
  exact ⟨t, e, sq.same s⟩
theorem av_doorsS {H : Hp} {b : Addr} {vs : List V} {h : Hs} (g : GoodH h) (e : SeqAt H b vs) (p : Paired (DoorS H) vs h.doors) : AvAt H (.ref b) (.sq (h.doors.map dT)) :=
  ⟨b, vs, rfl, e, paired_map' dT p fun _ _ hd ⟨t, e, sq⟩ => ⟨t, e, sq, by show 4 ≤ 20; decide, door_flat g hd⟩, by rw [List.length_map]; have := g.d12; omega⟩
/-- all but these three stand -/
def Al (x y z : Addr) (H H' : Hp) : Prop := ∀ b o, b ≠ x → b ≠ y → b ≠ z → H b = some o → H' b = some o
theorem HouseN.al {H H' : Hp} {x y z C o : Addr} {lx ly lz : List V} {h : Hs} {dx tp td tc D1 D2 D3 te tq tk : Addr} {vd vc ve : List V} {k1 k2 k3 : List (Key × V)} (n : HouseN H C o h dx tp td tc D1 D2 D3 te tq tk vd vc ve k1 k2 k3) (s : Al x y z H H') (hx : H x = some (.lst lx)) (hy : H y = some (.lst ly)) (hz : H z = some (.lst lz)) : HouseN H' C o h dx tp td tc D1 D2 D3 te tq tk vd vc ve k1 k2 k3 := by
  have st : ∀ {a : Addr} {u : HO}, H a = some u → (∀ l, u ≠ .lst l) → H' a = some u := fun {a u} e nl => s a u (fun w => by rw [w, hx] at e; cases e; exact nl _ rfl) (fun w => by rw [w, hy] at e; cases e; exact nl _ rfl) (fun w => by rw [w, hz] at e; cases e; exact nl _ rfl) e
  have nt : ∀ {a xs}, H a = some (.tup xs) → H' a = some (.tup xs) := fun {a xs} e => st e (fun _ w => by cases w)
  have nk : ∀ {a xs}, H a = some (.dK xs) → H' a = some (.dK xs) := fun {a xs} e => st e (fun _ w => by cases w)
  exact {
    ins := st n.ins (fun _ w => by cases w)
    pa := nt n.pa
    da := nt n.da
    dp := paired_mono (fun _ _ r => r.mono fun c ec => nt ec) n.dp
    ca := nt n.ca
    cp := paired_mono (fun _ _ r => r.mono fun c ec => nt ec) n.cp
    n1 := nk n.n1
    m1 := n.m1
    n2 := nk n.n2
    m2 := n.m2
    n3 := nk n.n3
    m3 := n.m3
    ea := nt n.ea
    ep := paired_mono (fun _ _ ⟨t, e, et⟩ => ⟨t, e, nt et⟩) n.ep
    qa := nt n.qa
    ka := nt n.ka }
theorem tabs_al {x y z : Addr} {lx ly lz : List V} {H H' : Hp} {T : List (Addr × Str)} (s : Al x y z H H') (hx : H x = some (.lst lx)) (hy : H y = some (.lst ly)) (hz : H z = some (.lst lz)) (t : Tabs T H) : Tabs T H' := fun q hq => by
  have st : ∀ {a : Addr} {u : HO}, H a = some u → (∀ l, u ≠ .lst l) → H' a = some u := fun {a u} e nl => s a u (fun w => by rw [w, hx] at e; cases e; exact nl _ rfl) (fun w => by rw [w, hy] at e; cases e; exact nl _ rfl) (fun w => by rw [w, hz] at e; cases e; exact nl _ rfl) e
  obtain ⟨ps, h1, h2, h3⟩ := t q hq
  refine ⟨ps, st h1 (fun _ z => by cases z), h2, fun pos cv hc => ?_⟩
  obtain ⟨c, e1, e2⟩ := h3 pos cv hc
  exact ⟨c, e1, st e2 (fun _ z => by cases z)⟩
def g4 : List Value → List Value → List Value
  | [s], [c, p, d] => [s, p, d, c]
  | _, _ => []
def gV4 : List V → List V → List V
  | [s], [c, p, d] => [s, p, d, c]
  | _, _ => []
/-- what the law needs of the defs -/
structure Defs (P : Program) (w : World) (K : W.Frag) (mg : Str → Option Value) (base : Heap) (C CH CT CN : Addr) : Prop where
  box : Callee P w K mg base "_law_box" 1 ["script", "k"] (spBox K)
  take : Callee P w K mg base "_law_take" 1 ["box", "many"] spTake
  pick : Callee P w K mg base "_law_pick" 2 ["box", "some"] spPick
  things : Callee P w K mg base "_law_things" 3 ["box", "most"] spThings
  ltext : Callee P w K mg base "_law_text" 1 ["parts", "doors", "cells"] spLText
  right : Callee P w K mg base "_law_numbers_right" 5 ["house", "parts", "doors", "cells"] (spRight C)
  kright : Callee P w K mg base "_law_kept_right" 7 ["box", "house", "parts", "doors", "cells"] (spKR C)
  unk : Unk P w K mg base CN
  kc : KeptC P w K mg base C CN
  hm : HouseM P w K mg base C CN
  m : mg "House" = some (.ref C)
  init : ∃ fI fdI, Mk K C fI ∧ Binds K fdI ["self", "parts", "doors", "cells"] [] ∧ FnOk P w K mg base (L2.CX P w) 4 fI fdI ["self", "parts", "doors", "cells"] (spInit C CH)
  initK : ∃ fI fdI, Mk K C fI ∧ KBn K fdI ["self", "parts", "doors", "cells"] 1 ["cells", "parts", "doors"] g4 gV4 ∧ FnOk P w K mg base (L2.CX P w) 4 fI fdI ["self", "parts", "doors", "cells"] (spInit C CH)
  read : ∃ mc r g fd, ClX.CRead K C mc ∧ SMet K C mc "read" r g ∧ Binds K fd ["text"] [] ∧ FnOk P w K mg base (L2.CX P w) 6 g fd ["text"] (spRead C CH CT)
  text : ∃ fT fd, Meth K C "text" fT ∧ Binds K fd ["self"] [] ∧ FnOk P w K mg base CX0 1 fT fd ["self"] (spText C)
  eq : ∃ f fd, W.findIn K (.ref C) "__eq__" = some (some (.ref f)) ∧ W.isFn K (.ref f) = true ∧ Binds K fd ["self", "other"] [] ∧ FnOk P w K mg base CX0 1 f fd ["self", "other"] (spEq K C)
  ne : W.findIn K (.ref C) "__ne__" = some (some (.builtin "object.__ne__"))
  ob : W.mroIn K C (.type "object") = some true
  ns : W.notFirst K C (.type "str") = true
  nt : W.notFirst K C (.type "tuple") = true
  ks : W.kitOne K (.type "str") (.ref C) = some false
  kt : W.kitOne K (.type "tuple") (.ref C) = some false
  kref : ∃ (g : Addr) (oc : Value) (od : Option Addr) (kV doc pm : Value) (an : Option Addr) (cdv ct : Value) (osl : Array (Option Value)), mg "_law_kept_refused" = some (.ref g) ∧ W.keepIn K (.ref g) = true ∧
    K.lookup g = some ⟨oc, od, .func (W.fnOf "_law_kept_refused" "_law_kept_refused" (defArgs sKeptRef) (defBody sKeptRef) (defScope sKeptRef) .none kV doc pm an cdv ct), osl⟩ ∧ W.codeIn K cdv "_law_kept_refused" = true
section
variable {P : Program} {w : World} {K : W.Frag} {mg : Str → Option Value} {base : Heap}
theorem passX {X : Cx} : Passes (L2.CX X.prog X.w) X (fun _ _ _ => False) := passes_call LamX.takes0 (fun _ _ _ _ h => h)
theorem law_ok {f c Pt C CH CT CN a : Addr} {fd : FuncData} {T : List (Addr × Str)} {s : Shared} {H : Hp} {ns : List Int} (F : Fun K "law" "law" sLaw f fd) (hc : fd.code = .ref c) (TB : TabB base mg c Pt) (hmT : (Pt, qL) ∈ T) (hu : ∀ p ∈ T, p.1 = Pt → p.2 = qL) (B : Bl mg)
    (D : Defs P w K mg base C CH CT CN) (e0 : Env0 P w K mg base callerA [] s H) (bind : Binds K fd ["script"] []) (tb : Tabs T H) (sq : SqL K H a (ns.map V.int)) (few : ns.length ≤ 63) :
    codeAny (model P w) callerA (.call (.ref f) ⟨[.ref a], []⟩) (CR CX0 [] P w H s (fun v _ => v = .bl true) E0) s := by
  refine law_runC (vs := [V.ref a]) F hc scL e0 bind (.cons (show RelV (V.ref a) (Value.ref a) from rfl) .nil) rfl ?_
  have hr9 : Room 9 (callerA.deeper (envOfC "law" (defScope sLaw) s.heap.objs.size f (.ref c))) := (show Room 10 callerA from ⟨rfl, by decide, by decide⟩).deeper _
  have hr7 := hr9.mono (show 7 ≤ 9 by decide)
  have hr6 := hr9.mono (show 6 ≤ 9 by decide)
  have hr5 := hr9.mono (show 5 ≤ 9 by decide)
  have hr3 := hr9.mono (show 3 ≤ 9 by decide)
  have hr2 := hr9.mono (show 2 ≤ 9 by decide)
  have hr1 := hr9.mono (show 1 ≤ 9 by decide)
  have un := hr9.units
  obtain ⟨fI, fdI, mk, bI, FI⟩ := D.init
  obtain ⟨fI2, fdI2, mk2, bI2, FI2⟩ := D.initK
  obtain ⟨mc, r, g, fdr, rd, sm, br, FR⟩ := D.read
  obtain ⟨fT, fdT, mT, bT, FT⟩ := D.text
  obtain ⟨fE, fdE, iE, nE, bE, FE⟩ := D.eq
  obtain ⟨fP, fdP, mP, bP, okP⟩ := D.hm.np
  obtain ⟨fN, fdN, mN, bN, okN⟩ := D.hm.nd
  obtain ⟨fL, fdL, mL, bL, okL⟩ := D.hm.nc
  obtain ⟨gK, ocK, odK, kVK, docK, pmK, anK, cdK, ctK, oslK, mKr, kpK, lkK, cdeK⟩ := D.kref
  have Tc := D.hm.T
  have Dns := D.ns
  have Dnt := D.nt
  have Dks := D.ks
  have Dkt := D.kt
  have opE : OpR (cxOf CX0 P w K mg base NLw "law" (defScope sLaw) f (.ref c) callerA [] s H E0).nox (compareOp .Eq) (rEqO K C (spEq K C)) := op_eqO FE iE nE bE hr1
  have opN : OpR (cxOf CX0 P w K mg base NLw "law" (defScope sLaw) f (.ref c) callerA [] s H E0).nox (compareOp .NotEq) (rNeO K C (spEq K C)) := op_neO FE D.ne D.ob iE nE bE hr2
  refine ⟨_, pss_cons (ps_for PassesOwn.never rfl (pi_range1 rfl B.range (pa_cons (pe_callB (call_max2 rfl) (by rfl) B.max (by decide +kernel) (pa_cons pe_int (pa_cons (pe_callB (call_min2 rfl) (by rfl) B.min (by decide +kernel) (pa_cons pe_int
        (pa_cons (pe_callB call_len_seq (by rfl) B.nums.len PySem.boot_len (pa_cons (pv 0) pa_nil)) pa_nil))) pa_nil))) pa_nil)) (pg_name (i := 1) scL.nd rfl (Or.inl rfl))
      (pss_cons (ps_set (i := 2) scL.nd rfl (Or.inr rfl) (pe_callee D.box hr1 rfl (pa_cons (pv 0) (pa_cons (pv 1) pa_nil))))
      (pss_cons (ps_asg (pe_callee D.things hr3 rfl (pa_cons (pv 2) (pa_cons pe_int pa_nil))) (pg_tup rfl (pgs_cons (pg_name (i := 3) scL.nd rfl (Or.inr rfl)) (pgs_cons (pg_name (i := 4) scL.nd rfl (Or.inl rfl)) (pgs_cons (pg_name (i := 5) scL.nd rfl (Or.inr rfl)) pgs_nil)))))
      (pss_cons (ps_set (i := 6) scL.nd rfl (Or.inl rfl) (pe_tup (pa_cons (pe_callTy call_list_of (by rfl) B.list (by decide +kernel) (pa_cons (pv 3) pa_nil)) (pa_cons (pe_lc (own := [("door", 13)]) (g := gName 13) (tt := tYes) (by rfl) scL.nd (pi_list (pv 4))
          (blkOk_by (own := [("door", 13)]) (N := NLw) (sc := defScope sLaw) (by decide +kernel))
          (fun _ _ _ _ _ => pg_name (i := 13) scL.nd rfl (Or.inl rfl)) (fun _ _ _ _ _ => pts_nil)
          (fun _ _ _ _ _ => pe_ifExp (pt_cmpR op_eq (pe_callee D.take hr1 (by rfl) (pa_cons (pv 2) (pa_cons pe_int pa_nil))) pe_int (nomark _)) (show PE _ _ (tCB (fun xs H Q => ∃ p ys, xs = [V.ref p] ∧ (SqL K H p ys ∨ SqT K H p ys) ∧ ∀ l, H l = none → Q (.ref l) (upd H l (.lst ys))) (tCons (tVar 13) tNil)) from (pe_callTy call_list_of (by rfl) B.list (by decide +kernel) (pa_cons (pv 13) pa_nil))) (pv 13)))
          (pa_cons (pe_callTy call_list_of (by rfl) B.list (by decide +kernel) (pa_cons (pv 5) pa_nil)) pa_nil)))))
      (pss_cons (ps_set (i := 7) scL.nd rfl (Or.inr rfl) (pe_makeK0 mk2 FI2 hr5 rfl D.m bI2 passX (pk_cons (pe_callTy call_tuple_of (by rfl) B.tuple (by decide +kernel) (pa_cons (pe_ix ix_tup (pv 6) pe_int (fun _ _ => rfl)) pa_nil)) (pk_cons (pe_ix ix_tup (pv 6) pe_int (fun _ _ => rfl)) (pk_cons (pe_ix ix_tup (pv 6) pe_int (fun _ _ => rfl)) pk_nil)))))
      (pss_cons (ps_for PassesOwn.never rfl (pi_tup (pv 6)) (pg_name (i := 8) scL.nd rfl (Or.inl rfl)) (pss_one (ps_expr (pe_bm PySem.F.plainAttrs_list PySem.F.slot_list_append PySem.F.type_list_append mt_append (pv 8) (pa_cons pe_str pa_nil)))))
      (pss_cons (ps_if (pt_cmpR (op_neD un) (pe_tup (pa_cons (pe_fld (pv 7) rfl) (pa_cons (pe_fld (pv 7) rfl) (pa_cons (pe_fld (pv 7) rfl) pa_nil))))
          (pe_tup (pa_cons (pe_callTy call_tuple_of (by rfl) B.tuple (by decide +kernel) (pa_cons (pv 3) pa_nil)) (pa_cons (pe_callTy call_tuple_of (by rfl) B.tuple (by decide +kernel) (pa_cons (pv 4) pa_nil)) (pa_cons (pe_callTy call_tuple_of (by rfl) B.tuple (by decide +kernel) (pa_cons (pv 5) pa_nil)) pa_nil)))) (nomark _)) (pss_one ps_never) pss_nil)
      (pss_cons (ps_if (PW.pt (pw_or (pt_not (pt_val (pe_callee D.right hr5 (by rfl) (pa_cons (pv 7) (pa_cons (pv 3) (pa_cons (pv 4) (pa_cons (pv 5) pa_nil))))))) (pw_or1 (pt_not (pt_val (pe_callee D.kright hr7 (by rfl) (pa_cons (pv 2) (pa_cons (pv 7) (pa_cons (pv 3) (pa_cons (pv 4) (pa_cons (pv 5) pa_nil))))))))))) (pss_one ps_never) pss_nil)
      (pss_cons (ps_set (i := 9) scL.nd rfl (Or.inl rfl) (pe_callee D.ltext hr1 rfl (pa_cons (pv 3) (pa_cons (pv 4) (pa_cons (pv 5) pa_nil)))))
      (pss_cons (ps_set (i := 10) scL.nd rfl (Or.inl rfl) (pe_smeth (pe_glob (v := .ref C) rfl D.m rfl) rd sm FR hr6 br passX (pa_cons (pv 9) pa_nil)))
      (pss_cons (ps_if (PW.pt (pw_or (pt_cmpR op_ne (pe_meth0 (pv 7) Tc.cl mT FT hr1 bT .nil pass0) (pv 9) (nomark _)) (pw_or (pt_cmpR opN (pv 10) (pv 7) (nomark _)) (pw_or (pt_cmpR op_ne (pe_meth0 (pv 10) Tc.cl mT FT hr1 bT .nil pass0) (pv 9) (nomark _))
          (pw_or (pt_cmpR opE (pv 7) (pv 9) (nomark _)) (pw_or1 (pt_cmpR opE (pv 7) (pe_fld (pv 7) rfl) (nomark _)))))))) (pss_one ps_never) pss_nil)
      (pss_cons (ps_set (i := 11) scL.nd rfl (Or.inr rfl) (pe_callee D.pick hr2 rfl (pa_cons (pv 2) (pa_cons (pe_lst (pa_cons pe_str (pa_cons pe_str (pa_cons pe_non (pa_cons pe_int (pa_cons (pe_tup (pa_cons pe_str pa_nil)) (pa_cons pe_str (pa_cons (pe_op op_add_str (pe_ix ix_list (pv 3) pe_int (fun _ _ => rfl)) pe_str) pa_nil)))))))) pa_nil))))
      (pss_cons (ps_if (pt_not (pt_val (pe_unk D.unk (by rfl) calm_guards TB rfl hmT hu hr6 (lamS_by (sc := defScope sLaw) (by decide +kernel)) rfl (fun _ _ _ _ _ => rfl) (fun A outer s H E f' c' hr' => pe_meth (pv 7) Tc.cl mP okP hr' bP .nil (passes_call (takes_of rfl rfl rfl rfl) (fun _ _ _ _ h => h)) (pa_cons (pv 11) pa_nil)) (pv 11)))) (pss_one ps_never) pss_nil)
      (pss_cons (ps_if (pt_not (pt_val (pe_unk D.unk (by rfl) calm_guards TB rfl hmT hu hr6 (lamS_by (sc := defScope sLaw) (by decide +kernel)) rfl (fun _ _ _ _ _ => rfl) (fun A outer s H E f' c' hr' => pe_meth (pv 7) Tc.cl mN okN hr' bN .nil (passes_call (takes_of rfl rfl rfl rfl) (fun _ _ _ _ h => h)) (pa_cons (pv 11) pa_nil)) (pv 11)))) (pss_one ps_never) pss_nil)
      (pss_cons (ps_if (pt_not (pt_val (pe_unk D.unk (by rfl) calm_guards TB rfl hmT hu hr6 (lamS_by (sc := defScope sLaw) (by decide +kernel)) rfl (fun _ _ _ _ _ => rfl) (fun A outer s H E f' c' hr' => pe_meth (pv 7) Tc.cl mL okL hr' bL .nil (passes_call (takes_of rfl rfl rfl rfl) (fun _ _ _ _ h => h)) (pa_cons (pv 11) pa_nil)) (pv 11)))) (pss_one ps_never) pss_nil)
      (pss_cons (ps_if (pt_not (pt_val (pe_unk D.unk (by rfl) calm_guards TB rfl hmT hu hr6 (lamS_by (sc := defScope sLaw) (by decide +kernel)) rfl (fun _ _ _ _ _ => rfl) (fun A outer s H E f' c' hr' => pe_meth (pv 7) Tc.cl mN okN hr' bN .nil (passes_call (takes_of rfl rfl rfl rfl) (fun _ _ _ _ h => h)) (pa_cons (show PE _ _ (tOp (rIxL K) (tVar 3) (tC (.int 0))) from pe_ix ix_list (pv 3) pe_int (fun _ _ => rfl)) pa_nil)) (pe_ix ix_list (pv 3) pe_int (fun _ _ => rfl))))) (pss_one ps_never) pss_nil)
      (pss_cons (ps_if (pt_not (pt_val (pe_unk D.unk (by rfl) calm_guards TB rfl hmT hu hr6 (lamS_by (sc := defScope sLaw) (by decide +kernel)) rfl (fun _ _ _ _ _ => rfl) (fun A outer s H E f' c' hr' => pe_meth (pv 7) Tc.cl mL okL hr' bL .nil (passes_call (takes_of rfl rfl rfl rfl) (fun _ _ _ _ h => h)) (pa_cons (pe_str) pa_nil)) (pe_str)))) (pss_one ps_never) pss_nil)
      (pss_cons (ps_set (i := 12) scL.nd rfl (Or.inl rfl) (pe_ifExp (pt_val (pe_callB call_isi (by rfl) B.isi (by decide +kernel) (pa_cons (pv 11) (pa_cons (pe_bltn (v := .ty "str") rfl B.str (by decide +kernel) rfl) pa_nil)))) (pv 11) pe_str))
      (pss_cons (ps_if (pt_cmpR op_ne (pe_callS (TT := TTkr K C) (Ng := NKr) (ps := ["house", "names"]) (k := 6) rfl mKr kpK lkK cdeK (.all fun us hl => match us, hl with | [_, _], _ => rfl) scKr hr7 (pa_cons (pv 7) (pa_cons (pe_op op_cat (pe_lc (own := [("cell", 14)]) (g := gName 14) (tt := tYes) (by rfl) scL.nd (pi_list (pv 5))
          (blkOk_by (own := [("cell", 14)]) (N := NLw) (sc := defScope sLaw) (by decide +kernel))
          (fun _ _ _ _ _ => pg_name (i := 14) scL.nd rfl (Or.inl rfl)) (fun _ _ _ _ _ => pts_nil) (fun _ _ _ _ _ => show PE _ _ (tOp (rIxT K) (tVar 14) (tC (.int 0))) from pe_ix ix_tup (pv 14) pe_int (fun _ _ => rfl))) (pe_lst (pa_cons (pv 12) pa_nil))) pa_nil))
          (fun vs H Q h => by obtain ⟨_, _, _, _, _, _, rfl, _⟩ := h; rfl) (fun s H Q vs hr h => keptref_runs D.unk.cn D.unk.ex D.unk.bl D.kc calm_guards s H Q vs hr h))
          (pe_callB (call_repr calm_guards un) (by rfl) B.repr (by decide +kernel) (pa_cons (pv 12) pa_nil)) (nomark _)) (pss_one ps_never) pss_nil)
      (pss_cons (ps_if (PW.pt (pw_and (pt_cmpR (op_neD un) (pv 5) (pe_lst pa_nil) (nomark _)) (pw_and1 (pt_not (pt_val (pe_unk D.unk (by rfl) calm_guards TB rfl hmT hu hr6 (lamS_by (sc := defScope sLaw) (by decide +kernel)) rfl (fun _ _ _ _ _ => rfl) (fun A outer s H E f' c' hr' => pe_meth (pv 7) Tc.cl mP okP hr' bP .nil (passes_call (takes_of rfl rfl rfl rfl) (fun _ _ _ _ h => h)) (pa_cons (show PE _ _ (tOp (rIxT K) (tOp (rIxL K) (tVar 5) (tC (.int 0))) (tC (.int 0))) from pe_ix ix_tup (pe_ix ix_list (pv 5) pe_int (fun _ _ => rfl)) pe_int (fun _ _ => rfl)) pa_nil)) (pe_ix ix_tup (pe_ix ix_list (pv 5) pe_int (fun _ _ => rfl)) pe_int (fun _ _ => rfl)))))))) (pss_one ps_never) pss_nil)
      (pss_one (ps_if (PW.pt (pw_and (pt_cmpR (op_neD un) (pv 5) (pe_lst pa_nil) (nomark _)) (pw_and1 (pt_cmpR opE (pv 7) (pe_make mk FI hr5 rfl D.m bI .nil passX (pa_cons (pv 3) (pa_cons (pv 4) (pa_cons (pe_slice sl_list (pv 5) (po_some pe_int) po_none) pa_nil)))) (nomark _))))) (pss_one ps_never) pss_nil)))))))))))))))))))))) (pss_one (ps_ret pe_bl)), ?_⟩
  have len : (((ns.map V.int).length : Nat) : Int) = ns.length := by rw [List.length_map]
  have line : (1000 : Nat) ≤ sizeLine := by decide
  refine ⟨_, rfl, a, _, rfl, .inl sq, _, _, rfl, _, _, rfl, _, rfl, ?_, ?_, for_range (fun i σ H' => ∃ v1 v2 v3 v4 v5 v6 v7 v8 v9 v10 v11 v12 : Option V, σ = [some (.ref a), v1, v2, v3, v4, v5, v6, v7, v8, v9, v10, v11, v12, none, none] ∧ ExtN H H' ∧ Tabs T H')
    ⟨none, none, none, none, none, none, none, none, none, none, none, none, rfl, ExtN.refl _, tb⟩ ?_ ?_⟩
  · rw [len]
    split <;> split <;> omega
  · rw [len]
    split <;> split <;> omega
  · rintro i σ H1 hi ⟨v1, v2, v3, v4, v5, v6, v7, v8, v9, v10, v11, v12, rfl, x1, t1⟩
    have hi2 : i ≤ 2 ∧ (i < ns.length ∨ ns = []) := by
      rw [len] at hi
      cases ns with
      | nil => exact ⟨by simp at hi; omega, .inr rfl⟩
      | cons n r =>
        simp only [List.length_cons] at hi ⊢
        refine ⟨?_, .inl ?_⟩
        · split at hi <;> split at hi <;> omega
        · split at hi <;> split at hi <;> omega
    refine ⟨_, rfl, _, rfl, a, ns, i, by rw [Int.zero_add]; rfl, seq_extn x1 sq, few, hi2.1, hi2.2, fun H2 p s2 np x2 => ?_⟩
    refine ⟨_, rfl, p, rfl, x2, fun h H3 t a' b' c' good but3 x3 nt et hs3 => ?_⟩
    have gH := good.toH
    have L3 : Lw p a' b' c' h T H1 H3 := ⟨(BN.of s2).trans (.but but3), x3, tabs_butB x2 but3 (t1.ext s2), hs3⟩
    refine ⟨t, _, rfl, SqT.of et, rfl, _, _, rfl, _, _, rfl, _, _, rfl, rfl, ?_⟩
    -- what is handed over
    refine ⟨_, rfl, a', _, rfl, .inl (SqL.of hs3.pa), fun l1 m1 => ?_⟩
    have s4 := same_upd (o := .lst (h.parts.map V.str)) m1
    have at1 : upd H3 l1 (.lst (h.parts.map V.str)) l1 = some (.lst (h.parts.map V.str)) := upd_same
    revert s4 at1
    generalize upd H3 l1 (.lst (h.parts.map V.str)) = H4
    intro s4 at1
    have L4 := L3.same s4
    obtain ⟨ld, hd, pd⟩ := L4.hs.da
    have lld := paired_len pd
    have d7 := good.d7
    refine ⟨_, rfl, b', rfl, ⟨_, SqL.of hd⟩, fun D nD => ?_⟩
    have Dp : D ≠ p := fun z => by
      obtain ⟨_, _, _, e, _⟩ := L4.box
      rw [← z, nD] at e
      cases e
    refine lc_list (xs := ld) (fun j H' => But p H4 H' ∧ Box H' p ∧ ∃ acc, H' D = some (.lst acc) ∧ Paired (DoorS H') acc (h.doors.take j)) ⟨But.of_same (same_upd nD), L4.box.same (same_upd nD), [], upd_same, .nil⟩ (fun j H' _ z => SqL.of (z.1 _ _ (L4.box.ne hd (doors_box pd)) hd)) ?_ ?_
    · rintro j x G1 hx ⟨b1, y1, acc, at_D, pa⟩
      obtain ⟨d, hdi, t', rfl, et'⟩ := paired_get pd hx
      obtain ⟨hl, rfl⟩ := List.getElem?_eq_some_iff.mp hdi
      have la := paired_len pa
      rw [List.length_take] at la
      refine ⟨rfl, kept ⟨_, rfl, p, _, rfl, y1, by decide, by decide, fun r G2 r0 r2 b2 y2 => ⟨rfl, _, rfl, ?_⟩⟩⟩
      have b12 := b1.trans b2
      have et2 := b12 _ _ (L4.box.ne et' (fun _ _ _ z => by cases z)) et'
      have at2 := b2 _ _ Dp at_D
      have pa2 : Paired (DoorS G2) acc (h.doors.take j) := paired_mono (fun _ _ q => q.but b2 y1) pa
      have fin : ∀ (G3 : Hp) (v : V), Same G2 G3 → DoorS G3 v h.doors[j] → ∃ acc0, G3 D = some (.lst acc0) ∧ acc0.length < sizeLine ∧ But p H4 (upd G3 D (.lst (acc0 ++ [v]))) ∧ Box (upd G3 D (.lst (acc0 ++ [v]))) p ∧ ∃ acc', upd G3 D (.lst (acc0 ++ [v])) D = some (.lst acc') ∧ Paired (DoorS (upd G3 D (.lst (acc0 ++ [v])))) acc' (h.doors.take (j + 1)) := fun G3 v s3 dv => by
        have at3 := s3 _ _ at2
        have pa3 : Paired (DoorS G3) acc (h.doors.take j) := paired_mono (fun _ _ q => q.same s3) pa2
        have keep : ∀ {v' : V} {d : Door}, DoorS G3 v' d → DoorS (upd G3 D (.lst (acc ++ [v]))) v' d := fun {v' d} q => by
          obtain ⟨x, e, sq'⟩ := q
          have xD : x ≠ D := fun z => by
            subst z
            rcases sq' with e' | e'
            · rw [at3] at e'
              injection e' with e'
              injection e' with e'
              subst e'
              generalize h.doors.take j = dj at pa3
              cases pa3 with
              | cons r _ =>
                obtain ⟨_, z, _⟩ := r
                cases z
            · rw [at3] at e'
              cases e'
          exact ⟨x, e, sq'.imp (fun z => by rw [upd_ne xD]; exact z) (fun z => by rw [upd_ne xD]; exact z)⟩
        refine ⟨acc, at3, by omega, fun e o' ne e' => ?_, ?_, acc ++ [v], upd_same, ?_⟩
        · rw [upd_ne (ne_of_none e' nD)]
          exact s3 _ _ (b12 _ _ ne e')
        · obtain ⟨y0, y1', y2', e, hy⟩ := y2.same s3
          exact ⟨y0, y1', y2', by rw [upd_ne (Ne.symm Dp)]; exact e, hy⟩
        · rw [List.take_succ_eq_append_getElem hl]
          exact paired_snoc (paired_mono (fun _ _ q => keep q) pa3) (keep dv)
      refine ite2 (fun _ => ?_) (fun _ => ?_)
      · exact ⟨_, rfl, t', _, rfl, .inr (SqT.of et2), fun l nl => fin _ _ (same_upd nl) ⟨l, rfl, .inl upd_same⟩⟩
      · exact ⟨_, rfl, fin _ _ (Same.refl _) ⟨t', rfl, .inr et2⟩⟩
    rintro H5 ⟨b5, y5, vs5, at5, pd5⟩
    rw [lld, List.take_length] at pd5
    have L5 := L4.but b5 y5
    have at1' := b5 _ _ (L4.box.ne at1 (strs_box _)) at1
    obtain ⟨lc, hc', pc⟩ := L5.hs.ca
    refine ⟨_, rfl, c', _, rfl, .inl (SqL.of hc'), fun l3 m3 => ⟨by show 3 ≤ sizeLine; decide, fun u nu => ?_⟩⟩
    have s6 := (same_upd (o := .lst lc) m3).trans (same_upd (o := .tup [.ref l1, .ref D, .ref l3]) nu)
    have at_u : upd (upd H5 l3 (.lst lc)) u (.tup [.ref l1, .ref D, .ref l3]) u = some (.tup [.ref l1, .ref D, .ref l3]) := upd_same
    have at_l3 := same_upd (o := .tup [.ref l1, .ref D, .ref l3]) nu _ _ (show upd H5 l3 (.lst lc) l3 = some (.lst lc) from upd_same)
    show Ends.nx _ _ (upd (upd H5 l3 (.lst lc)) u (.tup [.ref l1, .ref D, .ref l3]))
    revert s6 at_u at_l3
    generalize upd (upd H5 l3 (.lst lc)) u (.tup [.ref l1, .ref D, .ref l3]) = H6
    intro s6 at_u at_l3
    have L6 := L5.same s6
    have at_l1 := s6 _ _ at1'
    have at_D := s6 _ _ at5
    have pd6 : Paired (DoorS H6) vs5 h.doors := paired_mono (fun _ _ q => q.same s6) pd5
    have pc6 : Paired (CellAt H6) lc h.cells := paired_mono (fun _ _ r => r.mono fun t e => s6 _ _ e) pc
    refine ⟨_, rfl, u, _, _, _, rfl, rfl, SqT.of at_u, atI_nat (j := 2) rfl, l3, _, rfl, .inl ⟨SqL.of at_l3, fun wt nw => ?_⟩⟩
    have s7 := same_upd (o := .tup lc) nw
    have at_w : upd H6 wt (.tup lc) wt = some (.tup lc) := upd_same
    revert s7 at_w
    generalize upd H6 wt (.tup lc) = H7
    intro s7 at_w
    have L7 := L6.same s7
    refine ⟨_, rfl, u, _, _, _, rfl, rfl, SqT.of (s7 _ _ at_u), atI_nat (j := 0) rfl, _, rfl, u, _, _, _, rfl, rfl, SqT.of (s7 _ _ at_u), atI_nat (j := 1) rfl, rfl, rfl, fun o dx no ndx ne => ?_⟩
    have sX : Same H7 (upd (upd H7 dx (.own o)) o (.ins C dx [])) := fun b u e => by
      rw [upd_ne (ne_of_none e no), upd_ne (ne_of_none e ndx)]
      exact e
    refine ⟨o, dx, _, _, _, _, _, _, rfl, upd_same, av_parts gH (.inl (sX _ _ (s7 _ _ at_l1))), av_doorsS gH (.inl (sX _ _ (s7 _ _ at_D))) (paired_mono (fun _ _ q => (q.same s7).same sX) pd6), av_cells gH (.inr (sX _ _ at_w)) (paired_mono (fun _ _ r => r.mono fun t e => sX _ _ (s7 _ _ e)) pc6), .inr ⟨h, ⟨gH, rfl, rfl, rfl⟩, fun H8 b8 hx8 => ⟨rfl, ?_⟩⟩⟩
    have s8 : Same H7 H8 := fun b u e => b8 b u (ne_of_none e no) (sX _ _ e)
    have L8 := L7.same s8
    have at_u8 := s8 _ _ (s7 _ _ at_u)
    have n12 : l1 ≠ D := ne_of_none at1 nD
    have n13 : l1 ≠ l3 := ne_of_none at1' m3
    have n23 : D ≠ l3 := ne_of_none at5 m3
    have e1 := s8 _ _ (s7 _ _ at_l1)
    have e2 := s8 _ _ (s7 _ _ at_D)
    have e3 := s8 _ _ (s7 _ _ at_l3)
    have lvs := paired_len pd6
    have llc := paired_len pc6
    have p6 := good.p6
    have c3 := good.c3
    refine ⟨_, rfl, u, rfl, ⟨_, SqT.of at_u8⟩, for_it (walk_tup (xs := [.ref l1, .ref D, .ref l3])) (fun j σ H' => ∃ v8 : Option V, σ = [some (.ref a), some (.int (0 + (i : Nat))), some (.ref p), some (.ref a'), some (.ref b'), some (.ref c'), some (.ref u), some (.ref o), v8, v9, v10, v11, v12, none, none] ∧ Al l1 D l3 H8 H' ∧
      ∃ x1 x2 x3, H' l1 = some (.lst x1) ∧ H' D = some (.lst x2) ∧ H' l3 = some (.lst x3) ∧ x1.length ≤ 20 + j ∧ x2.length ≤ 20 + j ∧ x3.length ≤ 20 + j)
      ⟨_, rfl, fun _ _ _ _ _ e => e, _, _, _, e1, e2, e3, by rw [List.length_map]; omega, by omega, by omega⟩ (fun j σ H' _ z => ?_) ?_ ?_⟩
    · obtain ⟨_, _, al, _⟩ := z
      exact SqT.of (al _ _ (ne_of at_u8 e1 (fun z => by cases z)) (ne_of at_u8 e2 (fun z => by cases z)) (ne_of at_u8 e3 (fun z => by cases z)) at_u8)
    · rintro j x σ' G G' hj ⟨v8', rfl, al, x1, x2, x3, g1, g2, g3, q1, q2, q3⟩ ⟨rfl, hx⟩
      have hj3 : j < 3 := hj
      match j, hj3, hx with
      | 0, _, hx =>
        obtain rfl := (Option.some.inj hx).symm
        refine ⟨_, rfl, .inl ⟨rfl, _, SqL.of g1⟩, l1, _, _, rfl, rfl, g1, by omega, _, rfl, fun b u' nx ny nz e => ?_, _, x2, x3, upd_same, ?_, ?_, ?_, by omega, by omega⟩
        · rw [upd_ne nx]; exact al b u' nx ny nz e
        · rw [upd_ne (Ne.symm n12)]; exact g2
        · rw [upd_ne (Ne.symm n13)]; exact g3
        · rw [List.length_append]; show x1.length + 1 ≤ _; omega
      | 1, _, hx =>
        obtain rfl := (Option.some.inj hx).symm
        refine ⟨_, rfl, .inl ⟨rfl, _, SqL.of g2⟩, D, _, _, rfl, rfl, g2, by omega, _, rfl, fun b u' nx ny nz e => ?_, x1, _, x3, ?_, upd_same, ?_, by omega, ?_, by omega⟩
        · rw [upd_ne ny]; exact al b u' nx ny nz e
        · rw [upd_ne n12]; exact g1
        · rw [upd_ne (Ne.symm n23)]; exact g3
        · rw [List.length_append]; show x2.length + 1 ≤ _; omega
      | 2, _, hx =>
        obtain rfl := (Option.some.inj hx).symm
        refine ⟨_, rfl, .inl ⟨rfl, _, SqL.of g3⟩, l3, _, _, rfl, rfl, g3, by omega, _, rfl, fun b u' nx ny nz e => ?_, x1, x2, _, ?_, ?_, upd_same, by omega, by omega, ?_⟩
        · rw [upd_ne nz]; exact al b u' nx ny nz e
        · rw [upd_ne n13]; exact g1
        · rw [upd_ne n23]; exact g2
        · rw [List.length_append]; show x3.length + 1 ≤ _; omega
    rintro σ' H9 ⟨v8', rfl, al, x1', x2', x3', g1, g2, g3, _⟩
    -- from here on the three lists matter no more
    have o1 : ∀ {b : Addr} {w0 : HO}, H3 b = some w0 → b ≠ l1 := fun {b w0} e => ne_of_none e m1
    have o2 : ∀ {b : Addr} {w0 : HO}, H3 b = some w0 → b ≠ D := fun {b w0} e => ne_of_none (s4 _ _ e) nD
    have o3 : ∀ {b : Addr} {w0 : HO}, H3 b = some w0 → b ≠ l3 := fun {b w0} e => by
      by_cases z : b = p
      · obtain ⟨_, _, _, e', _⟩ := y5
        rw [z]
        exact ne_of_none e' m3
      · exact ne_of_none (b5 _ _ z (s4 _ _ e)) m3
    have L9 : Lw p a' b' c' h T H1 H9 := by
      refine ⟨fun b w0 ne e t => ?_, ?_, tabs_al al e1 e2 e3 L8.tb, ?_⟩
      · have e' := L3.bn b w0 ne e t
        exact al _ _ (o1 e') (o2 e') (o3 e') (L8.bn b w0 ne e t)
      · obtain ⟨y0, y1, y2, e, hy⟩ := L8.box
        obtain ⟨_, _, _, e', _⟩ := x3
        exact ⟨y0, y1, y2, al _ _ (o1 e') (o2 e') (o3 e') e, hy⟩
      · have st : ∀ {t : Addr} {xs : List V}, H8 t = some (.tup xs) → H9 t = some (.tup xs) := fun {t xs} e => al _ _ (ne_of e e1 (fun z => by cases z)) (ne_of e e2 (fun z => by cases z)) (ne_of e e3 (fun z => by cases z)) e
        obtain ⟨q1, ⟨v', q2, q3⟩, v'', q4, q5⟩ := L8.hs
        obtain ⟨r1, ⟨w', r2, _⟩, w'', r4, _⟩ := hs3
        exact ⟨al _ _ (o1 r1) (o2 r1) (o3 r1) q1, ⟨v', al _ _ (o1 r2) (o2 r2) (o3 r2) q2, paired_mono (fun _ _ r => r.mono fun t e => st e) q3⟩, v'', al _ _ (o1 r4) (o2 r4) (o3 r4) q4, paired_mono (fun _ _ r => r.mono fun t e => st e) q5⟩
    obtain ⟨hdx, tp, td, tc, D1, D2, D3, te, tq, tk, vd, vc, ve, k1, k2, k3, n8⟩ := hx8
    have n9 := n8.al al e1 e2 e3
    clear n8
    have lay : Lay.Lay 3 (.tuple [partsD h.parts, doorsD h.doors, cellsD h.cells]) := Lay.tup fun x hx => by
      simp only [List.mem_cons, List.not_mem_nil, or_false] at hx
      rcases hx with rfl | rfl | rfl
      · exact (lay_parts good.ok.p).up
      · exact lay_doors good.ok.d
      · exact lay_cells good.ok.c
    refine ⟨_, rfl, o, C, hdx, _, _, rfl, n9.ins, Tc.cl, Tc.n1, rfl, _, rfl, o, C, hdx, _, _, rfl, n9.ins, Tc.cl, Tc.n2, rfl, _, rfl, o, C, hdx, _, _, rfl, n9.ins, Tc.cl, Tc.n3, rfl, by show 3 ≤ sizeLine; decide, fun u1 v1 => ?_⟩
    have r1 := same_upd (o := .tup [.ref tp, .ref td, .ref tc]) v1
    have a1 : upd H9 u1 (.tup [.ref tp, .ref td, .ref tc]) u1 = some (.tup [.ref tp, .ref td, .ref tc]) := upd_same
    revert r1 a1
    generalize upd H9 u1 (.tup [.ref tp, .ref td, .ref tc]) = G1
    intro r1 a1
    refine ⟨_, rfl, a', _, rfl, .inl ⟨SqL.of (r1 _ _ L9.hs.pa), fun u2 v2 => ?_⟩⟩
    have r2 := same_upd (o := .tup (h.parts.map V.str)) v2
    have a2 : upd G1 u2 (.tup (h.parts.map V.str)) u2 = some (.tup (h.parts.map V.str)) := upd_same
    revert r2 a2
    generalize upd G1 u2 (.tup (h.parts.map V.str)) = G2
    intro r2 a2
    have r12 := r1.trans r2
    obtain ⟨vd5, hd5, pd5'⟩ := L9.hs.da
    obtain ⟨vc5, hc5, pc5'⟩ := L9.hs.ca
    refine ⟨_, rfl, b', _, rfl, .inl ⟨SqL.of (r12 _ _ hd5), fun u3 v3 => ?_⟩⟩
    have r3 := same_upd (o := .tup vd5) v3
    have a3 : upd G2 u3 (.tup vd5) u3 = some (.tup vd5) := upd_same
    revert r3 a3
    generalize upd G2 u3 (.tup vd5) = G3
    intro r3 a3
    have r13 := r12.trans r3
    refine ⟨_, rfl, c', _, rfl, .inl ⟨SqL.of (r13 _ _ hc5), fun u4 v4 => ⟨by show 3 ≤ sizeLine; decide, fun u5 v5 => ?_⟩⟩⟩
    have r4 := same_upd (o := .tup vc5) v4
    have a4 : upd G3 u4 (.tup vc5) u4 = some (.tup vc5) := upd_same
    have r5 := same_upd (o := .tup [.ref u2, .ref u3, .ref u4]) v5
    have r15 := (r13.trans r4).trans r5
    have b4 := r5 _ _ a4
    have b3 := r5 _ _ (r4 _ _ a3)
    have b2 := r5 _ _ (r4 _ _ (r3 _ _ a2))
    have b1 := r5 _ _ (r4 _ _ (r3 _ _ (r2 _ _ a1)))
    have a5 : upd (upd G3 u4 (.tup vc5)) u5 (.tup [.ref u2, .ref u3, .ref u4]) u5 = some (.tup [.ref u2, .ref u3, .ref u4]) := upd_same
    revert r15 b1 b2 b3 b4 a5
    generalize upd (upd G3 u4 (.tup vc5)) u5 (.tup [.ref u2, .ref u3, .ref u4]) = G5
    intro r15 b4 b3 b2 b1 a5
    refine nelay lay (by decide) (.tup (SqT.of b1) (.cons (dp_parts (r15 _ _ n9.pa)) (.cons (dp_doors (r15 _ _ n9.da) (paired_mono (fun _ _ r => r.mono fun c' ec => r15 _ _ ec) n9.dp)) (.cons (dp_cells (r15 _ _ n9.ca) (paired_mono (fun _ _ r => r.mono fun c' ec => r15 _ _ ec) n9.cp)) .nil))))
      (.tup (SqT.of a5) (.cons (dp_parts b2) (.cons (dp_doors b3 (paired_mono (fun _ _ r => r.mono fun c' ec => r15 _ _ ec) pd5')) (.cons (dp_cells b4 (paired_mono (fun _ _ r => r.mono fun c' ec => r15 _ _ ec) pc5')) .nil)))) ⟨_, rfl, iteF ?_⟩
    have LA := L9.same r15
    have nA := n9.same r15
    have xA : HouseX G5 C o h := ⟨_, _, _, _, _, _, _, _, _, _, _, _, _, _, _, _, nA⟩
    refine ⟨_, rfl, _, rfl, _, rfl, _, rfl, o, a', b', c', h, rfl, xA, LA.hs, gH, fun GB sB => ⟨_, rfl, iteF ?_⟩⟩
    have LB := LA.same sB
    have nB := nA.same sB
    refine ⟨_, rfl, _, rfl, _, rfl, _, rfl, _, rfl, p, o, a', b', c', h, rfl, LB.box, ⟨_, _, _, _, _, _, _, _, _, _, _, _, _, _, _, _, nB⟩, LB.hs, good, fun GC bC yC => ⟨_, rfl, iteF ?_⟩⟩
    have LC := LB.but bC yC
    have nC := nB.but bC LB.box
    -- the text, and the house read of it
    refine ⟨_, rfl, _, rfl, _, rfl, a', b', c', h, rfl, LC.hs, gH, fun GD sD => ?_⟩
    have LD := LC.same sD
    have nDd := nC.same sD
    refine ⟨rfl, _, rfl, ?_⟩
    refine read_good gH good.pl fun GE ag sE nag hag => ?_
    have LE := LD.same sE
    have nE' := nDd.same sE
    have xE : HouseIns GE C o h := HouseX.ins ⟨_, _, _, _, _, _, _, _, _, _, _, _, _, _, _, _, nE'⟩
    obtain ⟨adx, atp, atd, atc, aD1, aD2, aD3, ate, atq, atk, avd, avc, ave, ak1, ak2, ak3, nag⟩ := hag
    have xag : HouseIns GE C ag h := HouseX.ins ⟨_, _, _, _, _, _, _, _, _, _, _, _, _, _, _, _, nag⟩
    refine ⟨_, rfl, o, hdx, _, rfl, nE'.ins, rfl, o, h, rfl, xE, gH, fun GF sF => ⟨_, rfl, rfl, _, rfl, ?_⟩⟩
    rw [decide_eq_true rfl]
    refine iteF ?_
    have nF := nE'.same sF
    have nagF := nag.same sF
    refine ⟨_, rfl, _, rfl, ag, adx, _, .ref C, rfl, nagF.ins, .ins nF.ins, by simp [W.notFirst], ag, _, h, rfl, xag.same sF, good.ok, .inl ⟨o, h, rfl, xE.same sF, good.ok, _, rfl, _, rfl, ?_⟩⟩
    rw [same_self good.ok]
    refine iteF ?_
    refine ⟨_, rfl, ag, adx, _, rfl, nagF.ins, rfl, ag, h, rfl, xag.same sF, gH, fun GG sG => ⟨_, rfl, rfl, _, rfl, ?_⟩⟩
    rw [decide_eq_true rfl]
    refine iteF ?_
    have nG := nF.same sG
    have xG : HouseIns GG C o h := (xE.same sF).same sG
    refine ⟨_, rfl, _, rfl, o, hdx, _, _, rfl, nG.ins, .str _, Dns, o, _, h, rfl, xG, good.ok, .inr ⟨_, .base (.str _), Dks, _, rfl, _, rfl, iteF ?_⟩⟩
    refine ⟨_, rfl, _, rfl, o, C, hdx, _, _, rfl, nG.ins, Tc.cl, Tc.n1, rfl, o, hdx, _, _, rfl, nG.ins, .tup nG.pa, Dnt, o, _, h, rfl, xG, good.ok, .inr ⟨_, .base (.tup nG.pa), Dkt, _, rfl, _, rfl, iteF ?_⟩⟩
    have LG := (LE.same sF).same sG
    -- what is no name of this house
    have p1 := good.p1
    refine ⟨_, rfl, by show 1 ≤ sizeLine; decide, fun q nq => ?_⟩
    have sH := same_upd (o := .tup [.str "a"]) nq
    have at_q : upd GG q (.tup [.str "a"]) q = some (.tup [.str "a"]) := upd_same
    revert sH at_q
    generalize upd GG q (.tup [.str "a"]) = GH
    intro sH at_q
    have LH := LG.same sH
    have y0 : (h.parts.map V.str)[0]? = some (.str h.parts[0]) := by rw [List.getElem?_map, List.getElem?_eq_getElem p1]; rfl
    have y16 := good_parts good h.parts[0] (List.getElem_mem p1)
    have yl := name_len (n16_ok y16)
    refine ⟨_, rfl, a', _, _, _, rfl, rfl, SqL.of LH.hs.pa, atI_nat (j := 0) y0, _, _, rfl, rfl, ?_, by show 7 ≤ sizeLine; decide, fun l nl => ?_⟩
    · have : ("x" : Str).length = 1 := rfl
      omega
    have sI := same_upd (o := .lst [V.str "none", .str "", .non, .int 0, .ref q, .str "A", .str (h.parts[0] ++ ("x" : Str))]) nl
    refine ⟨p, l, _, rfl, ?_, (LH.same sI).box, upd_same, by show 1 ≤ 7; decide, by show 7 ≤ 1000; decide, fun x GJ hx bJ yJ => ?_⟩
    · obtain ⟨_, _, _, e, _⟩ := LH.box
      exact ne_of_none e nl
    have LI := LH.same sI
    have LJ := LI.but bJ yJ
    have nJ := ((nG.same sH).same sI).but bJ LI.box
    have odd : ∀ {G : Hp}, ExtN GJ G → Odd K G h x := fun {G} s => odd_mem good (s _ _ (bJ _ _ (LI.box.ne (sI _ _ at_q) (fun _ _ _ z => by cases z)) (sI _ _ at_q)) (fun _ z => nomatch z)) y16 hx
    have subP : ∀ n, n ∈ h.parts → n ∈ h.names := fun n hn => List.mem_append_left _ hn
    have subD : ∀ n, n ∈ h.doors.map (·.n) → n ∈ h.names := fun n hn => List.mem_append_right _ (List.mem_append_left _ hn)
    have subC : ∀ n, n ∈ h.cells.map (·.n) → n ∈ h.names := fun n hn => List.mem_append_right _ (List.mem_append_right _ hn)
    refine ⟨LJ.tb, fun K1 y1 u1 => ⟨_, rfl, rfl, ?_⟩⟩
    have LK1 := LJ.ext y1 u1
    have nK1 := nJ.ext y1
    refine ⟨_, rfl, o, hdx, _, rfl, nK1.ins, rfl, _, rfl, o, hdx, D1, x, h.parts, _, k1, rfl, nK1.ins, rfl, nK1.n1, nK1.m1, .inr ⟨(odd y1).miss subP, (odd y1).out, fun Z1 d1 z1 nd1 ed1 => ?_⟩⟩
    obtain ⟨dat1, sw1⟩ := (odd (y1.trans (ExtN.of z1))).1
    refine ⟨d1, dat1, rfl, rfl, ed1, sw1, _, rfl, iteF ?_⟩
    have LZ1 := LK1.same z1
    have nZ1 := nK1.same z1
    have yZ1 := y1.trans (ExtN.of z1)
    refine ⟨LZ1.tb, fun K2 y2 u2 => ⟨_, rfl, rfl, ?_⟩⟩
    have LK2 := LZ1.ext y2 u2
    have nK2 := nZ1.ext y2
    have yy2 := yZ1.trans y2
    refine ⟨_, rfl, o, hdx, _, rfl, nK2.ins, rfl, _, rfl, o, hdx, D2, x, h, _, k2, rfl, nK2.ins, rfl, nK2.n2, nK2.m2, .inr ⟨(odd yy2).miss subD, fun Z2 d2 z2 nd2 ed2 => ?_⟩⟩
    obtain ⟨dat2, sw2⟩ := (odd (yy2.trans (ExtN.of z2))).1
    refine ⟨d2, dat2, rfl, rfl, ed2, sw2, _, rfl, iteF ?_⟩
    have LZ2 := LK2.same z2
    have nZ2 := nK2.same z2
    have yZ2 := yy2.trans (ExtN.of z2)
    refine ⟨LZ2.tb, fun K3 y3 u3 => ⟨_, rfl, rfl, ?_⟩⟩
    have LK3 := LZ2.ext y3 u3
    have nK3 := nZ2.ext y3
    have yy3 := yZ2.trans y3
    refine ⟨_, rfl, o, hdx, _, rfl, nK3.ins, rfl, _, rfl, o, hdx, D3, x, h, _, k3, rfl, nK3.ins, rfl, nK3.n3, nK3.m3, .inr ⟨(odd yy3).miss subC, fun Z3 d3 z3 nd3 ed3 => ?_⟩⟩
    obtain ⟨dat3, sw3⟩ := (odd (yy3.trans (ExtN.of z3))).1
    refine ⟨d3, dat3, rfl, rfl, ed3, sw3, _, rfl, iteF ?_⟩
    have LZ3 := LK3.same z3
    have nZ3 := nK3.same z3
    have yZ3 := yy3.trans (ExtN.of z3)
    have p0 := List.getElem_mem (l := h.parts) p1
    have p0d : h.parts[0] ∉ h.doors.map (·.n) := fun z => (List.nodup_append.mp good.nodup).2.2 _ p0 _ (List.mem_append_left _ z) rfl
    have shws : ∀ {G : Hp} {s : Str}, s ∈ N16 ∨ s = "out" → Shw K G (.str s) (.str s) := fun {G s} hs => by
      have all : (N16 ++ [("out" : Str)]).all (fun y => PyData.showable (.str y) && decide ((PyData.shown (.str y)).length ≤ 100)) = true := by decide +kernel
      have := List.all_eq_true.mp all s (hs.elim (fun z => List.mem_append_left _ z) (fun z => List.mem_append_right _ (List.mem_singleton.mpr z)))
      simp only [Bool.and_eq_true, decide_eq_true_eq] at this
      exact shw_str this.1 this.2
    refine ⟨LZ3.tb, fun K4 y4 u4 => ⟨_, rfl, a', _, _, _, rfl, rfl, SqL.of (LZ3.ext y4 u4).hs.pa, atI_nat (j := 0) y0, rfl, ?_⟩⟩
    have LK4 := LZ3.ext y4 u4
    have nK4 := nZ3.ext y4
    refine ⟨_, rfl, o, hdx, _, rfl, nK4.ins, rfl, _, rfl, a', _, _, _, rfl, rfl, SqL.of LK4.hs.pa, atI_nat (j := 0) y0, o, hdx, D2, _, h, _, k2, rfl, nK4.ins, rfl, nK4.n2, nK4.m2, .inr ⟨.inl ⟨_, rfl, p0d⟩, fun Z4 d4 z4 nd4 ed4 => ?_⟩⟩
    refine ⟨d4, _, rfl, rfl, ed4, shws (.inl y16), _, rfl, iteF ?_⟩
    have LZ4 := LK4.same z4
    have nZ4 := nK4.same z4
    have yZ4 := (yZ3.trans y4).trans (ExtN.of z4)
    have outc : ("out" : Str) ∉ h.cells.map (·.n) := fun z => out_not (good.sub _ (subC _ z))
    refine ⟨LZ4.tb, fun K5 y5' u5' => ⟨rfl, ?_⟩⟩
    have LK5 := LZ4.ext y5' u5'
    have nK5 := nZ4.ext y5'
    refine ⟨_, rfl, o, hdx, _, rfl, nK5.ins, rfl, o, hdx, D3, _, h, _, k3, rfl, nK5.ins, rfl, nK5.n3, nK5.m3, .inr ⟨.inl ⟨_, rfl, outc⟩, fun Z5 d5 z5 nd5 ed5 => ?_⟩⟩
    refine ⟨d5, _, rfl, rfl, ed5, shws (.inr rfl), _, rfl, iteF ?_⟩
    have LZ5 := LK5.same z5
    have nZ5 := nK5.same z5
    have yZ5 := (yZ4.trans y5').trans (ExtN.of z5)
    -- what is not let to be kept
    obtain ⟨ls, ldat, lty, ls1, lsno, lsw, lty1, lty2⟩ := odd_lack good (odd yZ5)
    refine ⟨_, rfl, _, _, _, _, _, rfl, .ty "str", lty1, lty2, _, rfl, ifStr ls1 ?_⟩
    obtain ⟨vc6, hc6, pc6'⟩ := LZ5.hs.ca
    have lc6 := paired_len pc6'
    have c3' := good.c3
    refine ⟨_, rfl, _, rfl, c', rfl, ⟨_, SqL.of hc6⟩, fun D6 n6 => lc_list (xs := vc6) (fun j H' => Same Z5 H' ∧ H' D6 = some (.lst (((h.cells.take j).map (·.n)).map V.str))) ⟨same_upd n6, upd_same⟩ (fun j H' _ z => SqL.of (z.1 _ _ hc6)) ?_ ?_⟩
    · rintro j x6 G6 hx6 ⟨q6, at6⟩
      obtain ⟨d, hdi, t6, rfl, et6⟩ := paired_get pc6' hx6
      obtain ⟨hl6, rfl⟩ := List.getElem?_eq_some_iff.mp hdi
      refine ⟨rfl, kept ⟨_, rfl, t6, _, _, V.str h.cells[j].n, rfl, rfl, SqT.of (q6 _ _ et6), atI_nat (j := 0) rfl, _, at6, ?_, fun b' w' e => ?_, ?_⟩⟩
      · rw [List.length_map, List.length_map, List.length_take]
        omega
      · rw [upd_ne (ne_of_none e n6)]
        exact q6 _ _ e
      · rw [upd_same, List.take_succ_eq_append_getElem hl6, List.map_append, List.map_append]
        rfl
    rintro G6 ⟨q6, at6⟩
    rw [lc6, List.take_length] at at6
    refine ⟨_, rfl, by show 1 ≤ sizeLine; decide, fun l7 n7 => ?_⟩
    have q7 := same_upd (o := .lst [.str ls]) n7
    have at7 : upd G6 l7 (.lst [.str ls]) l7 = some (.lst [.str ls]) := upd_same
    refine ⟨D6, l7, _, _, rfl, rfl, q7 _ _ at6, at7, ?_, fun l8 n8 => ?_⟩
    · rw [List.length_map, List.length_map]
      show h.cells.length + 1 ≤ _
      omega
    have q8 := (q6.trans q7).trans (same_upd (o := .lst ((h.cells.map (·.n)).map V.str ++ [.str ls])) n8)
    have at8 : upd (upd G6 l7 (.lst [.str ls])) l8 (.lst ((h.cells.map (·.n)).map V.str ++ [.str ls])) l8 = some (.lst ((h.cells.map (·.n)).map V.str ++ [.str ls])) := upd_same
    revert q8 at8
    generalize upd (upd G6 l7 (.lst [.str ls])) l8 (.lst ((h.cells.map (·.n)).map V.str ++ [.str ls])) = G8
    intro q8 at8
    have L8' := LZ5.same q8
    have n8' := nZ5.same q8
    refine ⟨o, l8, h, h.cells.map (·.n), _, ldat, rfl, ⟨_, _, _, _, _, _, _, _, _, _, _, _, _, _, _, _, n8'⟩, gH, at8, fun n hn => hn, by rw [List.length_map]; omega, .inl ⟨ls, rfl, fun z => lsno (subC _ z)⟩, fun H' _ => lsw H', fun G9 q9 => ?_⟩
    have sw9 := lsw G9
    refine ⟨_, rfl, _, ldat, rfl, sw9.dp, sw9.sh, sw9.nd, sw9.de, sw9.sz, rfl, _, rfl, ?_⟩
    rw [decide_eq_true rfl]
    refine iteF ?_
    have L9' := L8'.same q9
    have n9' := n8'.same q9
    have yG9 := yZ5.trans (ExtN.of (q8.trans q9))
    clear at_l1 at_D at_l3 e1 e2 e3
    cases hcs : h.cells with
    | nil =>
      rw [hcs] at pc6'
      cases pc6'
      -- no cells: nothing more is asked
      have emp : ∀ {G : Hp} {l : Addr}, Lw p a' b' c' h T H1 G → G c' = some (.lst []) → G l = none → Lw p a' b' c' h T H1 (upd G l (.lst [])) ∧ upd G l (.lst []) c' = some (.lst []) := fun {G l} x y z => ⟨x.same (same_upd z), same_upd z _ _ y⟩
      have hc9 : G9 c' = some (.lst []) := q9 _ _ (q8 _ _ hc6)
      refine ⟨_, rfl, Nat.zero_le _, fun q10 n10 => ⟨.list [], .list [], .lst (SqL.of (emp L9' hc9 n10).2) .nil, .lst (SqL.of upd_same) .nil, by decide +kernel, by decide +kernel, _, rfl, ?_⟩⟩
      rw [show PyData.eqv (.list []) (.list []) = true from by decide +kernel]
      refine iteF (iteF ?_)
      have L10 := (emp L9' hc9 n10).1
      have hc10 := (emp L9' hc9 n10).2
      revert L10 hc10
      generalize upd G9 q10 (.lst []) = G10
      intro L10 hc10
      refine ⟨_, rfl, Nat.zero_le _, fun q11 n11 => ⟨.list [], .list [], .lst (SqL.of (emp L10 hc10 n11).2) .nil, .lst (SqL.of upd_same) .nil, by decide +kernel, by decide +kernel, _, rfl, ?_⟩⟩
      rw [show PyData.eqv (.list []) (.list []) = true from by decide +kernel]
      refine iteF (iteF ?_)
      have L11 := (emp L10 hc10 n11).1
      exact ⟨_, _, _, _, _, _, _, _, _, _, _, _, rfl, BN.ext_of np x1 L11.bn, L11.tb⟩
    | cons cl cr =>
      -- the first cell's name is no part's
      have pc9 : Paired (CellAt G9) vc6 (cl :: cr) := by
        rw [← hcs]
        exact paired_mono (fun _ _ r => r.mono fun t e => q9 _ _ (q8 _ _ e)) pc6'
      have hc9 : G9 c' = some (.lst vc6) := q9 _ _ (q8 _ _ hc6)
      clear pc6' hc6 lc6
      obtain ⟨v0, lr, rfl, t0, rfl, et0, pcr⟩ : ∃ v0 lr, vc6 = v0 :: lr ∧ ∃ t0, v0 = .ref t0 ∧ G9 t0 = some (.tup (cvs cl)) ∧ Paired (CellAt G9) lr cr := by
        cases pc9 with
        | cons r t =>
          obtain ⟨t0, e, et⟩ := r
          exact ⟨_, _, rfl, t0, e, et, t⟩
      have memc : cl ∈ h.cells := by rw [hcs]; exact List.mem_cons_self ..
      have nmc : cl.n ∈ h.names := subC _ (List.mem_map.mpr ⟨cl, memc, rfl⟩)
      have ncp : cl.n ∉ h.parts := fun z => (List.nodup_append.mp good.nodup).2.2 _ z _ (List.mem_append_right _ (List.mem_map.mpr ⟨cl, memc, rfl⟩)) rfl
      have nco : V.str cl.n ≠ .str "out" := fun z => by
        injection z with z
        exact out_not (z ▸ good.sub _ nmc)
      have layc : ∀ d, d ∈ (cl :: cr).map cellD → Lay.Lay 1 d := fun d hd => by
        obtain ⟨x, hx, rfl⟩ := List.mem_map.mp hd
        exact lay_cell (good.ok.c x (by rw [hcs]; exact hx))
      have layl : Lay.Lay 2 (.list ((cl :: cr).map cellD)) := Lay.lst layc
      have nel : PyData.eqv (.list ((cl :: cr).map cellD)) (.list []) = false := by
        rw [PyData.eqv]
        exact PySem.SeqAt.eqvAll_other_length (by rw [List.length_map, List.length_cons]; exact Nat.succ_ne_zero _)
      refine ⟨_, rfl, Nat.zero_le _, fun q10 n10 => ?_⟩
      have s10 := same_upd (o := .lst []) n10
      refine ⟨.list ((cl :: cr).map cellD), .list [], .lst (SqL.of (s10 _ _ hc9)) (dps_cells (paired_mono (fun _ _ r => r.mono fun t e => s10 _ _ e) (.cons ⟨t0, rfl, et0⟩ pcr))), .lst (SqL.of upd_same) .nil, layl.shaped, by decide +kernel, _, rfl, ?_⟩
      rw [nel]
      refine iteT ?_
      revert s10
      generalize upd G9 q10 (.lst []) = G10
      intro s10
      have L10 := L9'.same s10
      have n10' := n9'.same s10
      refine ⟨L10.tb, fun K6 y6 u6 => ⟨_, rfl, c', _, _, _, rfl, rfl, SqL.of (y6 _ _ (s10 _ _ hc9) (fun _ z => nomatch z)), atI_nat (j := 0) rfl, t0, _, _, V.str cl.n, rfl, rfl, SqT.of (y6 _ _ (s10 _ _ et0) (fun _ z => nomatch z)), atI_nat (j := 0) rfl, rfl, ?_⟩⟩
      have LK6 := L10.ext y6 u6
      have nK6 := n10'.ext y6
      have hcK6 := y6 _ _ (s10 _ _ hc9) (fun _ z => nomatch z)
      have etK6 := y6 _ _ (s10 _ _ et0) (fun _ z => nomatch z)
      refine ⟨_, rfl, o, hdx, _, rfl, nK6.ins, rfl, _, rfl, c', _, _, _, rfl, rfl, SqL.of hcK6, atI_nat (j := 0) rfl, t0, _, _, V.str cl.n, rfl, rfl, SqT.of etK6, atI_nat (j := 0) rfl, o, hdx, D1, _, h.parts, _, k1, rfl, nK6.ins, rfl, nK6.n1, nK6.m1, .inr ⟨.inl ⟨_, rfl, ncp⟩, nco, fun Z6 d6 z6 nd6 ed6 => ?_⟩⟩
      refine ⟨d6, _, rfl, rfl, ed6, shws (.inl (good.sub _ nmc)), _, rfl, iteF ?_⟩
      have LZ6 := LK6.same z6
      have nZ6 := nK6.same z6
      have hcZ6 := z6 _ _ hcK6
      have pcZ6 : Paired (CellAt Z6) lr cr := paired_mono (fun _ _ r => r.mono fun t e => z6 _ _ (y6 _ _ (s10 _ _ e) (fun _ z => nomatch z))) pcr
      have etZ6 := z6 _ _ etK6
      -- a house with a cell less is another one
      refine ⟨_, rfl, Nat.zero_le _, fun q11 n11 => ?_⟩
      have s11 := same_upd (o := .lst []) n11
      refine ⟨.list ((cl :: cr).map cellD), .list [], .lst (SqL.of (s11 _ _ hcZ6)) (dps_cells (paired_mono (fun _ _ r => r.mono fun t e => s11 _ _ e) (.cons ⟨t0, rfl, etZ6⟩ pcZ6))), .lst (SqL.of upd_same) .nil, layl.shaped, by decide +kernel, _, rfl, ?_⟩
      rw [nel]
      refine iteT ?_
      revert s11
      generalize upd Z6 q11 (.lst []) = G11
      intro s11
      have L11 := LZ6.same s11
      have n11' := nZ6.same s11
      refine ⟨_, rfl, _, rfl, _, rfl, _, rfl, _, rfl, c', _, rfl, SqL.of (s11 _ _ hcZ6), fun pC nC' => ?_⟩
      rw [show cutV (.ref t0 :: lr) (some 1) none = lr from cut_dropV (.ref t0 :: lr) 1 (by rw [List.length_cons]; omega)]
      have s12 := same_upd (o := .lst lr) nC'
      have at12 : upd G11 pC (.lst lr) pC = some (.lst lr) := upd_same
      revert s12 at12
      generalize upd G11 pC (.lst lr) = G12
      intro s12 at12
      have L12 := L11.same s12
      have n12' := n11'.same s12
      have pc12 : Paired (CellAt G12) lr cr := paired_mono (fun _ _ r => r.mono fun t e => s12 _ _ (s11 _ _ e)) pcZ6
      have subr : ∀ c, c ∈ cr → c ∈ h.cells := fun c hc => by rw [hcs]; exact List.mem_cons_of_mem _ hc
      have namesr : ∀ z, z ∈ h.parts ++ (h.doors.map (·.n) ++ cr.map (·.n)) → z ∈ h.names := fun z hz => by
        rcases List.mem_append.mp hz with u | u
        · exact subP z u
        · rcases List.mem_append.mp u with u | u
          · exact subD z u
          · obtain ⟨c, hc, rfl⟩ := List.mem_map.mp u
            exact subC _ (List.mem_map.mpr ⟨c, subr c hc, rfl⟩)
      have gH2 : GoodH ⟨h.parts, h.doors, cr⟩ := ⟨gH.p1, gH.p8, gH.d12, by have := gH.c8; rw [hcs, List.length_cons] at this; show cr.length ≤ 8; omega, by
        have nd := gH.nodup
        unfold Hs.names at nd
        rw [hcs, List.map_cons] at nd
        exact nd.sublist (List.Sublist.append (List.Sublist.refl _) (List.Sublist.append (List.Sublist.refl _) (List.sublist_cons_self _ _))), fun z hz => gH.name z (namesr z hz), gH.ends, fun c hc => gH.cin c (subr c hc)⟩
      have ok2 : Ok ⟨h.parts, h.doors, cr⟩ := ⟨good.ok.p, good.ok.d, fun c hc => good.ok.c c (subr c hc)⟩
      have sam : sameH h ⟨h.parts, h.doors, cr⟩ = false := by
        have e : PyData.eqv (cellsD h.cells) (cellsD cr) = false := cells_other (by rw [hcs, List.length_cons]; exact Nat.succ_ne_self _)
        unfold sameH
        show (_ && (_ && PyData.eqv (cellsD h.cells) (cellsD cr))) = false
        rw [e, Bool.and_false, Bool.and_false]
      obtain ⟨vd12, hd12, pd12⟩ := L12.hs.da
      refine fun x dx nx ndx ne => ?_
      have sY : Same G12 (upd (upd G12 dx (.own x)) x (.ins C dx [])) := fun b u e => by
        rw [upd_ne (ne_of_none e nx), upd_ne (ne_of_none e ndx)]
        exact e
      refine ⟨x, dx, _, _, _, _, _, _, rfl, upd_same, av_parts gH (.inl (sY _ _ L12.hs.pa)), av_doors gH (.inl (sY _ _ hd12)) (paired_mono (fun _ _ r => r.mono fun t e => sY _ _ e) pd12), av_cells gH2 (.inl (sY _ _ at12)) (paired_mono (fun _ _ r => r.mono fun t e => sY _ _ e) pc12), .inr ⟨⟨h.parts, h.doors, cr⟩, ⟨gH2, rfl, rfl, rfl⟩, fun G13 b13 hx13 => ⟨rfl, ?_⟩⟩⟩
      have s13 : Same G12 G13 := fun b u e => b13 b u (ne_of_none e nx) (sY _ _ e)
      have L13 := L12.same s13
      have n13' := n12'.same s13
      have xnew : HouseIns G13 C x ⟨h.parts, h.doors, cr⟩ := hx13.ins
      obtain ⟨ndx', _, _, _, _, _, _, _, _, _, _, _, _, _, _, _, m13⟩ := hx13
      refine ⟨o, hdx, _, .ref C, rfl, n13'.ins, .ins m13.ins, by simp [W.notFirst], o, _, h, rfl, HouseX.ins ⟨_, _, _, _, _, _, _, _, _, _, _, _, _, _, _, _, n13'⟩, good.ok, .inl ⟨x, _, rfl, xnew, ok2, _, rfl, _, rfl, ?_⟩⟩
      rw [sam]
      refine iteF ?_
      exact ⟨_, _, _, _, _, _, _, _, _, _, _, _, rfl, BN.ext_of np x1 L13.bn, L13.tb⟩
  · rintro σ H1 ⟨v1, v2, v3, v4, v5, v6, v7, v8, v9, v10, v11, v12, rfl, x1, t1⟩
    rfl
end
end K01

namespace K01
open PySem PySem.Spec PyProof.Rows L2
open Cal EnuT Exn Keys LamX Stc Fx

theorem callee_mk {P : Program} {w : World} {K : W.Frag} {h : Heap} {mg : Str → Option Value} {base : Heap} {x : Str} {f : Addr} {ps : List Str} {sp : Sp} {k : Nat} {st : Stmt} {oc kV doc pm cdv ct : Value} {od an : Option Addr} {sl : Array (Option Value)} (X : K.In h) (G : h.Ns mainGlobals mg)
    (a : W.nsIn K mainGlobals x = some (some (.ref f))) (l : K.lookup f = some ⟨oc, od, .func (W.fnOf x x (defArgs st) (defBody st) (defScope st) .none kV doc pm an cdv ct), sl⟩) (c : W.codeIn K cdv x = true) (kp : W.keepIn K (.ref f) = true)
    (b : ∀ (kV doc pm : Value) (an : Option Addr) (cdv ct : Value) (us : List Value), us.length = ps.length → bindArgs (W.fnOf x x (defArgs st) (defBody st) (defScope st) .none kV doc pm an cdv ct) ⟨us, []⟩ = pure (ps.zip us))
    (ok : ∀ cdv', cdv' = cdv → Fun K x x st f (W.fnOf x x (defArgs st) (defBody st) (defScope st) .none kV doc pm an cdv ct) → FnOk P w K mg base CX0 k f (W.fnOf x x (defArgs st) (defBody st) (defScope st) .none kV doc pm an cdv ct) ps sp) : Callee P w K mg base x k ps sp := by
  have F := fun_mk (st := st) l c kp
  exact ⟨f, _, W.mg_of X G a, kp, F.binds b, ok cdv rfl F⟩
abbrev iP : Stmt := inClass (top 5) 0
abbrev iT : Stmt := inClass (top 6) 0
abbrev iN : Stmt := inClass (top 7) 0
theorem keP : InitTxt iP "at" := ⟨⟨_, _, _, _, rfl⟩, ⟨rfl, rfl, rfl, by decide +kernel, rfl, by decide +kernel, by decide +kernel⟩, .inl rfl, .inl rfl, by decide, by decide, fun _ _ _ _ _ _ _ _ _ => rfl, fun _ _ _ _ _ _ _ _ _ => rfl⟩
theorem keN : InitTxt iN "name" := ⟨⟨_, _, _, _, rfl⟩, ⟨rfl, rfl, rfl, by decide +kernel, rfl, by decide +kernel, by decide +kernel⟩, .inl rfl, .inl rfl, by decide, by decide, fun _ _ _ _ _ _ _ _ _ => rfl, fun _ _ _ _ _ _ _ _ _ => rfl⟩
theorem keT : InitTxt iT "at" := ⟨⟨_, _, _, _, rfl⟩, ⟨rfl, rfl, rfl, by decide +kernel, rfl, by decide +kernel, by decide +kernel⟩, .inl rfl, .inl rfl, by decide, by decide, fun _ _ _ _ _ _ _ _ _ => rfl, fun _ _ _ _ _ _ _ _ _ => rfl⟩
def tabsB (K : W.Frag) : Bool := match W.tabIn K "law" with
  | some p => (K.lookup p.2).isNone
  | none => false
theorem tabs_of {K : W.Frag} (h : tabsB K = true) : ∃ cL PL, W.tabIn K "law" = some (cL, PL) ∧ K.lookup PL = none := by
  unfold tabsB at h
  split at h
  · rename_i p h1
    exact ⟨p.1, p.2, h1, Option.isNone_iff_eq_none.mp h⟩
  · cases h
def kitB (K : W.Frag) (C CN : Addr) : Bool :=
  decide (W.exmAny K (.ref CN) [.ref CN] = some true) && decide (W.findIn K (.ref C) "__ne__" = some (some (.builtin "object.__ne__"))) && decide (W.mroIn K C (.type "object") = some true) && W.notFirst K C (.type "str") && W.notFirst K C (.type "tuple") && decide (W.kitOne K (.type "str") (.ref C) = some false) && decide (W.kitOne K (.type "tuple") (.ref C) = some false)
theorem g4_rel {vs zs : List V} {us ws : List Value} (a : Vals vs us) (b : Vals zs ws) : Vals (gV4 vs zs) (g4 us ws) := by
  cases a with
  | nil => exact .nil
  | cons r t =>
    cases t with
    | cons _ _ => exact .nil
    | nil =>
      cases b with
      | nil => exact .nil
      | cons b1 t1 =>
        cases t1 with
        | nil => exact .nil
        | cons b2 t2 =>
          cases t2 with
          | nil => exact .nil
          | cons b3 t3 =>
            cases t3 with
            | nil => exact .cons r (.cons b2 (.cons b3 (.cons b1 .nil)))
            | cons _ _ => exact .nil
theorem held_of {P : Program} {w : World} {K : W.Frag} {mg : Str → Option Value} {base : Heap} {g : Addr} {sp : Sp} {ps : List Str} {fd : FuncData} (ok : FnOk P w K mg base CX0 2 g fd ps sp) (kp : W.keepIn K (.ref g) = true) (b : Binds K fd ps []) : ∀ f sp', S1 g sp f = some sp' → Held P w K mg base 2 f sp' := fun f sp' hs => by
  unfold S1 at hs
  split at hs
  · rename_i hf
    obtain rfl := Option.some.inj hs
    subst hf
    exact ⟨_, _, ok, kp, b⟩
  · cases hs

theorem all_mk {P : Program} {w : World} {K : W.Frag} {h : Heap} {mg : Str → Option Value} {fa : Addr} {C CH CT CN fI fM fT fR fE fD fL fF fA fS fW rR iCH iCT iCN : Addr} {tP tD tC : Tok} {restR : List Value} {o_I v_I d_I p_I c_I t_I : Value} {x_I n_I : Option Addr} {y_I : Array (Option Value)} {o_M v_M d_M p_M c_M t_M : Value} {x_M n_M : Option Addr} {y_M : Array (Option Value)} {o_T v_T d_T p_T c_T t_T : Value} {x_T n_T : Option Addr} {y_T : Array (Option Value)} {o_R v_R d_R p_R c_R t_R : Value} {x_R n_R : Option Addr} {y_R : Array (Option Value)} {o_E v_E d_E p_E c_E t_E : Value} {x_E n_E : Option Addr} {y_E : Array (Option Value)} {o_D v_D d_D p_D c_D t_D : Value} {x_D n_D : Option Addr} {y_D : Array (Option Value)} {o_L v_L d_L p_L c_L t_L : Value} {x_L n_L : Option Addr} {y_L : Array (Option Value)} {o_F v_F d_F p_F c_F t_F : Value} {x_F n_F : Option Addr} {y_F : Array (Option Value)} {o_A v_A d_A p_A c_A t_A : Value} {x_A n_A : Option Addr} {y_A : Array (Option Value)} {o_S v_S d_S p_S c_S t_S : Value} {x_S n_S : Option Addr} {y_S : Array (Option Value)} {o_W v_W d_W p_W c_W t_W : Value} {x_W n_W : Option Addr} {y_W : Array (Option Value)} {oiCH viCH diCH piCH ciCH tiCH : Value} {xiCH niCH : Option Addr} {siCH : Array (Option Value)} {oiCT viCT diCT piCT ciCT tiCT : Value} {xiCT niCT : Option Addr} {siCT : Array (Option Value)} {oiCN viCN diCN piCN ciCN tiCN : Value} {xiCN niCN : Option Addr} {siCN : Array (Option Value)} {f_isseq' : Addr} {o_isseq v_isseq d_isseq p_isseq c_isseq t_isseq : Value} {x_isseq n_isseq : Option Addr} {s_isseq : Array (Option Value)} {f_isname' : Addr} {o_isname v_isname d_isname p_isname c_isname t_isname : Value} {x_isname n_isname : Option Addr} {s_isname : Array (Option Value)} {f_chp' : Addr} {o_chp v_chp d_chp p_chp c_chp t_chp : Value} {x_chp n_chp : Option Addr} {s_chp : Array (Option Value)} {f_isdoor' : Addr} {o_isdoor v_isdoor d_isdoor p_isdoor c_isdoor t_isdoor : Value} {x_isdoor n_isdoor : Option Addr} {s_isdoor : Array (Option Value)} {f_iscell' : Addr} {o_iscell v_iscell d_iscell p_iscell c_iscell t_iscell : Value} {x_iscell n_iscell : Option Addr} {s_iscell : Array (Option Value)} {f_cht' : Addr} {o_cht v_cht d_cht p_cht c_cht t_cht : Value} {x_cht n_cht : Option Addr} {s_cht : Array (Option Value)} {f_nums' : Addr} {o_nums v_nums d_nums p_nums c_nums t_nums : Value} {x_nums n_nums : Option Addr} {s_nums : Array (Option Value)} {f_numof' : Addr} {o_numof v_numof d_numof p_numof c_numof t_numof : Value} {x_numof n_numof : Option Addr} {s_numof : Array (Option Value)} {f_thing' : Addr} {o_thing v_thing d_thing p_thing c_thing t_thing : Value} {x_thing n_thing : Option Addr} {s_thing : Array (Option Value)} {f_box' : Addr} {o_box v_box d_box p_box c_box t_box : Value} {x_box n_box : Option Addr} {s_box : Array (Option Value)} {f_take' : Addr} {o_take v_take d_take p_take c_take t_take : Value} {x_take n_take : Option Addr} {s_take : Array (Option Value)} {f_pick' : Addr} {o_pick v_pick d_pick p_pick c_pick t_pick : Value} {x_pick n_pick : Option Addr} {s_pick : Array (Option Value)} {f_mixed' : Addr} {o_mixed v_mixed d_mixed p_mixed c_mixed t_mixed : Value} {x_mixed n_mixed : Option Addr} {s_mixed : Array (Option Value)} {f_things' : Addr} {o_things v_things d_things p_things c_things t_things : Value} {x_things n_things : Option Addr} {s_things : Array (Option Value)} {f_ltext' : Addr} {o_ltext v_ltext d_ltext p_ltext c_ltext t_ltext : Value} {x_ltext n_ltext : Option Addr} {s_ltext : Array (Option Value)} {f_number' : Addr} {o_number v_number d_number p_number c_number t_number : Value} {x_number n_number : Option Addr} {s_number : Array (Option Value)} {f_right' : Addr} {o_right v_right d_right p_right c_right t_right : Value} {x_right n_right : Option Addr} {s_right : Array (Option Value)} {f_unk' : Addr} {o_unk v_unk d_unk p_unk c_unk t_unk : Value} {x_unk n_unk : Option Addr} {s_unk : Array (Option Value)} {f_kref' : Addr} {o_kref v_kref d_kref p_kref c_kref t_kref : Value} {x_kref n_kref : Option Addr} {s_kref : Array (Option Value)} {f_kright' : Addr} {o_kright v_kright d_kright p_kright c_kright t_kright : Value} {x_kright n_kright : Option Addr} {s_kright : Array (Option Value)} {f_law' : Addr} {o_law v_law d_law p_law c_law t_law : Value} {x_law n_law : Option Addr} {s_law : Array (Option Value)}
    (X : K.In h) (G : h.Ns mainGlobals mg) (hfa : mg "law" = some (.ref fa))
    (aC : W.nsIn K mainGlobals "House" = some (some (.ref C))) (nI : W.findIn K (.ref C) "__init__" = some (some (.ref fI))) (nM : W.findIn K (.ref C) "number_of_part" = some (some (.ref fM))) (nT : W.findIn K (.ref C) "text" = some (some (.ref fT))) (nE : W.findIn K (.ref C) "__eq__" = some (some (.ref fE))) (nD : W.findIn K (.ref C) "number_of_door" = some (some (.ref fD))) (nL : W.findIn K (.ref C) "number_of_cell" = some (some (.ref fL))) (nF : W.findIn K (.ref C) "far_end" = some (some (.ref fF))) (nA : W.findIn K (.ref C) "doors_at" = some (some (.ref fA))) (nS : W.findIn K (.ref C) "cells_in" = some (some (.ref fS))) (nW : W.findIn K (.ref C) "with_kept" = some (some (.ref fW))) (nR : W.findCls K (.ref C) (.type "type") "read" = some (.get (.builtin "staticmethod.__get__") (.ref rR) .none (.ref C))) (rR_ : W.recIn K rR "staticmethod" = some (.ref fR :: restR))
    (l_I : K.lookup fI = some ⟨o_I, x_I, .func (W.fnOf "__init__" "House.__init__" (defArgs sInit) (defBody sInit) (defScope sInit) .none v_I d_I p_I n_I c_I t_I), y_I⟩) (g_I : W.codeIn K c_I "House.__init__" = true) (k_I : W.keepIn K (.ref fI) = true) (f_I : W.isFn K (.ref fI) = true)
    (l_M : K.lookup fM = some ⟨o_M, x_M, .func (W.fnOf "number_of_part" "House.number_of_part" (defArgs sNumPart) (defBody sNumPart) (defScope sNumPart) .none v_M d_M p_M n_M c_M t_M), y_M⟩) (g_M : W.codeIn K c_M "House.number_of_part" = true) (k_M : W.keepIn K (.ref fM) = true) (f_M : W.isFn K (.ref fM) = true)
    (l_T : K.lookup fT = some ⟨o_T, x_T, .func (W.fnOf "text" "House.text" (defArgs sText) (defBody sText) (defScope sText) .none v_T d_T p_T n_T c_T t_T), y_T⟩) (g_T : W.codeIn K c_T "House.text" = true) (k_T : W.keepIn K (.ref fT) = true) (f_T : W.isFn K (.ref fT) = true)
    (l_R : K.lookup fR = some ⟨o_R, x_R, .func (W.fnOf "read" "House.read" (defArgs sRead) (defBody sRead) (defScope sRead) .none v_R d_R p_R n_R c_R t_R), y_R⟩) (g_R : W.codeIn K c_R "House.read" = true) (k_R : W.keepIn K (.ref fR) = true) (f_R : W.isFn K (.ref fR) = true)
    (l_E : K.lookup fE = some ⟨o_E, x_E, .func (W.fnOf "__eq__" "House.__eq__" (defArgs sEq) (defBody sEq) (defScope sEq) .none v_E d_E p_E n_E c_E t_E), y_E⟩) (g_E : W.codeIn K c_E "House.__eq__" = true) (k_E : W.keepIn K (.ref fE) = true) (f_E : W.isFn K (.ref fE) = true)
    (l_D : K.lookup fD = some ⟨o_D, x_D, .func (W.fnOf "number_of_door" "House.number_of_door" (defArgs sNumDoor) (defBody sNumDoor) (defScope sNumDoor) .none v_D d_D p_D n_D c_D t_D), y_D⟩) (g_D : W.codeIn K c_D "House.number_of_door" = true) (k_D : W.keepIn K (.ref fD) = true) (f_D : W.isFn K (.ref fD) = true)
    (l_L : K.lookup fL = some ⟨o_L, x_L, .func (W.fnOf "number_of_cell" "House.number_of_cell" (defArgs sNumCell) (defBody sNumCell) (defScope sNumCell) .none v_L d_L p_L n_L c_L t_L), y_L⟩) (g_L : W.codeIn K c_L "House.number_of_cell" = true) (k_L : W.keepIn K (.ref fL) = true) (f_L : W.isFn K (.ref fL) = true)
    (l_F : K.lookup fF = some ⟨o_F, x_F, .func (W.fnOf "far_end" "House.far_end" (defArgs sFarEnd) (defBody sFarEnd) (defScope sFarEnd) .none v_F d_F p_F n_F c_F t_F), y_F⟩) (g_F : W.codeIn K c_F "House.far_end" = true) (k_F : W.keepIn K (.ref fF) = true) (f_F : W.isFn K (.ref fF) = true)
    (l_A : K.lookup fA = some ⟨o_A, x_A, .func (W.fnOf "doors_at" "House.doors_at" (defArgs sDoorsAt) (defBody sDoorsAt) (defScope sDoorsAt) .none v_A d_A p_A n_A c_A t_A), y_A⟩) (g_A : W.codeIn K c_A "House.doors_at" = true) (k_A : W.keepIn K (.ref fA) = true) (f_A : W.isFn K (.ref fA) = true)
    (l_S : K.lookup fS = some ⟨o_S, x_S, .func (W.fnOf "cells_in" "House.cells_in" (defArgs sCellsIn) (defBody sCellsIn) (defScope sCellsIn) .none v_S d_S p_S n_S c_S t_S), y_S⟩) (g_S : W.codeIn K c_S "House.cells_in" = true) (k_S : W.keepIn K (.ref fS) = true) (f_S : W.isFn K (.ref fS) = true)
    (l_W : K.lookup fW = some ⟨o_W, x_W, .func (W.fnOf "with_kept" "House.with_kept" (defArgs sWithKept) (defBody sWithKept) (defScope sWithKept) .none v_W d_W p_W n_W c_W t_W), y_W⟩) (g_W : W.codeIn K c_W "House.with_kept" = true) (k_W : W.keepIn K (.ref fW) = true) (f_W : W.isFn K (.ref fW) = true)
    (aCH : W.nsIn K mainGlobals "InvalidHouse" = some (some (.ref CH))) (bCH : clsB K CH exTail "Exception.__new__" "at" = true) (nCH : W.findIn K (.ref CH) "__init__" = some (some (.ref iCH))) (tCH : W.typeIn K (.ref iCH) = some (.type "function"))
    (lCH : K.lookup iCH = some ⟨oiCH, xiCH, .func (W.fnOf "__init__" "InvalidHouse.__init__" (defArgs iP) (defBody iP) (defScope iP) .none viCH diCH piCH niCH ciCH tiCH), siCH⟩) (cCH : W.codeIn K ciCH "InvalidHouse.__init__" = true) (kCH : W.keepIn K (.ref iCH) = true)
    (aCT : W.nsIn K mainGlobals "InvalidText" = some (some (.ref CT))) (bCT : clsB K CT exTail "Exception.__new__" "at" = true) (nCT : W.findIn K (.ref CT) "__init__" = some (some (.ref iCT))) (tCT : W.typeIn K (.ref iCT) = some (.type "function"))
    (lCT : K.lookup iCT = some ⟨oiCT, xiCT, .func (W.fnOf "__init__" "InvalidText.__init__" (defArgs iT) (defBody iT) (defScope iT) .none viCT diCT piCT niCT ciCT tiCT), siCT⟩) (cCT : W.codeIn K ciCT "InvalidText.__init__" = true) (kCT : W.keepIn K (.ref iCT) = true)
    (aCN : W.nsIn K mainGlobals "NoName" = some (some (.ref CN))) (bCN : clsB K CN keyTail "LookupError.__new__" "name" = true) (nCN : W.findIn K (.ref CN) "__init__" = some (some (.ref iCN))) (tCN : W.typeIn K (.ref iCN) = some (.type "function"))
    (lCN : K.lookup iCN = some ⟨oiCN, xiCN, .func (W.fnOf "__init__" "NoName.__init__" (defArgs iN) (defBody iN) (defScope iN) .none viCN diCN piCN niCN ciCN tiCN), siCN⟩) (cCN : W.codeIn K ciCN "NoName.__init__" = true) (kCN : W.keepIn K (.ref iCN) = true)
    (hO : ownB K C ["parts", "doors", "cells", "_part_numbers", "_door_numbers", "_cell_numbers", "ends", "cell_parts", "kept"] = true) (hK : kitB K C CN = true) (mP : W.nsIn K mainGlobals "MOST_PARTS" = some (some (.int 8 tP))) (mD : W.nsIn K mainGlobals "MOST_DOORS" = some (some (.int 12 tD))) (mC : W.nsIn K mainGlobals "MOST_CELLS" = some (some (.int 8 tC)))
    (e_isseq : W.nsIn K mainGlobals "is_sequence" = some (some (.ref f_isseq'))) (l_isseq : K.lookup f_isseq' = some ⟨o_isseq, x_isseq, .func (W.fnOf "is_sequence" "is_sequence" (defArgs sIsSeq) (defBody sIsSeq) (defScope sIsSeq) .none v_isseq d_isseq p_isseq n_isseq c_isseq t_isseq), s_isseq⟩) (g_isseq : W.codeIn K c_isseq "is_sequence" = true) (k_isseq : W.keepIn K (.ref f_isseq') = true)
    (e_isname : W.nsIn K mainGlobals "is_name" = some (some (.ref f_isname'))) (l_isname : K.lookup f_isname' = some ⟨o_isname, x_isname, .func (W.fnOf "is_name" "is_name" (defArgs sIsName) (defBody sIsName) (defScope sIsName) .none v_isname d_isname p_isname n_isname c_isname t_isname), s_isname⟩) (g_isname : W.codeIn K c_isname "is_name" = true) (k_isname : W.keepIn K (.ref f_isname') = true)
    (e_chp : W.nsIn K mainGlobals "_checked_parts" = some (some (.ref f_chp'))) (l_chp : K.lookup f_chp' = some ⟨o_chp, x_chp, .func (W.fnOf "_checked_parts" "_checked_parts" (defArgs sChParts) (defBody sChParts) (defScope sChParts) .none v_chp d_chp p_chp n_chp c_chp t_chp), s_chp⟩) (g_chp : W.codeIn K c_chp "_checked_parts" = true) (k_chp : W.keepIn K (.ref f_chp') = true)
    (e_isdoor : W.nsIn K mainGlobals "_is_door" = some (some (.ref f_isdoor'))) (l_isdoor : K.lookup f_isdoor' = some ⟨o_isdoor, x_isdoor, .func (W.fnOf "_is_door" "_is_door" (defArgs sIsDoor) (defBody sIsDoor) (defScope sIsDoor) .none v_isdoor d_isdoor p_isdoor n_isdoor c_isdoor t_isdoor), s_isdoor⟩) (g_isdoor : W.codeIn K c_isdoor "_is_door" = true) (k_isdoor : W.keepIn K (.ref f_isdoor') = true)
    (e_iscell : W.nsIn K mainGlobals "_is_cell" = some (some (.ref f_iscell'))) (l_iscell : K.lookup f_iscell' = some ⟨o_iscell, x_iscell, .func (W.fnOf "_is_cell" "_is_cell" (defArgs sIsCell) (defBody sIsCell) (defScope sIsCell) .none v_iscell d_iscell p_iscell n_iscell c_iscell t_iscell), s_iscell⟩) (g_iscell : W.codeIn K c_iscell "_is_cell" = true) (k_iscell : W.keepIn K (.ref f_iscell') = true)
    (e_cht : W.nsIn K mainGlobals "_checked_things" = some (some (.ref f_cht'))) (l_cht : K.lookup f_cht' = some ⟨o_cht, x_cht, .func (W.fnOf "_checked_things" "_checked_things" (defArgs sChThings) (defBody sChThings) (defScope sChThings) .none v_cht d_cht p_cht n_cht c_cht t_cht), s_cht⟩) (g_cht : W.codeIn K c_cht "_checked_things" = true) (k_cht : W.keepIn K (.ref f_cht') = true)
    (e_nums : W.nsIn K mainGlobals "_numbers" = some (some (.ref f_nums'))) (l_nums : K.lookup f_nums' = some ⟨o_nums, x_nums, .func (W.fnOf "_numbers" "_numbers" (defArgs sNumbers) (defBody sNumbers) (defScope sNumbers) .none v_nums d_nums p_nums n_nums c_nums t_nums), s_nums⟩) (g_nums : W.codeIn K c_nums "_numbers" = true) (k_nums : W.keepIn K (.ref f_nums') = true)
    (e_numof : W.nsIn K mainGlobals "_number_of" = some (some (.ref f_numof'))) (l_numof : K.lookup f_numof' = some ⟨o_numof, x_numof, .func (W.fnOf "_number_of" "_number_of" (defArgs sNumOf) (defBody sNumOf) (defScope sNumOf) .none v_numof d_numof p_numof n_numof c_numof t_numof), s_numof⟩) (g_numof : W.codeIn K c_numof "_number_of" = true) (k_numof : W.keepIn K (.ref f_numof') = true)
    (e_thing : W.nsIn K mainGlobals "_thing_of" = some (some (.ref f_thing'))) (l_thing : K.lookup f_thing' = some ⟨o_thing, x_thing, .func (W.fnOf "_thing_of" "_thing_of" (defArgs sThing) (defBody sThing) (defScope sThing) .none v_thing d_thing p_thing n_thing c_thing t_thing), s_thing⟩) (g_thing : W.codeIn K c_thing "_thing_of" = true) (k_thing : W.keepIn K (.ref f_thing') = true)
    (e_box : W.nsIn K mainGlobals "_law_box" = some (some (.ref f_box'))) (l_box : K.lookup f_box' = some ⟨o_box, x_box, .func (W.fnOf "_law_box" "_law_box" (defArgs sBox) (defBody sBox) (defScope sBox) .none v_box d_box p_box n_box c_box t_box), s_box⟩) (g_box : W.codeIn K c_box "_law_box" = true) (k_box : W.keepIn K (.ref f_box') = true)
    (e_take : W.nsIn K mainGlobals "_law_take" = some (some (.ref f_take'))) (l_take : K.lookup f_take' = some ⟨o_take, x_take, .func (W.fnOf "_law_take" "_law_take" (defArgs sTake) (defBody sTake) (defScope sTake) .none v_take d_take p_take n_take c_take t_take), s_take⟩) (g_take : W.codeIn K c_take "_law_take" = true) (k_take : W.keepIn K (.ref f_take') = true)
    (e_pick : W.nsIn K mainGlobals "_law_pick" = some (some (.ref f_pick'))) (l_pick : K.lookup f_pick' = some ⟨o_pick, x_pick, .func (W.fnOf "_law_pick" "_law_pick" (defArgs sPick) (defBody sPick) (defScope sPick) .none v_pick d_pick p_pick n_pick c_pick t_pick), s_pick⟩) (g_pick : W.codeIn K c_pick "_law_pick" = true) (k_pick : W.keepIn K (.ref f_pick') = true)
    (e_mixed : W.nsIn K mainGlobals "_law_mixed" = some (some (.ref f_mixed'))) (l_mixed : K.lookup f_mixed' = some ⟨o_mixed, x_mixed, .func (W.fnOf "_law_mixed" "_law_mixed" (defArgs sMixed) (defBody sMixed) (defScope sMixed) .none v_mixed d_mixed p_mixed n_mixed c_mixed t_mixed), s_mixed⟩) (g_mixed : W.codeIn K c_mixed "_law_mixed" = true) (k_mixed : W.keepIn K (.ref f_mixed') = true)
    (e_things : W.nsIn K mainGlobals "_law_things" = some (some (.ref f_things'))) (l_things : K.lookup f_things' = some ⟨o_things, x_things, .func (W.fnOf "_law_things" "_law_things" (defArgs sThings) (defBody sThings) (defScope sThings) .none v_things d_things p_things n_things c_things t_things), s_things⟩) (g_things : W.codeIn K c_things "_law_things" = true) (k_things : W.keepIn K (.ref f_things') = true)
    (e_ltext : W.nsIn K mainGlobals "_law_text" = some (some (.ref f_ltext'))) (l_ltext : K.lookup f_ltext' = some ⟨o_ltext, x_ltext, .func (W.fnOf "_law_text" "_law_text" (defArgs sLText) (defBody sLText) (defScope sLText) .none v_ltext d_ltext p_ltext n_ltext c_ltext t_ltext), s_ltext⟩) (g_ltext : W.codeIn K c_ltext "_law_text" = true) (k_ltext : W.keepIn K (.ref f_ltext') = true)
    (e_number : W.nsIn K mainGlobals "_law_number" = some (some (.ref f_number'))) (l_number : K.lookup f_number' = some ⟨o_number, x_number, .func (W.fnOf "_law_number" "_law_number" (defArgs sNumber) (defBody sNumber) (defScope sNumber) .none v_number d_number p_number n_number c_number t_number), s_number⟩) (g_number : W.codeIn K c_number "_law_number" = true) (k_number : W.keepIn K (.ref f_number') = true)
    (e_right : W.nsIn K mainGlobals "_law_numbers_right" = some (some (.ref f_right'))) (l_right : K.lookup f_right' = some ⟨o_right, x_right, .func (W.fnOf "_law_numbers_right" "_law_numbers_right" (defArgs sRight) (defBody sRight) (defScope sRight) .none v_right d_right p_right n_right c_right t_right), s_right⟩) (g_right : W.codeIn K c_right "_law_numbers_right" = true) (k_right : W.keepIn K (.ref f_right') = true)
    (e_unk : W.nsIn K mainGlobals "_law_unknown" = some (some (.ref f_unk'))) (l_unk : K.lookup f_unk' = some ⟨o_unk, x_unk, .func (W.fnOf "_law_unknown" "_law_unknown" (defArgs sUnknown) (defBody sUnknown) (defScope sUnknown) .none v_unk d_unk p_unk n_unk c_unk t_unk), s_unk⟩) (g_unk : W.codeIn K c_unk "_law_unknown" = true) (k_unk : W.keepIn K (.ref f_unk') = true)
    (e_kref : W.nsIn K mainGlobals "_law_kept_refused" = some (some (.ref f_kref'))) (l_kref : K.lookup f_kref' = some ⟨o_kref, x_kref, .func (W.fnOf "_law_kept_refused" "_law_kept_refused" (defArgs sKeptRef) (defBody sKeptRef) (defScope sKeptRef) .none v_kref d_kref p_kref n_kref c_kref t_kref), s_kref⟩) (g_kref : W.codeIn K c_kref "_law_kept_refused" = true) (k_kref : W.keepIn K (.ref f_kref') = true)
    (e_kright : W.nsIn K mainGlobals "_law_kept_right" = some (some (.ref f_kright'))) (l_kright : K.lookup f_kright' = some ⟨o_kright, x_kright, .func (W.fnOf "_law_kept_right" "_law_kept_right" (defArgs sKeptRight) (defBody sKeptRight) (defScope sKeptRight) .none v_kright d_kright p_kright n_kright c_kright t_kright), s_kright⟩) (g_kright : W.codeIn K c_kright "_law_kept_right" = true) (k_kright : W.keepIn K (.ref f_kright') = true)
    (e_law : W.nsIn K mainGlobals "law" = some (some (.ref f_law'))) (l_law : K.lookup f_law' = some ⟨o_law, x_law, .func (W.fnOf "law" "law" (defArgs sLaw) (defBody sLaw) (defScope sLaw) .none v_law d_law p_law n_law c_law t_law), s_law⟩) (g_law : W.codeIn K c_law "law" = true) (k_law : W.keepIn K (.ref f_law') = true)
    (hT : tabsB K = true)
    (z_len : W.nsIn K mainGlobals "len" = some none)
    (z_abs : W.nsIn K mainGlobals "abs" = some none)
    (z_int : W.nsIn K mainGlobals "int" = some none)
    (z_range : W.nsIn K mainGlobals "range" = some none)
    (z_list : W.nsIn K mainGlobals "list" = some none)
    (z_tuple : W.nsIn K mainGlobals "tuple" = some none)
    (z_isinstance : W.nsIn K mainGlobals "isinstance" = some none)
    (z_enumerate : W.nsIn K mainGlobals "enumerate" = some none)
    (z_str : W.nsIn K mainGlobals "str" = some none)
    (z_bool : W.nsIn K mainGlobals "bool" = some none)
    (z_all : W.nsIn K mainGlobals "all" = some none)
    (z_repr : W.nsIn K mainGlobals "repr" = some none)
    (z_max : W.nsIn K mainGlobals "max" = some none)
    (z_min : W.nsIn K mainGlobals "min" = some none) :
    ∃ cs : List (Addr × Addr), (∀ p ∈ cs, K.lookup p.2 = none ∧ ∃ x ∈ (["law"] : List Str), W.tabIn K x = some p) ∧
    ∀ (s : Shared) (a : Addr) (ns : List Int) (base : Heap) (H : Hp), ns.length ≤ 63 → K.In base → base.Ns mainGlobals mg → (∀ p ∈ cs, TabB base mg p.1 p.2) → Env0 P w K mg base callerA [] s H → (∀ p ∈ cs, H p.2 = some (.tbl #[])) → SqL K H a (ns.map V.int) →
      codeAny (model P w) callerA (.call (.ref fa) ⟨[.ref a], []⟩) (CR CX0 [] P w H s (fun v _ => v = .bl true) E0) s := by
  have e := hfa.symm.trans (W.mg_of X G e_law)
  cases e
  obtain ⟨cL, PL, tL, uL⟩ := tabs_of hT
  refine ⟨[(cL, PL)], fun p hp => ?_, fun s a ns base H few _ _ TB e0 h0 sq => ?_⟩
  · obtain rfl := List.mem_singleton.mp hp
    exact ⟨uL, "law", by simp, tL⟩
  have TL := TB (cL, PL) (by simp)
  have tabs : Tabs [(PL, qL)] H := fun p hp => by
    obtain rfl := List.mem_singleton.mp hp
    exact .nil (h0 (cL, PL) (by simp))
  have huL : ∀ p ∈ [(PL, qL)], p.1 = PL → p.2 = qL := fun p hp e => by
    obtain rfl := List.mem_singleton.mp hp
    rfl
  have N : Nums mg := ⟨W.mg_none_of X G z_len, W.mg_none_of X G z_abs, W.mg_none_of X G z_int⟩
  have B : Bl mg := ⟨N, W.mg_none_of X G z_range, W.mg_none_of X G z_list, W.mg_none_of X G z_tuple, W.mg_none_of X G z_isinstance, W.mg_none_of X G z_enumerate, W.mg_none_of X G z_str, W.mg_none_of X G z_bool, W.mg_none_of X G z_all, W.mg_none_of X G z_repr, W.mg_none_of X G z_max, W.mg_none_of X G z_min⟩
  have ow := own_of hO
  unfold kitB at hK
  simp only [Bool.and_eq_true, decide_eq_true_eq] at hK
  obtain ⟨⟨⟨⟨⟨⟨q1, q2⟩, q3⟩, q4⟩, q5⟩, q6⟩, q7⟩ := hK
  have cH : CE P w K mg base "InvalidHouse" CH "at" := cl1_mk X G aCH bCH nCH tCH lCH cCH kCH keP exE tail_Exception exS
  have cT' : CE P w K mg base "InvalidText" CT "at" := cl1_mk X G aCT bCT nCT tCT lCT cCT kCT keT exE tail_Exception exS
  have cN : CN1 P w K mg base CN := cl1_mk X G aCN bCN nCN tCN lCN cCN kCN keN keE tail_KeyError keS
  have mC' := W.mg_of X G aC
  have h2 : HC2 K C := ⟨ow.cl, ow.no _ (by simp), ow.no _ (by simp), ow.no _ (by simp), ow.no _ (by simp), ow.no _ (by simp), ow.no _ (by simp), ow.no _ (by simp), ow.no _ (by simp), ow.no _ (by simp)⟩
  have cSeq : Callee P w K mg base "is_sequence" 1 ["value"] (spSeq) := callee_mk (st := sIsSeq) X G e_isseq l_isseq g_isseq k_isseq (fun _ _ _ _ _ _ us hl => match us, hl with | [_], _ => rfl) (fun cdv _ F => ok_isseq F B)
  have cName : Callee P w K mg base "is_name" 1 ["value"] (spName) := callee_mk (st := sIsName) X G e_isname l_isname g_isname k_isname (fun _ _ _ _ _ _ us hl => match us, hl with | [_], _ => rfl) (fun cdv _ F => ok_isname F B)
  have F_chp := fun_mk (st := sChParts) l_chp g_chp k_chp
  have F_isdoor := fun_mk (st := sIsDoor) l_isdoor g_isdoor k_isdoor
  have F_iscell := fun_mk (st := sIsCell) l_iscell g_iscell k_iscell
  have F_cht := fun_mk (st := sChThings) l_cht g_cht k_cht
  have F_take := fun_mk (st := sTake) l_take g_take k_take
  have F_numof := fun_mk (st := sNumOf) l_numof g_numof k_numof
  have cParts : CalleeX P w K mg base "_checked_parts" 3 ["parts"] (spParts CH) := ⟨_, _, W.mg_of X G e_chp, k_chp, F_chp.binds (fun _ _ _ _ _ _ us hl => match us, hl with | [_], _ => rfl), ok_chparts F_chp B cH cSeq cName (W.mg_of X G mP)⟩
  have heldD := held_of (ok_isdoor (P := P) (w := w) (mg := mg) (base := base) F_isdoor B cSeq cName) k_isdoor (F_isdoor.binds (fun _ _ _ _ _ _ us hl => match us, hl with | [_, _], _ => rfl))
  have heldC := held_of (ok_iscell (P := P) (w := w) (mg := mg) (base := base) F_iscell B cSeq cName) k_iscell (F_iscell.binds (fun _ _ _ _ _ _ us hl => match us, hl with | [_, _], _ => rfl))
  have cCh1 : CalleeX P w K mg base "_checked_things" 3 ["things", "most", "parts", "taken", "is_thing"] (spThings' CH (S1 f_isdoor' (spThing doorB))) := ⟨_, _, W.mg_of X G e_cht, k_cht, F_cht.binds (fun _ _ _ _ _ _ us hl => match us, hl with | [_, _, _, _, _], _ => rfl), ok_chthings F_cht B cH cSeq _ heldD⟩
  have cCh2 : CalleeX P w K mg base "_checked_things" 3 ["things", "most", "parts", "taken", "is_thing"] (spThings' CH (S1 f_iscell' (spThing cellB))) := ⟨_, _, W.mg_of X G e_cht, k_cht, F_cht.binds (fun _ _ _ _ _ _ us hl => match us, hl with | [_, _, _, _, _], _ => rfl), ok_chthings F_cht B cH cSeq _ heldC⟩
  have cNums : Callee P w K mg base "_numbers" 1 ["names"] (spNums) := callee_mk (st := sNumbers) X G e_nums l_nums g_nums k_nums (fun _ _ _ _ _ _ us hl => match us, hl with | [_], _ => rfl) (fun cdv _ F => ok_numbers F B)
  have cNumOf : Callee P w K mg base "_number_of" 1 ["numbers", "name"] (spNumOf) := callee_mk (st := sNumOf) X G e_numof l_numof g_numof k_numof (fun _ _ _ _ _ _ us hl => match us, hl with | [_, _], _ => rfl) (fun cdv _ F => ok_numof F B)
  have cNumX : CalleeX P w K mg base "_number_of" 3 ["numbers", "name"] (spNumOfX CN) := ⟨_, _, W.mg_of X G e_numof, k_numof, F_numof.binds (fun _ _ _ _ _ _ us hl => match us, hl with | [_, _], _ => rfl), ok_numofX F_numof B cN⟩
  have cThing : Callee P w K mg base "_thing_of" 1 ["row"] (spThingOf) := callee_mk (st := sThing) X G e_thing l_thing g_thing k_thing (fun _ _ _ _ _ _ us hl => match us, hl with | [_], _ => rfl) (fun cdv _ F => ok_thingof F B)
  have cBox : Callee P w K mg base "_law_box" 1 ["script", "k"] (spBox K) := callee_mk (st := sBox) X G e_box l_box g_box k_box (fun _ _ _ _ _ _ us hl => match us, hl with | [_, _], _ => rfl) (fun cdv _ F => ok_box F N)
  have cTake : Callee P w K mg base "_law_take" 1 ["box", "many"] (spTake) := callee_mk (st := sTake) X G e_take l_take g_take k_take (fun _ _ _ _ _ _ us hl => match us, hl with | [_, _], _ => rfl) (fun cdv _ F => ok_take F N)
  have cPick : Callee P w K mg base "_law_pick" 2 ["box", "some"] (spPick) := callee_mk (st := sPick) X G e_pick l_pick g_pick k_pick (fun _ _ _ _ _ _ us hl => match us, hl with | [_, _], _ => rfl) (fun cdv _ F => ok_pick F N F_take (F_take.binds (fun _ _ _ _ _ _ us hl => match us, hl with | [_, _], _ => rfl)) (W.mg_of X G e_take))
  have cMixed : Callee P w K mg base "_law_mixed" 2 ["box", "some"] (spMixed) := callee_mk (st := sMixed) X G e_mixed l_mixed g_mixed k_mixed (fun _ _ _ _ _ _ us hl => match us, hl with | [_, _], _ => rfl) (fun cdv _ F => ok_mixed F B cTake)
  have cThings : Callee P w K mg base "_law_things" 3 ["box", "most"] (spThings) := callee_mk (st := sThings) X G e_things l_things g_things k_things (fun _ _ _ _ _ _ us hl => match us, hl with | [_, _], _ => rfl) (fun cdv _ F => ok_things F B cTake cMixed cPick)
  have cLText : Callee P w K mg base "_law_text" 1 ["parts", "doors", "cells"] (spLText) := callee_mk (st := sLText) X G e_ltext l_ltext g_ltext k_ltext (fun _ _ _ _ _ _ us hl => match us, hl with | [_, _, _], _ => rfl) (fun cdv _ F => ok_ltext F)
  have cNumber : Callee P w K mg base "_law_number" 1 ["parts", "name"] (spNumber) := callee_mk (st := sNumber) X G e_number l_number g_number k_number (fun _ _ _ _ _ _ us hl => match us, hl with | [_, _], _ => rfl) (fun cdv _ F => ok_number F)
  have fI' := fun_mk (st := sInit) l_I g_I k_I
  have fM' := fun_mk (st := sNumPart) l_M g_M k_M
  have fT' := fun_mk (st := sText) l_T g_T k_T
  have fR' := fun_mk (st := sRead) l_R g_R k_R
  have fE' := fun_mk (st := sEq) l_E g_E k_E
  have fD' := fun_mk (st := sNumDoor) l_D g_D k_D
  have fL' := fun_mk (st := sNumCell) l_L g_L k_L
  have fF' := fun_mk (st := sFarEnd) l_F g_F k_F
  have fA' := fun_mk (st := sDoorsAt) l_A g_A k_A
  have fS' := fun_mk (st := sCellsIn) l_S g_S k_S
  have fW' := fun_mk (st := sWithKept) l_W g_W k_W
  have mk : Mk K C fI := ⟨ow.makes, nI, f_I, ow.kp⟩
  have me : Meth K C "number_of_part" fM := ⟨nM, f_M, k_M⟩
  have bI := fI'.binds (ps := ["self", "parts", "doors", "cells"]) (fun _ _ _ _ _ _ us hl => match us, hl with | [_, _, _, _], _ => rfl)
  have okM := ok_numpart (P := P) (w := w) (mg := mg) (base := base) fM' B h2.cl h2.n4 cNumOf
  have okI := ok_init (P := P) (w := w) (mg := mg) (base := base) fI' B h2 cParts cCh1 cCh2 cNums (W.mg_of X G mD) (W.mg_of X G mC) (W.mg_of X G e_isdoor) (W.mg_of X G e_iscell) me okM (fM'.binds (ps := ["self", "name"]) (fun _ _ _ _ _ _ us hl => match us, hl with | [_, _], _ => rfl))
  have okR := ok_read (P := P) (w := w) (mg := mg) (base := base) (CH := CH) fR' B cT' cThing mC' mk bI okI
  have sm : SMet K C (.type "type") "read" rR fR := ⟨nR, ⟨_, rR_⟩, k_R⟩
  have okL := ok_numcell (P := P) (w := w) (mg := mg) (base := base) fL' h2.cl h2.n6 cNumX
  have meL : Meth K C "number_of_cell" fL := ⟨nL, f_L, k_L⟩
  have bL := fL'.binds (ps := ["self", "name"]) (fun _ _ _ _ _ _ us hl => match us, hl with | [_, _], _ => rfl)
  have okW := ok_withkept (P := P) (w := w) (mg := mg) (base := base) (CH := CH) fW' B h2 mC' meL okL bL mk bI okI
  have kc : KeptC P w K mg base C CN := ⟨ow.cl, fW, _, ⟨nW, f_W, k_W⟩, fW'.binds (fun _ _ _ _ _ _ us hl => match us, hl with | [_, _], _ => rfl), okW⟩
  have hm : HouseM P w K mg base C CN := ⟨h2, ⟨fF, _, ⟨nF, f_F, k_F⟩, fF'.binds (fun _ _ _ _ _ _ us hl => match us, hl with | [_, _, _], _ => rfl), ok_farend fF' ow.cl h2.n7⟩, ⟨fA, _, ⟨nA, f_A, k_A⟩, fA'.binds (fun _ _ _ _ _ _ us hl => match us, hl with | [_, _], _ => rfl), ok_doorsat fA' B ow.cl h2.n7⟩, ⟨fS, _, ⟨nS, f_S, k_S⟩, fS'.binds (fun _ _ _ _ _ _ us hl => match us, hl with | [_, _], _ => rfl), ok_cellsin fS' B ow.cl h2.n8⟩,
    ⟨fM, _, me, fM'.binds (fun _ _ _ _ _ _ us hl => match us, hl with | [_, _], _ => rfl), ok_numpartX fM' B ow.cl h2.n4 cNumX⟩, ⟨fD, _, ⟨nD, f_D, k_D⟩, fD'.binds (fun _ _ _ _ _ _ us hl => match us, hl with | [_, _], _ => rfl), ok_numdoor fD' ow.cl h2.n5 cNumX⟩, ⟨fL, _, meL, bL, okL⟩⟩
  have cRight : Callee P w K mg base "_law_numbers_right" 5 ["house", "parts", "doors", "cells"] (spRight C) := callee_mk (st := sRight) X G e_right l_right g_right k_right (fun _ _ _ _ _ _ us hl => match us, hl with | [_, _, _, _], _ => rfl) (fun cdv _ F => ok_right F B hm cNumber)
  have cKR : Callee P w K mg base "_law_kept_right" 7 ["box", "house", "parts", "doors", "cells"] (spKR C) := callee_mk (st := sKeptRight) X G e_kright l_kright g_kright k_kright (fun _ _ _ _ _ _ us hl => match us, hl with | [_, _, _, _, _], _ => rfl) (fun cdv _ F => ok_keptright F B h2 kc cTake cMixed)
  have uk : Unk P w K mg base CN := ⟨cN, q1, B, _, _, _, _, _, _, _, _, _, _, W.mg_of X G e_unk, k_unk, l_unk, g_unk⟩
  have D : Defs P w K mg base C CH CT CN := {
    box := cBox
    take := cTake
    pick := cPick
    things := cThings
    ltext := cLText
    right := cRight
    kright := cKR
    unk := uk
    kc := kc
    hm := hm
    m := mC'
    init := ⟨fI, _, mk, bI, okI⟩
    initK := ⟨fI, _, mk, ⟨fun s us ws _ h1 h2 => .of_eq (match us, ws, h1, h2 with | [_], [_, _, _], _, _ => rfl), fun r1 r2 => g4_rel r1 r2⟩, okI⟩
    read := ⟨_, rR, fR, _, ow.rd, sm, fR'.binds (fun _ _ _ _ _ _ us hl => match us, hl with | [_], _ => rfl), okR⟩
    text := ⟨fT, _, ⟨nT, f_T, k_T⟩, fT'.binds (fun _ _ _ _ _ _ us hl => match us, hl with | [_], _ => rfl), ok_text fT' h2⟩
    eq := ⟨fE, _, nE, f_E, fE'.binds (fun _ _ _ _ _ _ us hl => match us, hl with | [_, _], _ => rfl), ok_eq fE' B h2 mC' ow.ty ow.self⟩
    ne := q2
    ob := q3
    ns := q4
    nt := q5
    ks := q6
    kt := q7
    kref := ⟨_, _, _, _, _, _, _, _, _, _, W.mg_of X G e_kref, k_kref, l_kref, g_kref⟩ }
  have fl := fun_mk (st := sLaw) l_law g_law k_law
  exact law_ok fl (code_of e_law l_law tL) TL (by simp) huL B D e0 (fl.binds (ps := ["script"]) (fun _ _ _ _ _ _ us hl => match us, hl with | [_], _ => rfl)) tabs sq few
end K01

open PySem PySem.W PyProof.Rows in
set_option maxRecDepth 100000 in
set_option maxHeartbeats 0 in
theorem PySem.Challenge.cw_lightsout_k01_houses_and_their_texts_holds : PySem.Challenge.rw_lightsout_k01_houses_and_their_texts.Holds := by
  w_on; o_law; k_head; (case hw => w_witness2)
  k_fill
  refine Cal.walkT (l := PySem.Challenge.rw_lightsout_k01_houses_and_their_texts) (n := 63) ["law"] rfl (by decide) rfl (fun w h Y => PySem.W.km_in_of Y) (by decide +kernel) ?F
  case F =>
    intro w mg fa h KX G hmg
    refine' K01.all_mk KX G hmg ?aC ?nI ?nM ?nT ?nE ?nD ?nL ?nF ?nA ?nS ?nW ?nR ?rR_ ?l_I ?g_I ?k_I ?f_I ?l_M ?g_M ?k_M ?f_M ?l_T ?g_T ?k_T ?f_T ?l_R ?g_R ?k_R ?f_R ?l_E ?g_E ?k_E ?f_E ?l_D ?g_D ?k_D ?f_D ?l_L ?g_L ?k_L ?f_L ?l_F ?g_F ?k_F ?f_F ?l_A ?g_A ?k_A ?f_A ?l_S ?g_S ?k_S ?f_S ?l_W ?g_W ?k_W ?f_W ?aCH ?bCH ?nCH ?tCH ?lCH ?cCH ?kCH ?aCT ?bCT ?nCT ?tCT ?lCT ?cCT ?kCT ?aCN ?bCN ?nCN ?tCN ?lCN ?cCN ?kCN ?hO ?hK ?mP ?mD ?mC ?e_isseq ?l_isseq ?g_isseq ?k_isseq ?e_isname ?l_isname ?g_isname ?k_isname ?e_chp ?l_chp ?g_chp ?k_chp ?e_isdoor ?l_isdoor ?g_isdoor ?k_isdoor ?e_iscell ?l_iscell ?g_iscell ?k_iscell ?e_cht ?l_cht ?g_cht ?k_cht ?e_nums ?l_nums ?g_nums ?k_nums ?e_numof ?l_numof ?g_numof ?k_numof ?e_thing ?l_thing ?g_thing ?k_thing ?e_box ?l_box ?g_box ?k_box ?e_take ?l_take ?g_take ?k_take ?e_pick ?l_pick ?g_pick ?k_pick ?e_mixed ?l_mixed ?g_mixed ?k_mixed ?e_things ?l_things ?g_things ?k_things ?e_ltext ?l_ltext ?g_ltext ?k_ltext ?e_number ?l_number ?g_number ?k_number ?e_right ?l_right ?g_right ?k_right ?e_unk ?l_unk ?g_unk ?k_unk ?e_kref ?l_kref ?g_kref ?k_kref ?e_kright ?l_kright ?g_kright ?k_kright ?e_law ?l_law ?g_law ?k_law ?hT ?z_len ?z_abs ?z_int ?z_range ?z_list ?z_tuple ?z_isinstance ?z_enumerate ?z_str ?z_bool ?z_all ?z_repr ?z_max ?z_min
    (case aC => k_is)
    (case nI => k_is)
    (case nM => k_is)
    (case nT => k_is)
    (case nE => k_is)
    (case nD => k_is)
    (case nL => k_is)
    (case nF => k_is)
    (case nA => k_is)
    (case nS => k_is)
    (case nW => k_is)
    (case nR => k_is)
    (case rR_ => k_is)
    (case l_I => k_is)
    (case g_I => k_is)
    (case k_I => k_is)
    (case f_I => k_is)
    (case l_M => k_is)
    (case g_M => k_is)
    (case k_M => k_is)
    (case f_M => k_is)
    (case l_T => k_is)
    (case g_T => k_is)
    (case k_T => k_is)
    (case f_T => k_is)
    (case l_R => k_is)
    (case g_R => k_is)
    (case k_R => k_is)
    (case f_R => k_is)
    (case l_E => k_is)
    (case g_E => k_is)
    (case k_E => k_is)
    (case f_E => k_is)
    (case l_D => k_is)
    (case g_D => k_is)
    (case k_D => k_is)
    (case f_D => k_is)
    (case l_L => k_is)
    (case g_L => k_is)
    (case k_L => k_is)
    (case f_L => k_is)
    (case l_F => k_is)
    (case g_F => k_is)
    (case k_F => k_is)
    (case f_F => k_is)
    (case l_A => k_is)
    (case g_A => k_is)
    (case k_A => k_is)
    (case f_A => k_is)
    (case l_S => k_is)
    (case g_S => k_is)
    (case k_S => k_is)
    (case f_S => k_is)
    (case l_W => k_is)
    (case g_W => k_is)
    (case k_W => k_is)
    (case f_W => k_is)
    (case aCH => k_is)
    (case bCH => kernel_rfl)
    (case nCH => k_is)
    (case tCH => k_is)
    (case lCH => k_is)
    (case cCH => k_is)
    (case kCH => k_is)
    (case aCT => k_is)
    (case bCT => kernel_rfl)
    (case nCT => k_is)
    (case tCT => k_is)
    (case lCT => k_is)
    (case cCT => k_is)
    (case kCT => k_is)
    (case aCN => k_is)
    (case bCN => kernel_rfl)
    (case nCN => k_is)
    (case tCN => k_is)
    (case lCN => k_is)
    (case cCN => k_is)
    (case kCN => k_is)
    (case hO => kernel_rfl)
    (case hK => kernel_rfl)
    (case mP => k_is)
    (case mD => k_is)
    (case mC => k_is)
    (case e_isseq => k_is)
    (case l_isseq => k_is)
    (case g_isseq => k_is)
    (case k_isseq => k_is)
    (case e_isname => k_is)
    (case l_isname => k_is)
    (case g_isname => k_is)
    (case k_isname => k_is)
    (case e_chp => k_is)
    (case l_chp => k_is)
    (case g_chp => k_is)
    (case k_chp => k_is)
    (case e_isdoor => k_is)
    (case l_isdoor => k_is)
    (case g_isdoor => k_is)
    (case k_isdoor => k_is)
    (case e_iscell => k_is)
    (case l_iscell => k_is)
    (case g_iscell => k_is)
    (case k_iscell => k_is)
    (case e_cht => k_is)
    (case l_cht => k_is)
    (case g_cht => k_is)
    (case k_cht => k_is)
    (case e_nums => k_is)
    (case l_nums => k_is)
    (case g_nums => k_is)
    (case k_nums => k_is)
    (case e_numof => k_is)
    (case l_numof => k_is)
    (case g_numof => k_is)
    (case k_numof => k_is)
    (case e_thing => k_is)
    (case l_thing => k_is)
    (case g_thing => k_is)
    (case k_thing => k_is)
    (case e_box => k_is)
    (case l_box => k_is)
    (case g_box => k_is)
    (case k_box => k_is)
    (case e_take => k_is)
    (case l_take => k_is)
    (case g_take => k_is)
    (case k_take => k_is)
    (case e_pick => k_is)
    (case l_pick => k_is)
    (case g_pick => k_is)
    (case k_pick => k_is)
    (case e_mixed => k_is)
    (case l_mixed => k_is)
    (case g_mixed => k_is)
    (case k_mixed => k_is)
    (case e_things => k_is)
    (case l_things => k_is)
    (case g_things => k_is)
    (case k_things => k_is)
    (case e_ltext => k_is)
    (case l_ltext => k_is)
    (case g_ltext => k_is)
    (case k_ltext => k_is)
    (case e_number => k_is)
    (case l_number => k_is)
    (case g_number => k_is)
    (case k_number => k_is)
    (case e_right => k_is)
    (case l_right => k_is)
    (case g_right => k_is)
    (case k_right => k_is)
    (case e_unk => k_is)
    (case l_unk => k_is)
    (case g_unk => k_is)
    (case k_unk => k_is)
    (case e_kref => k_is)
    (case l_kref => k_is)
    (case g_kref => k_is)
    (case k_kref => k_is)
    (case e_kright => k_is)
    (case l_kright => k_is)
    (case g_kright => k_is)
    (case k_kright => k_is)
    (case e_law => k_is)
    (case l_law => k_is)
    (case g_law => k_is)
    (case k_law => k_is)
    (case hT => kernel_rfl)
    (case z_len => k_is)
    (case z_abs => k_is)
    (case z_int => k_is)
    (case z_range => k_is)
    (case z_list => k_is)
    (case z_tuple => k_is)
    (case z_isinstance => k_is)
    (case z_enumerate => k_is)
    (case z_str => k_is)
    (case z_bool => k_is)
    (case z_all => k_is)
    (case z_repr => k_is)
    (case z_max => k_is)
    (case z_min => k_is)

