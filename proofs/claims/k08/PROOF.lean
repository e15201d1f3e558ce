import PyProof.Rows.All
import Wide.All
import OpenK.AllK
import Wide.FinOn
import HandS.Base
import HandS.Call
import HandS.List
import HandS.Ends
import HandS.Words
import PyProof.ReprRoads
import KE.KExcInit
import KE.KExcIs
import HandS.Exc
import HandS.ExcInit
import KE.KFromBytes
import HandS.IsInst
import HandS.TryOnly
import HandS.WordsExc
import KE.GoesEnum
import KE.GoesMore
import HandS.Comp
import HandS.Iter
import HandS.Walk
import HandS.TupMul
import HandS.WordsList
import HandS.ClsMeth
import KE.KTryMore
import HandS.EndTab
import HandS.OwnEq
import HandS.ExcField
import PyProof.StrLawsChain
import PyProof.StrLawsTight
import HandS.Text
import KE.KExcLine
import KE.RegKIsAll
import KE.KFmtOwn
import PyProof.InstEq
import HandS.Style
import HandS.TupAny
import HandS.DeepEq
import HandS.More
import HandS.RaiseMore
import HandS.Star
import HandS.Lambda
import HandS.MakeKwOnly
import PyProof.ReprBulk
import KE.KxAffix
import PySem.Challenge.RW_lightsout_k08_kinds_and_their_texts
set_option Elab.async false
set_option linter.all false
set_option maxRecDepth 100000
set_option maxHeartbeats 64000000
/-! The law's own def, run from the law's caller alone: what its body knows more is that no repr runs around it. -/
namespace Cal
open PySem PySem.Spec PyProof.Rows L2

/-- what the law's call wants -/
abbrev Won (P : Program) (w : World) (s : Shared) (fa a : Addr) : Prop :=
  codeAny (model P w) callerA (.call (.ref fa) ⟨[.ref a], []⟩)
    (fun r s' => r = .ok (.ret (.bool true)) ∧ OldK s.heap s'.heap ∧ s'.os = s.os ∧ AllBare s'.gens) s

theorem won {P : Program} {w : World} {K : PySem.W.Frag} {mg mb : Str → Option Value} {fa a : Addr} {s : Shared} {vs : List Value} {ns : List Int}
    (kIn : K.In s.heap) (glo : s.heap.Ns mainGlobals mg) (bns : s.heap.Ns builtinsNs mb) (bbo : ∀ x : Str, x ≠ "__name__" → mb x = bootBuiltins x)
    (lim : s.heap.NoLimit) (gen : s.gens = #[]) (obj : s.heap.get? a = some { cls := .type "list", data := .seq vs.toArray })
    (its : IntsAre vs ns) (few : ns.length ≤ sizeLine)
    (run : ∀ (base : Heap) (H : Hp), K.In base → base.Ns mainGlobals mg → Env0 P w K mg base callerA [] s H → Only H → SqL K H a (ns.map V.int) →
      codeAny (model P w) callerA (.call (.ref fa) ⟨[.ref a], []⟩) (CR CX0 [] P w H s (fun v _ => v = .bl true) E0) s) :
    Won P w s fa a := by
  have vals := vals_ints its
  have size := its.length
  suffices main : ∀ H : Hp, Only H → SqL K H a (ns.map V.int) → HOk P w H s.heap → (∀ b, H b ≠ none → b = a ∧ K.lookup a = none) → Won P w s fa a by
    cases look : K.lookup a with
    | some o =>
      have o2 := kIn a o look
      rw [obj] at o2
      obtain rfl := Option.some.inj o2
      refine main (fun _ => none) (fun _ => Or.inl rfl) (Or.inr ⟨_, vs.toArray, _, look, rfl, rfl, rfl, ?_, ?_⟩) (fun b u z => nomatch z) (fun b z => (z rfl).elim)
      · simpa [size] using few
      · simpa using vals
    | none =>
      let H : Hp := fun b => if b = a then some (.frz { cls := .type "list", data := .seq vs.toArray } (.lst (ns.map V.int))) else none
      have at_a : H a = some (.frz { cls := .type "list", data := .seq vs.toArray } (.lst (ns.map V.int))) := if_pos rfl
      have off : ∀ {b}, b ≠ a → H b = none := fun z => if_neg z
      refine main H (fun b => ?_) (Or.inl (Or.inr ⟨_, at_a⟩)) (fun b u z => ?_) (fun b z => ?_)
      · by_cases e : b = a
        · subst e
          exact Or.inr ⟨_, _, at_a⟩
        · exact Or.inl (off e)
      · by_cases e : b = a
        · subst e
          rw [at_a] at z
          obtain rfl := Option.some.inj z
          exact ⟨obj, by simpa using few, vs, _, vals, obj⟩
        · rw [off e] at z
          cases z
      · by_cases e : b = a
        · exact ⟨e, look⟩
        · exact (z (off e)).elim
  intro H only sq ok here
  have free : ∀ {b : Addr} {o : Obj}, s.heap.get? b = some o → o.data ≠ .seq vs.toArray → H b = none := fun {b o} e d => by
    rcases only b with z | ⟨_, _, z⟩
    · exact z
    · obtain ⟨rfl, _⟩ := here b (by rw [z]; simp)
      rw [obj] at e
      obtain rfl := Option.some.inj e
      exact (d rfl).elim
  have space : ∀ {b : Addr} {m : Str → Option Value}, s.heap.Ns b m → (hidT s.heap H).Ns b m := fun {b m} ⟨o, es, ep, e, d, r⟩ =>
    ⟨o, es, ep, hidT_get e (free e (by rw [d]; intro z; cases z)), d, r⟩
  have kIn2 : K.In (hidT s.heap H) := fun b o e => hidT_get (kIn b o e) (by
    rcases only b with z | ⟨_, _, z⟩
    · exact z
    · obtain ⟨rfl, n⟩ := here b (by rw [z]; simp)
      rw [n] at e
      cases e)
  obtain ⟨mc, l1, l2⟩ := lim
  have env : Env0 P w K mg (hidT s.heap H) callerA [] s H := {
    frames := rfl
    mod := ⟨kIn2, space glo, ⟨mb, space bns, bbo⟩, ⟨mc, space l1, l2⟩⟩
    bs := fun b o e => of_hidT e
    bsz := Nat.le_of_eq (hidT_size _ _)
    funs := trivial
    frf := fun b hb => by simp [frs] at hb
    hok := ok
    bare := .of_eq gen }
  refine codeAny_mono (run _ H kIn2 (space glo) env only sq) fun r s' z => ?_
  match r, z with
  | .error e, z => exact z.elim
  | .ok .next, z => exact z.elim
  | .ok .brk, z => exact z.elim
  | .ok .cont, z => exact z.elim
  | .ok (.ret u), ⟨v, H', os, bare, un, ok', rv, q⟩ =>
    subst q
    obtain rfl : u = Value.bool true := rv
    refine ⟨rfl, OldK.of_keep fun b o e => ?_, os, bare⟩
    rcases only b with z | ⟨ob, xs, z⟩
    · exact un.keep b o e z (by simp [frs]) (by simp)
    · have y1 := (ok b _ z).1
      have y2 := (ok' b _ (un.frzs b ob _ z)).1
      rw [e] at y1
      obtain rfl := Option.some.inj y1
      exact y2

/-- the goal that k_head leaves, from the law's body run at its caller -/
theorem walk {l : PySem.W.OpenLaw} {n : Nat} {q : Program} {loose : List Str} {XP : (Str → Option Value) → Heap → Prop} {YP : World → Heap → Prop} {d : DefRec} {K : Params → PySem.W.Frag}
    (most : l.most = some n) (few : n ≤ sizeLine) (dfl : d.params.defaults = []) (hY : ∀ (w : World) (h : Heap), YP w h → (K w.params).In h)
    (run : ∀ (w : World) (mg : Str → Option Value) (fa : Addr) (h : Heap), (K w.params).In h → h.Ns mainGlobals mg → mg d.name = some (.ref fa) →
      ∀ (s : Shared) (a : Addr) (ns : List Int) (base : Heap) (H : Hp), ns.length ≤ n → (K w.params).In base → base.Ns mainGlobals mg → Env0 l.prog w (K w.params) mg base callerA [] s H → Only H → SqL (K w.params) H a (ns.map V.int) →
        codeAny (model l.prog w) callerA (.call (.ref fa) ⟨[.ref a], []⟩) (CR CX0 [] l.prog w H s (fun v _ => v = .bl true) E0) s) :
    PySem.W.WalkO q loose XP YP l.row.toRowW d [] (fun f vs => PySem.call f vs) := by
  refine Att.attach_call most dfl fun w s₀ s₁ mg mb fa o pm cd doc a vs ns G Y ho hd hcd hmg hobj hints hlen hg => ?_
  have KX := hY w _ Y
  exact won KX G.T.g G.T.b G.T.builtins G.T.nolimit hg hobj hints (Nat.le_trans hlen few) fun base H b1 b2 e0 only sq => run w mg fa _ KX G.T.g hmg s₁ a ns base H hlen b1 b2 e0 only sq

/-- the law's def, by its body: what a body of Fun.ok is, with the caller told -/
theorem law_run {P : Program} {w : World} {K : PySem.W.Frag} {mg : Str → Option Value} {base : Heap} {x qual : Str} {st : Stmt} {f : Addr} {fd : FuncData} {N ps : List Str} {s : Shared} {H : Hp} {us : List Value} {vs : List V} {Q : VK}
    (F : Fun K x qual st f fd) (S : FnScope N ps (defScope st)) (e0 : Env0 P w K mg base callerA [] s H) (bind : Binds K fd ps []) (r : Vals vs us) (hl : vs.length = ps.length)
    (body : ∀ cdv : Value, ∃ t, PSs (cxOf CX0 P w K mg base N qual (defScope st) f cdv callerA [] s H E0).nox (defBody st) t ∧ t { nx := fun _ H' => Q .non H', rt := Q } (start N vs) H) :
    codeAny (model P w) callerA (.call (.ref f) ⟨us, []⟩) (CR CX0 [] P w H s Q E0) s := by
  obtain ⟨oc, od, kV, doc, pm, an, cdv, ct, osl, rfl, lk, hcd⟩ := F.ex
  obtain ⟨t, ht, hq⟩ := body cdv
  have keep : ∀ b o, base.get? b = some o → s.heap.get? b = some o := fun b o e => (e0.bs b o e).1
  have kIn := e0.mod.kin.keeps keep
  have ul : us.length = ps.length := by rw [← r.length]; exact hl
  have hb := bind s us kIn (by simpa using ul)
  rw [List.append_nil] at hb
  refine codeAny_call_function (by decide) (kIn _ _ lk) rfl S.co S.gen rfl (PySem.W.codeRec_of kIn hcd) (hb _ _ _ _ ?_)
  refine wpAny_newFunctionEnv_cells S.kind (fun ⟨y, v⟩ hy => ?_) fun env he s1 z => ?_
  · have := S.par y (List.of_mem_zip hy).1
    rcases this with q | q
    · exact Or.inl q
    · exact Or.inr ⟨q, PySem.W.cellsFrom_some _ _ _ (Or.inl q)⟩
  · subst he
    refine ⟨(e0.mod.nolimit.keeps keep).keeps z.toInCall.keep, codeAny_func ?_⟩
    have I : Inv (cxOf CX0 P w K mg base N qual (defScope st) f cdv callerA [] s H E0) [] (start N vs) H s1 := inv_start S rfl e0 hl r z
    refine wpAny_mono (ht.nox.run [] s1 _ H _ I hq) (fun fl s' y => ?_) fun _ _ y => y
    match fl, y with
    | .ret u, ⟨v, σ', H', J, rv, q⟩ => exact ⟨v, H', J.os, J.bare, J.base, J.hok, rv, q⟩
    | .next, ⟨σ', H', J, q⟩ => exact ⟨.non, H', J.os, J.bare, J.base, J.hok, rfl, q⟩
    | .brk, ⟨_, _, _, q⟩ => exact q.elim
    | .cont, ⟨_, _, _, q⟩ => exact q.elim

/-- no repr runs around the law's own body -/
theorem calm_guards {P : Program} {w : World} {K : PySem.W.Frag} {mg : Str → Option Value} {base : Heap} {N : List Str} {qual : Str} {sc : Scope} {f : Addr} {cdv : Value} {s : Shared} {H : Hp} :
    (cxOf CX0 P w K mg base N qual sc f cdv callerA [] s H E0).nox.A.guards = some [] := rfl

/-! ### repr of data -/
section
variable {X : Cx}
def rRepr (K : PySem.W.Frag) : List V → Hp → VK → Prop := fun xs H Q =>
  ∃ (x : V) (d : PyData), xs = [x] ∧ Dp K H x d ∧ d.showable = true ∧ d.hasDict = false ∧ d.depth ≤ 20 ∧ d.shown.length ≤ sizeLine ∧ Q (.str d.shown) H
theorem call_repr (gu : X.A.guards = some []) (un : X.A.units + 64 < cLine) : CallR X (.builtin "repr") (rRepr X.K) := by
  intro pins s σ H xs us Q I r h
  obtain ⟨x, d, rfl, dp, sh, nd, de, sz, q⟩ := h
  obtain ⟨u, rfl, r1⟩ := vals1 r
  obtain ⟨as, rd⟩ := Dp.reads I d x u dp r1
  have fin : ∀ (h' : Heap) (v : Tok) (tk : Nat), (∀ b o, s.heap.get? b = some o → h'.get? b = some o) → EP X pins σ Q (.str d.shown v) { s with heap := h', toks := tk } :=
    fun h' v tk k => ⟨.str d.shown, H, I.kept k, ⟨v, rfl⟩, q⟩
  cases dp with
  | non =>
    cases r1
    exact PySem.P.repr_of_none (fin s.heap _ _ fun _ _ e => e)
  | bl b =>
    cases r1
    exact PySem.P.repr_of_bool (fin s.heap _ _ fun _ _ e => e)
  | int i =>
    obtain ⟨t, rfl⟩ := r1
    refine PySem.P.repr_of_int (by simpa [PyData.showable] using sh) ?_
    have := fin s.heap s.toks (s.toks + 1) fun _ _ e => e
    simpa only [PyData.shown] using this
  | str y =>
    obtain ⟨t, rfl⟩ := r1
    have := fin s.heap s.toks (s.toks + 1) fun _ _ e => e
    simp only [PyData.shown] at this sz
    exact PySem.P.repr_of_str this sz
  | lst hs ha =>
    cases r1
    exact repr_of_reads' rd sh (fun z => by rw [nd] at z; cases z) gu (by omega) (fun _ _ e => e) fin sz
  | tup hs ha =>
    cases r1
    exact repr_of_reads' rd sh (fun z => by rw [nd] at z; cases z) gu (by omega) (fun _ _ e => e) fin sz
end
end Cal

/-! An own exception of any built-in base made by a call with positional values and keywords: __new__ lays it, its own __init__ runs. -/
namespace Exn
open PySem PySem.Calls PyProof.Rows PySem.Spec
/-- what the classes above an own exception class must be: the one that makes it, no AttributeError, no NameError -/
structure Tail (bm : List Value) (B : String) : Prop where
  has : bm.contains (.type B) = true
  noA : bm.contains (.type "AttributeError") = false
  noN : bm.contains (.type "NameError") = false
section
variable {M : Model} {A : Around} {E : Value → Shared → Prop} {h : Heap} {g : Array GenState} {d : Drawn} {t : Nat} {os : OsState}
variable {nm q : Str} {C N : Addr} {bs bm bmB : List Value} {hd : Bool} {sn : List Str} {sub : List Value} {ab : Bool} {col : Option Bool} {dd : Option Addr}
  {k0 k1 k2 k3 k5 : Option Value} {B newId initId : String} {prog : Program} {w : World} {R : Result → Shared → Prop}

theorem chk_new (F : ExcBaseFacts B newId initId bmB) (tail : Tail bm B) {us : List Value} {kw : List (Str × Value)} {Q : Unit → Shared → Prop}
    (at_C : h.get? C = some (excClassObj nm q C N bs bm hd sn sub ab col dd k0 k1 k2 k3 k5 newId)) (k : Q () ⟨h, g, d, t, os⟩) :
    wpAny M A (checkBuiltinCall newId ⟨.ref C :: us, kw⟩) Q E ⟨h, g, d, t, os⟩ := by
  have has : (Value.ref C :: bm).contains (.type B) = true := by
    rw [List.contains_cons, tail.has]
    exact Bool.or_true _
  have star := F.noStar
  simp only [F.newRow, F.newSplit, F.newKind, checkBuiltinCall]
  repeat (first
    | refine wpAny_loadPart_at at_C ?_
    | (refine wpAny_isSubtype_exc at_C ?_; rw [has])
    | refine wpAny_staticBase_exc at_C ?_
    | refine wpAny_madeBy_exc at_C ?_
    | simp only [Bool.false_eq_true, bne_self_eq_false, if_false]
    | wp_step)
  exact k

theorem new_kw (F : ExcBaseFacts B newId initId bmB) (tail : Tail bm B) {us : List Value} {kw : List (Str × Value)}
    (at_C : h.get? C = some (excClassObj nm q C N bs bm hd sn sub ab col dd k0 k1 k2 k3 k5 newId)) (few : us.length ≤ sizeLine)
    (k : R (.ok (.ret (.ref (h.objs.size + 1)))) ⟨(h.push (PySem.W.kdv_tup us)).push (PySem.HandSPX.excO C h.objs.size), g, d, t, os⟩) :
    codeAny (model prog w) A (.builtin newId ⟨.ref C :: us, kw⟩) R ⟨h, g, d, t, os⟩ := by
  have e0 := F.ends
  have inB : (Value.ref C :: bm).contains (.type B) = true := by
    rw [List.contains_cons, tail.has]
    exact Bool.or_true _
  have noA : (Value.ref C :: bm).contains (.type "AttributeError") = false := by
    rw [List.contains_cons, tail.noA]
    rfl
  have noN : (Value.ref C :: bm).contains (.type "NameError") = false := by
    rw [List.contains_cons, tail.noN]
    rfl
  refine codeAny_builtinAt F.entry ?_
  unfold Builtin.«BaseException.__new__»
  refine PySem.wpAt_bind ?_
  show PySem.wpAt _ _ _ (stack >>= _) _ _ _
  refine PySem.wpAt_bind (PySem.wpAt_stack fun p below => PySem.wpAt_of_wpAny ?_)
  wp_walk
  refine PySem.wpAt_of_wpAny ?_
  rw [F.owner]
  repeat (first
    | with_reducible refine wpAny_madeHere_exc F.canon at_C ?_
    | with_reducible refine wpAny_loadPart_at at_C ?_
    | (with_reducible refine wpAny_isSubtype_exc at_C ?_; first | rw [inB] | rw [noA] | rw [noN])
    | wp_step)
  show R _ _
  rw [Heap.size_push]
  exact k

/-- C(us, kw): the exception is laid, then its own __init__ runs -/
theorem type_call_kw (F : ExcBaseFacts B newId initId bmB) (tail : Tail bm B) {us : List Value} {kw : List (Str × Value)} {fI : Addr} {Q : Fin → Shared → Prop}
    (at_C : h.get? C = some (excClassObj nm q C N bs bm hd sn sub ab col dd k0 k1 k2 k3 k5 newId)) (few : us.length ≤ sizeLine)
    (init : W.Looks (model prog w) h (typeLookup (.ref C) "__init__") (some (.ref fI))) (bind : ∀ self, W.Looks (model prog w) h (bindSpecial (.ref fI) self) (.ref fI, [self]))
    (k : codeAny (model prog w) A (.call (.ref fI) ⟨.ref (h.objs.size + 1) :: us, kw⟩)
      (fun r s' => match r with | .ok (.ret v) => v = .none ∧ Q (.done (.ret (.ref (h.objs.size + 1)))) s' | .ok _ => False | .error e => E e s')
      ⟨(h.push (W.kdv_tup us)).push (HandSPX.excO C h.objs.size), g, d, t, os⟩) :
    wpAny (model prog w) A (Builtin.«type.__call__» ⟨.ref C :: us, kw⟩) Q E ⟨h, g, d, t, os⟩ := by
  have kept : ∀ b o, h.get? b = some o → ((h.push (W.kdv_tup us)).push (HandSPX.excO C h.objs.size)).get? b = some o :=
    fun b o e => Heap.get?_push_of_some _ (Heap.get?_push_of_some _ e)
  have made : ((h.push (W.kdv_tup us)).push (HandSPX.excO C h.objs.size)).get? (h.objs.size + 1) = some (HandSPX.excO C h.objs.size) := by
    heap_get
  have at_C2 := kept _ _ at_C
  have own : (Value.ref C :: bm).contains (.ref C) = true := by simp
  have init2 := init.keeps kept
  have bind2 := (bind (.ref (h.objs.size + 1))).keeps kept
  repeat (first
    | with_reducible refine wpAny_loadPart_at at_C ?_
    | with_reducible refine wpAny_madeBy_exc at_C ?_
    | wp_step)
  refine codeAny_call_builtin_code (Code.quiet_builtin _ F.quiet) (chk_new F tail at_C (new_kw F tail at_C few ?_))
  show wpAny _ _ _ _ _ _
  unfold isInstance
  repeat (first
    | with_reducible refine wpAny_loadPart_at made ?_
    | (with_reducible refine wpAny_isSubtype_exc at_C2 ?_; rw [own])
    | wp_step)
  show wpAny _ _ (typeLookup (.ref C) _) _ _ _
  refine init2.at (wpAny_holding (wpAny_bind (bind2.at ?_)))
  refine wpAny_bind (wpAny_call (codeAny_mono k fun r s' z => ?_))
  match r, z with
  | .error e, z => exact z
  | .ok .next, z => exact z.elim
  | .ok .brk, z => exact z.elim
  | .ok .cont, z => exact z.elim
  | .ok (.ret v), ⟨e, z⟩ =>
    subst e
    first
      | exact wpAny_pure (wpAny_pure z)
      | (wp_walk; exact z)

theorem call_kw (F : ExcBaseFacts B newId initId bmB) (tail : Tail bm B) {us : List Value} {kw : List (Str × Value)} {fI : Addr}
    (at_C : h.get? C = some (excClassObj nm q C N bs bm hd sn sub ab col dd k0 k1 k2 k3 k5 newId)) (few : us.length ≤ sizeLine)
    (init : W.Looks (model prog w) h (typeLookup (.ref C) "__init__") (some (.ref fI))) (bind : ∀ self, W.Looks (model prog w) h (bindSpecial (.ref fI) self) (.ref fI, [self]))
    (k : codeAny (model prog w) (A.under (.builtin "type.__call__" ⟨.ref C :: us, kw⟩)) (.call (.ref fI) ⟨.ref (h.objs.size + 1) :: us, kw⟩) (W.InitBack (h.objs.size + 1) R)
      ⟨(h.push (W.kdv_tup us)).push (HandSPX.excO C h.objs.size), g, d, t, os⟩) :
    codeAny (model prog w) A (.call (.ref C) ⟨us, kw⟩) R ⟨h, g, d, t, os⟩ := by
  have l1 := tc_lookup
  have l2 := tc_bind (.ref C)
  have ty : (⟨h, g, d, t, os⟩ : Shared).TypeIs (.ref C) "type" := ⟨_, at_C, rfl⟩
  refine codeAny_of_tree ?_
  show wpAny _ _ (callAny (.ref C) _) _ _ _
  repeat (any_goals (first | assumption | with_reducible refine wpAny_loadPart_at at_C ?_ | wp_step))
  refine ⟨rfl, codeAny_call_builtin_at (Code.quiet_builtin _ (by decide +kernel)) entry_typeCall ?_⟩
  have chk : ∀ {Q : Unit → Shared → Prop} {A' : Around} {E' : Value → Shared → Prop}, Q () ⟨h, g, d, t, os⟩ → wpAny (model prog w) A' (checkBuiltinCall "type.__call__" ⟨.ref C :: us, kw⟩) Q E' ⟨h, g, d, t, os⟩ := by
    intro Q A' E' hq
    have l3 := tc_sub
    simp only [tc_split, tc_kind, checkBuiltinCall]
    repeat (any_goals (first | assumption | with_reducible refine wpAny_loadPart_at at_C ?_ | with_reducible refine wpAny_onRaise ?_ | with_reducible refine wpAny_map ?_ | wp_step))
  refine chk (type_call_kw F tail at_C few init bind (codeAny_mono k fun r s' z => ?_))
  match r, z with
  | .error e, z => exact z
  | .ok .next, z => exact z.elim
  | .ok .brk, z => exact z.elim
  | .ok .cont, z => exact z.elim
  | .ok (.ret v), z => exact z
end
end Exn

namespace Exn
open PySem PySem.Spec PyProof.Rows L2

/-- what the written part says of an own exception class over a built-in one, whose mro is bmB; B: the built-in one whose __new__ makes it -/
structure Ecl (K : W.Frag) (C : Addr) (B newId initId : String) (bmB : List Value) : Prop where
  base : ∃ bm, ExcBaseFacts B newId initId bm
  tail : Tail bmB B
  store : ∃ B', StoreFacts B' bmB "object.__setattr__" "object"
  made : W.excInitIn K C bmB newId = true
  over : W.excOver K C bmB = true
  sa : W.findIn K (.ref C) "__setattr__" = some (some (.builtin "object.__setattr__"))
  ga : W.findIn K (.ref C) "__getattribute__" = some (some (.builtin "BaseException.__getattribute__"))
  gt : W.findIn K (.ref C) "__getattr__" = some none
  hd : W.hasDictIn K C = true
  sub : W.subIn K (.ref C) (.type "BaseException") = some true
  ca : W.findIn K (.ref C) "__class__" = some (some (.builtin "object.__class__"))
  mo : W.mroIn K C (.type "object") = some true
  kp : W.keepIn K (.ref C) = true

theorem Tail.of {bm bmB : List Value} {B : String} (t : Tail bmB B) (e : ∀ Y : String, bm.contains (.type Y) = bmB.contains (.type Y)) : Tail bm B := ⟨by rw [e]; exact t.has, by rw [e]; exact t.noA, by rw [e]; exact t.noN⟩
section
variable {prog : Program} {w : World} {A : Around} {E : Value → Shared → Prop} {R : Result → Shared → Prop} {hp : Heap} {g : Array GenState} {d : Drawn} {t : Nat} {os : OsState}
variable {K : W.Frag} {C : Addr} {B newId initId : String} {bmB : List Value}
theorem store_first {x t0 : Addr} {f : Str} {tk : Tok} {v : Value} (T : Ecl K C B newId initId bmB) (X : K.In hp) (at_x : hp.get? x = some (W.excObj C t0 none .none)) (no : W.findIn K (.ref C) f = some none)
    (k : ∀ h' tk' dx, (∀ b o, b ≠ x → hp.get? b = some o → h'.get? b = some o) → hp.objs.size ≤ dx → dx ≠ x → h'.get? x = some (W.excObj C t0 (some dx) .none) → h'.Ns1 dx (fun y => if y = f then some v else none) →
      R (.ok (.ret .none)) ⟨h', g, d, tk', os⟩) :
    codeAny (model prog w) A (.call (.builtin "object.__setattr__") ⟨[.ref x, .str f tk, v], []⟩) R ⟨hp, g, d, t, os⟩ := by
  obtain ⟨cd, hc, hdict⟩ := W.any_some T.hd
  obtain ⟨B', SF⟩ := T.store
  have ne : x ≠ hp.objs.size := Nat.ne_of_lt (Heap.lt_size at_x)
  have I : W.InstAt hp x (W.excObj C t0 none .none) C none := ⟨at_x, rfl, rfl, trivial⟩
  refine W.osa_openX (s := ⟨hp, g, d, t, os⟩) SF X I T.over (NoAttr.taker no) fun b => ?_
  refine wpAny_bind (wpAny_pure (wpAny_bind (W.instanceDict_exc at_x (W.looks_clsIn X hc) hdict ?_)))
  show wpAny _ _ (Builtin.ObjectAttr.storeInDict hp.objs.size (.str f tk) f v) _ _ _
  refine HandSPX.store_in_new ?_ fun h' tk' ns same => ?_
  · refine ⟨_, #[], 0, (Heap.get?_update_ne _ _ _ _ (Ne.symm ne)).trans (Heap.get?_push_at rfl rfl), rfl, fun e he => ?_, fun _ => rfl⟩
    simp at he
  · have px : (hp.push (W.dictOf [] 0)).get? x = some (W.excObj C t0 none .none) := Heap.get?_push_of_some _ at_x
    refine k h' tk' hp.objs.size (fun b o hb ho => ?_) (Nat.le_refl _) (Ne.symm ne) ?_ ns
    · have hb2 : b ≠ hp.objs.size := Nat.ne_of_lt (Heap.lt_size ho)
      rw [same.2 b hb2, Heap.get?_update_ne _ _ _ _ hb]
      exact Heap.get?_push_of_some _ ho
    · rw [same.2 x ne]
      exact Heap.get?_update_self _ px rfl
end

section
variable {X : Cx} {pins : List (Addr × Obj)} {σ : L2.St} {H : Hp} {s : Shared} {A : Around} {E : Value → Shared → Prop}
variable {C : Addr} {B newId initId : String} {bmB : List Value}
/-- self.f = y in an own __init__ -/
theorem keep_one {a : Addr} {f : Str} {y : V} {u : Value} {Q : Unit → Shared → Prop} (T : Ecl X.K C B newId initId bmB) (I : Inv X pins σ H s) (e : H a = some (exo a C none)) (no : W.findIn X.K (.ref C) f = some none) (ry : RelV y u)
    (k : ∀ dx s', H dx = none → dx ≠ a → Inv X pins σ (upd (upd H dx (exd dx [(f, y)])) a (exo a C (some dx))) s' → Q () s') :
    wpAny (model X.prog X.w) A (setAttr (.ref a) f u) Q E s := by
  obtain ⟨t0, at_a⟩ := exo_at I.hok e
  obtain ⟨hp, g, d, t, os⟩ := s
  refine W.set_plain I.kIn (ox := W.excObj C t0 none .none) (od := none) ⟨at_a, rfl, rfl, trivial⟩ T.sa ?_
  refine store_first T I.kIn at_a no fun h' tk' dx keep big ne at_x ns => ?_
  have free : H dx = none := I.hok.fresh big
  have old : ∀ {b : Addr} {o : Obj}, hp.get? b = some o → b ≠ dx := fun {b o} z =>
    Nat.ne_of_lt (Nat.lt_of_lt_of_le (Heap.lt_size z) big)
  have off : ∀ {b : Addr}, H b = none → b ≠ a := fun {b} z y => by
    subst y
    rw [e] at z
    cases z
  have at_d : ∀ {b : Addr} {o : HO}, H b = some o → b ≠ dx := fun {b o} z y => by
    subst y
    rw [free] at z
    cases z
  have un : Un X.fs [] H (upd (upd H dx (exd dx [(f, y)])) a (exo a C (some dx))) hp h' := by
    constructor
    · exact fun b o z n _ _ => keep b o (off n) z
    · exact fun b o z n _ _ => ⟨o.slots, keep b o (off n) z⟩
    · intro b o z n _
      rw [upd_ne (off n), upd_ne (old z)]
      exact n
    · intro b o z _
      by_cases q : b = a
      · exact ⟨_, q ▸ at_x⟩
      · exact ⟨o, keep b o q z⟩
    · intro b xs z
      rw [upd_ne (at_ne e z exo_tup), upd_ne (at_d z)]
      exact z
    · intro b o v z
      rw [upd_ne (at_ne e z exo_frz), upd_ne (at_d z)]
      exact z
    · intro b ps z
      refine ⟨#[], ?_⟩
      rw [upd_ne (at_ne e z exo_tbl), upd_ne (at_d z), z]
      simp
  refine k dx _ free ne (I.un (t' := tk') un fun b o z => ?_)
  by_cases q : b = a
  · subst q
    rw [upd_same] at z
    obtain rfl := Option.some.inj z
    exact exo_ok at_x
  · rw [upd_ne q] at z
    by_cases q2 : b = dx
    · subst q2
      rw [upd_same] at z
      obtain rfl := Option.some.inj z
      exact exd_ok ns (relO_put (fs := []) ry fun _ => True.intro)
    · rw [upd_ne q2] at z
      refine (I.hok b o z).stay (fun c v hc y => keep c v ?_ y) (fun c hc => ?_) (fun c xs hc => ?_)
      · rcases hc with hc | hc
        · exact hc ▸ q
        · exact at_ne e hc exo_own
      · rw [upd_ne (at_ne e hc exo_own), upd_ne (at_d hc)]
        exact hc
      · rw [upd_ne (at_ne e hc exo_tup), upd_ne (at_d hc)]
        exact hc

theorem ps_keep {o e : Expr} {to te : TE} {f : Str} {p' pos : Pos} (T : Ecl X.K C B newId initId bmB) (no : W.findIn X.K (.ref C) f = some none) (ho : PE X o to) (he : PE X e te)
    (hs : swapsWith e (some (.Attribute o f p')) pos.line X.env = pure false := by rfl) :
    PS X (.Assign [.Attribute o f p'] e pos) (fun D σ H => te σ H fun y H1 => to σ H1 fun x H2 => ∃ a, x = .ref a ∧ H2 a = some (exo a C none) ∧
      ∀ dx, H2 dx = none → dx ≠ a → D.nx σ (upd (upd H2 dx (exd dx [(f, y)])) a (exo a C (some dx)))) := by
  refine ⟨fun pins s σ H D I h => plainObj_wpAny_Assign_Attribute ?_ hs⟩
  refine thn (he.run pins s σ H _ I h) fun v s1 ⟨y, H1, I1, r1, q1⟩ => ?_
  refine thn (ho.run pins s1 σ H1 _ I1 q1) fun u s2 ⟨x, H2, I2, r2, a, ex, ea, q⟩ => ?_
  subst ex
  obtain rfl : u = Value.ref a := r2
  exact keep_one T I2 ea no r1 fun dx s' n ne J => ⟨σ, _, J, q dx n ne⟩

/-- such an object stands at a -/
theorem inst_at {a : Addr} {dx : Addr} {fs : List (Str × V)} (I : Inv X pins σ H s) (e : H a = some (exo a C (some dx))) (ed : H dx = some (exd dx fs)) :
    ∃ ox od mA, W.InstAt s.heap a ox C (some od) ∧ s.heap.Ns1 dx mA ∧ s.heap.get? dx = some od ∧ ∀ f, RelO (fs.lookup f) (mA f) := by
  obtain ⟨t0, at_a⟩ := exo_at I.hok e
  obtain ⟨mA, ns, rel⟩ := exd_at I.hok ed
  obtain ⟨o, es, ep, ho, r⟩ := ns
  exact ⟨_, o, mA, ⟨at_a, rfl, rfl, ho⟩, ⟨o, es, ep, ho, r⟩, ho, rel⟩

/-- what an instance of an own exception class is, with a dict of its own or without -/
def Bare (C : Addr) (H : Hp) (a : Addr) : Prop := H a = some (exo a C none) ∨ ∃ dx fs, H a = some (exo a C (some dx)) ∧ H dx = some (exd dx fs)

structure ClsGet (K : W.Frag) : Prop where
  get : W.specialIn K (.builtin "object.__class__") "__get__" = some (some (.builtin "getset_descriptor.__get__"))
  takes : W.takesIn K (.builtin "object.__class__") = some true

theorem cls_some {K : W.Frag} {C : Addr} (h : W.hasDictIn K C = true) : (W.clsIn K C).isSome = true := by
  obtain ⟨cd, hc, _⟩ := W.any_some h
  rw [hc]
  rfl

/-- isinstance(e, c) of such an instance -/
theorem call_isE (T : Ecl X.K C B newId initId bmB) (G : ClsGet X.K) :
    CallR X (.builtin "isinstance") (fun xs H Q => ∃ (a : Addr) (c : V) (u : Value) (b : Bool), xs = [.ref a, c] ∧ ClsV c u ∧ Bare C H a ∧ W.kitOne X.K (.ref C) u = some b ∧ Q (.bl b) H) := by
  intro pins s σ H xs us Q I r h
  obtain ⟨a, c, u, b, rfl, k, bare, e, q⟩ := h
  obtain ⟨u1, u2, rfl, r1, r2⟩ := vals2 r
  have e2 := k.eq r2
  subst e2
  obtain rfl : u1 = Value.ref a := r1
  have fin : ∀ tk, EP X pins σ Q (.bool b) { s with toks := tk } := fun tk => ⟨.bl b, H, I.tok tk, rfl, q⟩
  rcases bare with ea | ⟨dx, fs, ea, ed⟩
  · obtain ⟨t0, at_a⟩ := exo_at I.hok ea
    exact W.kia_one (W.kitx_exc (ox := W.excObj C t0 none .none) (od := none) (cls_some T.hd) T.ga T.gt T.sub T.ca G.get G.takes T.mo) I.kIn ⟨at_a, rfl, rfl, trivial⟩ e (fun z => nomatch z) fin
  · obtain ⟨ox, od, mA, J, _⟩ := inst_at I ea ed
    exact W.kia_one (W.kitx_exc (ox := ox) (od := some od) (cls_some T.hd) T.ga T.gt T.sub T.ca G.get G.takes T.mo) I.kIn J e (fun z => nomatch z) fin

/-- e.f of such an instance -/
theorem pe_at {o : Expr} {to : TE} {f : Str} {pos : Pos} (T : Ecl X.K C B newId initId bmB) (no : W.findIn X.K (.ref C) f = some none) (ho : PE X o to) (hb : attributeBase o f X.env (eval o X.env) = eval o X.env := by rfl) :
    PE X (.Attribute o f pos) (fun σ H Q => to σ H fun x H1 => ∃ a dx fs v, x = .ref a ∧ H1 a = some (exo a C (some dx)) ∧ H1 dx = some (exd dx fs) ∧ fs.lookup f = some v ∧ Q v H1) := by
  refine ⟨fun pins s σ H Q I h => attr_of hb ?_⟩
  refine thn (ho.run pins s σ H _ I h) fun u s1 ⟨x, H1, I1, rx, a, dx, fs, v, ex, ea, ed, l, q⟩ => ?_
  subst ex
  obtain rfl : u = Value.ref a := rx
  obtain ⟨ox, od, mA, J, ns, hod, rel⟩ := inst_at I1 ea ed
  obtain ⟨od', ho', hl⟩ := lookIn_ns ns
  rw [hod] at ho'
  obtain rfl := Option.some.inj ho'
  have r2 := rel f
  rw [l] at r2
  obtain ⟨u', hu, ru⟩ := RelO.some_of (v := v) (o := mA f) r2
  refine HandSPX.exc_get I1.kIn J T.ga T.gt T.sub (W.findObj_own T.hd no rfl ?_) (handed_of ru) ⟨v, H1, I1.tok _, ru, q⟩
  rw [hl, hu]
end
end Exn

namespace Exn
open PySem PySem.Spec PyProof.Rows L2

/-- def __init__(self, f): self.f = f -/
def spKeep (C : Addr) (f : Str) : Sp := fun vs H Q _ => ∃ (a : Addr) (v : V), vs = [.ref a, v] ∧ H a = some (exo a C none) ∧
  ∀ dx, H dx = none → dx ≠ a → Q .non (upd (upd H dx (exd dx [(f, v)])) a (exo a C (some dx)))
/-- def __init__(self): pass -/
def spBare (C : Addr) : Sp := fun vs H Q _ => ∃ a : Addr, vs = [.ref a] ∧ H a = some (exo a C none) ∧ Q .non H

section
variable {P : Program} {w : World} {K : W.Frag} {mg : Str → Option Value} {base : Heap} {C : Addr} {B newId initId : String} {bmB : List Value}
theorem ok_keep {f : Str} {p1 p2 p3 p4 : Pos} {qual : Str} {st : Stmt} {fI : Addr} {fd : FuncData} (F : Fun K "__init__" qual st fI fd) (T : Ecl K C B newId initId bmB) (no : W.findIn K (.ref C) f = some none)
    (hB : defBody st = [.Assign [.Attribute (.Name "self" p1) f p2] (.Name f p3) p4]) (S : FnScope ["self", f] ["self", f] (defScope st)) (v0 : Vis (defScope st) "self") (v1 : Vis (defScope st) f)
    (n1 : (f == ("__debug__" : Str)) = false) (n2 : (f == ("__classdict__" : Str)) = false) : FnOk P w K mg base CX0 1 fI fd ["self", f] (spKeep C f) := by
  refine F.ok S (fun vs H Q E h => ?_) (fun cdv A outer s H vs Q E hr h => ?_)
  · obtain ⟨a, v, rfl, _⟩ := h
    rfl
  · obtain ⟨a, v, rfl, ea, k⟩ := h
    rw [hB]
    refine ⟨_, pss_one (ps_keep T no (pv 0 rfl v0) (pv 1 rfl v1 n1 n2)), ?_⟩
    exact ⟨v, rfl, .ref a, rfl, a, rfl, ea, fun dx n ne => k dx n ne⟩
theorem ok_bare {p4 : Pos} {qual : Str} {st : Stmt} {fI : Addr} {fd : FuncData} (F : Fun K "__init__" qual st fI fd)
    (hB : defBody st = [.Pass p4]) (S : FnScope ["self"] ["self"] (defScope st)) : FnOk P w K mg base CX0 1 fI fd ["self"] (spBare C) := by
  refine F.ok S (fun vs H Q E h => ?_) (fun cdv A outer s H vs Q E hr h => ?_)
  · obtain ⟨a, rfl, _⟩ := h
    rfl
  · obtain ⟨a, rfl, ea, k⟩ := h
    rw [hB]
    exact ⟨_, pss_one ps_pass, k⟩
end

section
variable {X : Cx} {pins : List (Addr × Obj)} {σ : L2.St} {H : Hp} {s : Shared}
variable {C fI : Addr} {B newId initId : String} {bmB : List Value} {k : Nat} {fd : FuncData} {ps : List Str} {sp : Sp}
/-- C(..) of an own exception class: the new exception is handed back -/
theorem run_exn {us ws : List Value} {vs : List V} {kw : List (Str × Value)} {Q : VK} (T : Ecl X.K C B newId initId bmB) (iC : W.findIn X.K (.ref C) "__init__" = some (some (.ref fI))) (tI : W.typeIn X.K (.ref fI) = some (.type "function"))
    (G : FnOk X.prog X.w X.K X.mg X.base CX0 k fI fd ps sp) (hr : Room (k + 1) X.A) (bd : ∀ (s : Shared) (a : Addr), BindsTo s fd ⟨.ref a :: us, kw⟩ (ps.zip (.ref a :: ws))) (r : Vals vs ws) (few : us.length ≤ sizeLine) (I : Inv X pins σ H s)
    (h : ∀ a, H a = none → sp (.ref a :: vs) (upd H a (exo a C none)) (fun v H2 => v = .non ∧ Q (.ref a) H2) E0) :
    wpAny (model X.prog X.w) X.A (call (.ref C) us kw) (EP X pins σ Q) X.xe s := by
  obtain ⟨nm, N, qn, bs, bm, hd, sn, sub, ab, col, dd, k0, k1, k2, k3, k5, at_C, tail⟩ := W.excInit_of I.kIn T.made
  obtain ⟨bm0, base⟩ := T.base
  obtain ⟨hp, g, dr, tk, os⟩ := s
  have big : hp.objs.size ≤ hp.objs.size + 1 := Nat.le_succ _
  have new := h (hp.objs.size + 1) (I.hok.fresh big)
  have kept : ∀ b o, hp.get? b = some o → ((hp.push (W.kdv_tup us)).push (HandSPX.excO C hp.objs.size)).get? b = some o :=
    fun b o e => Heap.get?_push_of_some _ (Heap.get?_push_of_some _ e)
  have made : ((hp.push (W.kdv_tup us)).push (HandSPX.excO C hp.objs.size)).get? (hp.objs.size + 1) = some (HandSPX.excO C hp.objs.size) := by
    heap_get
  have J : Inv X pins σ (upd H (hp.objs.size + 1) (exo (hp.objs.size + 1) C none)) ⟨(hp.push (W.kdv_tup us)).push (HandSPX.excO C hp.objs.size), g, dr, tk, os⟩ :=
    I.laid (t' := tk) kept big (exo_ok made)
  have r2 : Vals (V.ref (hp.objs.size + 1) :: vs) (Value.ref (hp.objs.size + 1) :: ws) := .cons rfl r
  refine wpAny_call (call_kw base (T.tail.of tail) at_C few (W.looks_findIn I.kIn iC) (fun self => W.bind_fn I.kIn self tI) ?_)
  refine codeAny_mono (G.run _ X.stack _ _ ⟨Value.ref (hp.objs.size + 1) :: us, kw⟩ _ _ _ E0 (hr.make C us kw) (J.env0.make C us kw) (bd _ _) r2 new) fun r s' z => ?_
  match r, z with
  | .error e, z => exact z.elim
  | .ok .next, z => exact z.elim
  | .ok .brk, z => exact z.elim
  | .ok .cont, z => exact z.elim
  | .ok (.ret u), z =>
    obtain ⟨v, H', J2, rv, ev, q⟩ := J.after z
    subst ev
    refine ⟨rv, ⟨V.ref (hp.objs.size + 1), H', ?_, rfl, q⟩⟩
    refine ⟨J2.ok, J2.os, J2.bare, J2.base, J2.loc, J2.cell, J2.free, J2.freeC, J2.pin, J2.hok, J2.len⟩
end
end Exn

namespace Exn
open PySem PySem.Spec PyProof.Rows L2

/-- an own exception class whose __init__ keeps one thing, by the name x of the module -/
structure Cl1 (P : Program) (w : World) (K : W.Frag) (mg : Str → Option Value) (base : Heap) (x : Str) (C : Addr) (f : Str) (B newId initId : String) (bmB : List Value) : Prop where
  T : Ecl K C B newId initId bmB
  no : W.findIn K (.ref C) f = some none
  m : mg x = some (.ref C)
  ty : W.typeIn K (.ref C) = some (.type "type")
  run : ∃ fI fd, W.findIn K (.ref C) "__init__" = some (some (.ref fI)) ∧ W.typeIn K (.ref fI) = some (.type "function") ∧ FnOk P w K mg base CX0 1 fI fd ["self", f] (spKeep C f) ∧
    (∀ (s : Shared) (a u : Value), BindsTo s fd ⟨[a, u], []⟩ [("self", a), (f, u)]) ∧ ∀ (s : Shared) (a u : Value), BindsTo s fd ⟨[a], [(f, u)]⟩ [("self", a), (f, u)]

/-- where a made exception stands -/
def made (H : Hp) (C : Addr) (f : Str) (v : V) (a dx : Addr) : Hp := upd (upd H dx (exd dx [(f, v)])) a (exo a C (some dx))
theorem made_eq {H : Hp} {C : Addr} {f : Str} {v : V} {a dx : Addr} (ne : dx ≠ a) : upd (upd (upd H a (exo a C none)) dx (exd dx [(f, v)])) a (exo a C (some dx)) = made H C f v a dx := by
  funext b
  unfold made
  by_cases h1 : b = a
  · rw [h1, upd_same, upd_same]
  · rw [upd_ne h1, upd_ne h1]
    by_cases h2 : b = dx
    · rw [h2, upd_same, upd_same]
    · rw [upd_ne h2, upd_ne h2, upd_ne h1]
/-- C(v): what is asked -/
def tExn (C : Addr) (f : Str) (te : TE) : TE := fun σ H Q => te σ H fun u H1 => ∃ v, [u] = [v] ∧ ∀ a dx, H1 a = none → H1 dx = none → dx ≠ a → Q (.ref a) (made H1 C f v a dx)

section
variable {X : Cx} {C : Addr} {x f : Str} {B newId initId : String} {bmB : List Value} {e : Expr} {te : TE} {p kp pos : Pos}
theorem sp_made {H : Hp} {v : V} {Q : VK} (q : ∀ a dx, H a = none → H dx = none → dx ≠ a → Q (.ref a) (made H C f v a dx)) (a : Addr) (na : H a = none) :
    spKeep C f [.ref a, v] (upd H a (exo a C none)) (fun u H2 => u = .non ∧ Q (.ref a) H2) E0 := by
  refine ⟨a, v, rfl, upd_same, fun dx nd ne => ⟨rfl, ?_⟩⟩
  rw [made_eq ne]
  rw [upd_ne ne] at nd
  exact q a dx na nd ne
theorem pe_exn (c : Cl1 X.prog X.w X.K X.mg X.base x C f B newId initId bmB) (hr : Room 2 X.A) (hg : Gl X x) (he : PE X e te)
    (hdb : (x == ("__debug__" : Str)) = false := by decide) (hs : starEach [e] X.env = (false, eval e X.env) :: starEach [] X.env := by rfl) :
    PE X (.Call (.Name x p) [e] [] pos) (tExn C f te) := by
  obtain ⟨fI, fd, iC, tI, G, b1, b2⟩ := c.run
  refine ⟨fun pins s σ H Q I h => ?_⟩
  refine wpAny_Call_Name_kw (ld_glob I hg c.m ?_ hdb)
  refine W.callWith_K (h₀ := X.base) I.ok.mod.kin c.T.kp (thn ((pa_cons he pa_nil hs).run pos pins s σ H (fun vs H1 => ∃ v, vs = [v] ∧ ∀ a dx, H1 a = none → H1 dx = none → dx ≠ a → Q (.ref a) (made H1 C f v a dx)) I h) fun us s1 ⟨vs, H1, I1, r, v, ev, q⟩ => ⟨I1.kIn, ?_⟩) hs (by rfl)
  subst ev
  obtain ⟨u, rfl, r1⟩ := vals1 r
  exact run_exn c.T iC tI G hr (fun s a => b1 s _ _) (.cons r1 .nil) (by show 1 ≤ sizeLine; decide) I1 fun a na => sp_made q a na
/-- C(f=e) -/
theorem pe_exnK (c : Cl1 X.prog X.w X.K X.mg X.base x C f B newId initId bmB) (hr : Room 2 X.A) (hg : Gl X x) (he : PE X e te)
    (hdb : (x == ("__debug__" : Str)) = false := by decide) (hall : (backToKw pos (keywordEach [⟨some f, e, kp⟩] X.env)).all (·.1.isSome) = true := by rfl)
    (hks : (backToKw pos (keywordEach [⟨some f, e, kp⟩] X.env)).filterMap (·.1) = [f] := by rfl)
    (hpl : ((backTo pos (starEach [] X.env)).any (·.1) || (backToKw pos (keywordEach [⟨some f, e, kp⟩] X.env)).any (·.1.isNone)) = false := by rfl) :
    PE X (.Call (.Name x p) [] [⟨some f, e, kp⟩] pos) (tExn C f te) := by
  obtain ⟨fI, fd, iC, tI, G, b1, b2⟩ := c.run
  refine ⟨fun pins s σ H Q I h => ?_⟩
  refine wpAny_Call_Name_kw (ld_glob I hg c.m ?_ hdb)
  refine W.callWith_KW0 (h₀ := X.base) I.ok.mod.kin c.T.kp hall ?_ hpl
  refine thn ((pk_cons he pk_nil).run pos pins s σ H (fun vs H1 => ∃ v, vs = [v] ∧ ∀ a dx, H1 a = none → H1 dx = none → dx ≠ a → Q (.ref a) (made H1 C f v a dx)) I h) fun us s1 ⟨vs, H1, I1, r, v, ev, q⟩ => ⟨I1.kIn, ?_⟩
  rw [hks]
  subst ev
  obtain ⟨u, rfl, r1⟩ := vals1 r
  exact run_exn (us := []) c.T iC tI G hr (fun s a => b2 s _ _) (.cons r1 .nil) (Nat.zero_le _) I1 fun a na => sp_made q a na
/-- raise C(f=e): what makes it -/
theorem pmk_exnK (c : Cl1 X.prog X.w X.K X.mg X.base x C f B newId initId bmB) (hr : Room 2 X.A) (hg : Gl X x) (he : PE X e te)
    (hdb : (x == ("__debug__" : Str)) = false := by decide) (hall : (backToKw pos (keywordEach [⟨some f, e, kp⟩] X.env)).all (·.1.isSome) = true := by rfl)
    (hks : (backToKw pos (keywordEach [⟨some f, e, kp⟩] X.env)).filterMap (·.1) = [f] := by rfl)
    (hpl : ((backTo pos (starEach [] X.env)).any (·.1) || (backToKw pos (keywordEach [⟨some f, e, kp⟩] X.env)).any (·.1.isNone)) = false := by rfl) :
    PMk X (.Call (.Name x p) [] [⟨some f, e, kp⟩] pos) (fun σ H Q => te σ H fun u H1 => ∃ v, [u] = [v] ∧ ∀ d, H1 d = none → Q (.ref C) (some d) (upd H1 d (.xd [(f, v)]))) := by
  obtain ⟨fI, fd, iC, tI, G, b1, b2⟩ := c.run
  intro pins s σ H Q I h
  refine wpAny_Call_Name_kw (ld_glob I hg c.m ?_ hdb)
  refine W.callWith_KW0 (h₀ := X.base) I.ok.mod.kin c.T.kp hall ?_ hpl
  refine thn ((pk_cons he pk_nil).run pos pins s σ H (fun vs H1 => ∃ v, vs = [v] ∧ ∀ d, H1 d = none → Q (.ref C) (some d) (upd H1 d (.xd [(f, v)]))) I h) fun us s1 ⟨vs, H1, I1, r, v, ev, q⟩ => ⟨I1.kIn, ?_⟩
  rw [hks]
  subst ev
  obtain ⟨u, rfl, r1⟩ := vals1 r
  obtain ⟨nm, N, qn, bs, bm, hd, sn, sub, ab, col, dd, k0, k1, k2, k3, k5, at_C, tail⟩ := W.excInit_of I1.kIn c.T.made
  obtain ⟨bm0, base⟩ := c.T.base
  obtain ⟨hp, g, dr, tk, os⟩ := s1
  have big : hp.objs.size ≤ hp.objs.size + 1 := Nat.le_succ _
  have na : H1 (hp.objs.size + 1) = none := I1.hok.fresh big
  have kept : ∀ b o, hp.get? b = some o → ((hp.push (W.kdv_tup [])).push (HandSPX.excO C hp.objs.size)).get? b = some o :=
    fun b o e => Heap.get?_push_of_some _ (Heap.get?_push_of_some _ e)
  have here : ((hp.push (W.kdv_tup [])).push (HandSPX.excO C hp.objs.size)).get? (hp.objs.size + 1) = some (HandSPX.excO C hp.objs.size) := by
    heap_get
  have J : Inv X pins σ (upd H1 (hp.objs.size + 1) (exo (hp.objs.size + 1) C none)) ⟨(hp.push (W.kdv_tup [])).push (HandSPX.excO C hp.objs.size), g, dr, tk, os⟩ :=
    I1.laid (t' := tk) kept big (exo_ok here)
  have new : spKeep C f [.ref (hp.objs.size + 1), v] (upd H1 (hp.objs.size + 1) (exo (hp.objs.size + 1) C none))
      (fun y H2 => y = .non ∧ ∃ d, H2 = made H1 C f v (hp.objs.size + 1) d ∧ H1 d = none ∧ d ≠ hp.objs.size + 1) E0 := by
    refine ⟨_, v, rfl, upd_same, fun dx nd ne => ⟨rfl, dx, made_eq ne, ?_, ne⟩⟩
    rw [upd_ne ne] at nd
    exact nd
  have r2 : Vals [V.ref (hp.objs.size + 1), v] [Value.ref (hp.objs.size + 1), u] := .cons rfl (.cons r1 .nil)
  refine wpAny_call (call_kw (us := []) base (c.T.tail.of tail) at_C (Nat.zero_le _) (W.looks_findIn I1.kIn iC) (fun self => W.bind_fn I1.kIn self tI) ?_)
  refine codeAny_mono (G.run _ X.stack _ _ ⟨[Value.ref (hp.objs.size + 1)], [(f, u)]⟩ _ _ _ E0 (hr.make C [] [(f, u)]) (J.env0.make C [] [(f, u)]) (b2 _ _ _) r2 new) fun r s' z => ?_
  match r, z with
  | .error e, z => exact z.elim
  | .ok .next, z => exact z.elim
  | .ok .brk, z => exact z.elim
  | .ok .cont, z => exact z.elim
  | .ok (.ret y), z =>
    obtain ⟨v2, H2, os2, bare2, un2, hok2, rv, ev, d, rfl, nd, ne⟩ := z
    subst ev
    obtain ⟨h2, g2, d2, t2, os'⟩ := s'
    have fin := mk_end (X := X) (Q := Q) (d2 := d2) (t2 := t2) (fs := [(f, v)]) (raises_own c.T.sub c.ty) I1 big kept un2 hok2 os2 bare2 upd_same (by unfold made; rw [upd_ne ne, upd_same]) nd (by
      have eq : upd (del (made H1 C f v (hp.objs.size + 1) d) (hp.objs.size + 1)) d (.xd [(f, v)]) = upd H1 d (.xd [(f, v)]) := by
        funext b
        by_cases hb : b = d
        · rw [hb, upd_same, upd_same]
        · rw [upd_ne hb, upd_ne hb]
          by_cases ha : b = hp.objs.size + 1
          · rw [ha, del_same, na]
          · rw [del_ne ha]
            unfold made
            rw [upd_ne ha, upd_ne hb]
      rw [eq]
      exact q d nd)
    exact ⟨rv, fin⟩
end
end Exn

namespace Exn
open PySem PySem.Spec PyProof.Rows L2

/-- an own exception class whose __init__ takes nothing and does nothing -/
structure Cl0 (P : Program) (w : World) (K : W.Frag) (mg : Str → Option Value) (base : Heap) (x : Str) (C : Addr) (B newId initId : String) (bmB : List Value) : Prop where
  T : Ecl K C B newId initId bmB
  m : mg x = some (.ref C)
  run : ∃ fI fd, W.findIn K (.ref C) "__init__" = some (some (.ref fI)) ∧ W.typeIn K (.ref fI) = some (.type "function") ∧ FnOk P w K mg base CX0 1 fI fd ["self"] (spBare C) ∧
    ∀ (s : Shared) (a : Value), BindsTo s fd ⟨[a], []⟩ [("self", a)]
section
variable {X : Cx} {C : Addr} {x f : Str} {B newId initId : String} {bmB : List Value} {p pos : Pos}
theorem pe_exn0 (c : Cl0 X.prog X.w X.K X.mg X.base x C B newId initId bmB) (hr : Room 2 X.A) (hg : Gl X x) (hdb : (x == ("__debug__" : Str)) = false := by decide) :
    PE X (.Call (.Name x p) [] [] pos) (fun σ H Q => ∀ a, H a = none → Q (.ref a) (upd H a (exo a C none))) := by
  obtain ⟨fI, fd, iC, tI, G, b1⟩ := c.run
  refine ⟨fun pins s σ H Q I h => ?_⟩
  refine wpAny_Call_Name_kw (ld_glob I hg c.m ?_ hdb)
  refine W.callWith_K0 I.kIn c.T.kp (run_exn (us := []) (vs := []) (ws := []) c.T iC tI G hr (fun s a => b1 s _) .nil (Nat.zero_le _) I fun a na => ?_)
  exact ⟨a, rfl, upd_same, rfl, h a na⟩

/-- isinstance(e, c), e the caught exception that a suite holds, with a dict of its own -/
theorem call_isS {a : Addr} {oe : Obj} {cls : Value} {d : Option Addr} {pn : List (Addr × Obj)} {D : Addr} (T : Ecl X.K D B newId initId bmB) (G : ClsGet X.K) (hz : Zc cls d oe) (hf : ∃ vs, oe.data = .fields vs) :
    CallR (X.suite a ((a, oe) :: pn)) (.builtin "isinstance") (fun xs H Q => ∃ (c : V) (u : Value) (b : Bool) (dd : Addr) (fs : List (Str × V)), xs = [.ref a, c] ∧ ClsV c u ∧ cls = .ref D ∧ d = some dd ∧ H dd = some (.xd fs) ∧
      W.kitOne X.K (.ref D) u = some b ∧ Q (.bl b) H) := by
  intro pins s σ H xs us Q I r h
  obtain ⟨c, u, b, dd, fs, rfl, k, rfl, rfl, ed, e, q⟩ := h
  obtain ⟨u1, u2, rfl, r1, r2⟩ := vals2 r
  obtain rfl := k.eq r2
  obtain rfl : u1 = Value.ref a := r1
  obtain ⟨at_a, _⟩ := I.pin (a, oe) (List.mem_append_left _ List.mem_cons_self)
  obtain ⟨vs, hd⟩ := hf
  have ox : ObjOk X.prog X.w H s.heap dd (.xd fs) := I.hok dd _ ed
  obtain ⟨mA, ⟨od, es, ep, ho, _⟩, _⟩ := ox
  have J : W.InstAt s.heap a oe D (some od) := ⟨at_a, hz.1, by unfold W.notCls; rw [hd], by rw [hz.2]; exact ho⟩
  exact W.kia_one (W.kitx_exc (ox := oe) (od := some od) (cls_some T.hd) T.ga T.gt T.sub T.ca G.get G.takes T.mo) I.kIn J e (fun z => nomatch z) fun tk => ⟨.bl b, H, I.kept (t' := tk) fun _ _ z => z, rfl, q⟩
end
end Exn
namespace Keys
open PySem PySem.Spec PyProof.Rows
/-! KeyError, as a base of own classes -/
abbrev keyTail : List Value := [.type "KeyError", .type "LookupError", .type "Exception", .type "BaseException", .type "object"]
theorem store_KeyError : StoreFacts "KeyError" keyTail "object.__setattr__" "object" where
  mro := by kernel_rfl
  slot := by
    refine .of (owner := "object") (n := "__setattr__") ?_ (by decide +kernel) (by decide +kernel) (by decide +kernel) ?_ ?_
    · rw [typeLookup_type, builtinLookup_eq_fast]; kernel_rfl
    · first
        | exact .inl (by decide +kernel)
        | exact .inr (by decide +kernel)
    · rw [isSubtype_type]; kernel_rfl
  entry := F.entry_object_sa
  kind := by decide +kernel
  split := by decide +kernel
  hasOwner := by decide +kernel
  args := fun a b c => by unfold argsOk; kernel_rfl
  passes := fun self => by kernel_rfl
theorem tail_KeyError : Exn.Tail keyTail "LookupError" := ⟨by decide +kernel, by decide +kernel, by decide +kernel⟩
abbrev exTail : List Value := [.type "Exception", .type "BaseException", .type "object"]
theorem tail_Exception : Exn.Tail exTail "Exception" := ⟨by decide +kernel, by decide +kernel, by decide +kernel⟩
end Keys

/-! raise C(v) for an own class whose __init__ keeps one thing, by position -/
namespace Exn
open PySem PySem.Spec PyProof.Rows L2
section
variable {X : Cx} {C : Addr} {x f : Str} {B newId initId : String} {bmB : List Value} {e : Expr} {te : TE} {p kp pos : Pos}
/-- raise C(e): what makes it -/
theorem pmk_exn (c : Cl1 X.prog X.w X.K X.mg X.base x C f B newId initId bmB) (hr : Room 2 X.A) (hg : Gl X x) (he : PE X e te)
    (hdb : (x == ("__debug__" : Str)) = false := by decide) (hs : starEach [e] X.env = (false, eval e X.env) :: starEach [] X.env := by rfl) :
    PMk X (.Call (.Name x p) [e] [] pos) (fun σ H Q => te σ H fun u H1 => ∃ v, [u] = [v] ∧ ∀ d, H1 d = none → Q (.ref C) (some d) (upd H1 d (.xd [(f, v)]))) := by
  obtain ⟨fI, fd, iC, tI, G, b1, b2⟩ := c.run
  intro pins s σ H Q I h
  refine wpAny_Call_Name_kw (ld_glob I hg c.m ?_ hdb)
  refine W.callWith_K (h₀ := X.base) I.ok.mod.kin c.T.kp (thn ((pa_cons he pa_nil hs).run pos pins s σ H (fun vs H1 => ∃ v, vs = [v] ∧ ∀ d, H1 d = none → Q (.ref C) (some d) (upd H1 d (.xd [(f, v)]))) I h) fun us s1 ⟨vs, H1, I1, r, v, ev, q⟩ => ⟨I1.kIn, ?_⟩) hs (by rfl)
  subst ev
  obtain ⟨u, rfl, r1⟩ := vals1 r
  obtain ⟨nm, N, qn, bs, bm, hd, sn, sub, ab, col, dd, k0, k1, k2, k3, k5, at_C, tail⟩ := W.excInit_of I1.kIn c.T.made
  obtain ⟨bm0, base⟩ := c.T.base
  obtain ⟨hp, g, dr, tk, os⟩ := s1
  have big : hp.objs.size ≤ hp.objs.size + 1 := Nat.le_succ _
  have na : H1 (hp.objs.size + 1) = none := I1.hok.fresh big
  have kept : ∀ b o, hp.get? b = some o → ((hp.push (W.kdv_tup [u])).push (HandSPX.excO C hp.objs.size)).get? b = some o :=
    fun b o e => Heap.get?_push_of_some _ (Heap.get?_push_of_some _ e)
  have here : ((hp.push (W.kdv_tup [u])).push (HandSPX.excO C hp.objs.size)).get? (hp.objs.size + 1) = some (HandSPX.excO C hp.objs.size) := by
    heap_get
  have J : Inv X pins σ (upd H1 (hp.objs.size + 1) (exo (hp.objs.size + 1) C none)) ⟨(hp.push (W.kdv_tup [u])).push (HandSPX.excO C hp.objs.size), g, dr, tk, os⟩ :=
    I1.laid (t' := tk) kept big (exo_ok here)
  have new : spKeep C f [.ref (hp.objs.size + 1), v] (upd H1 (hp.objs.size + 1) (exo (hp.objs.size + 1) C none))
      (fun y H2 => y = .non ∧ ∃ d, H2 = made H1 C f v (hp.objs.size + 1) d ∧ H1 d = none ∧ d ≠ hp.objs.size + 1) E0 := by
    refine ⟨_, v, rfl, upd_same, fun dx nd ne => ⟨rfl, dx, made_eq ne, ?_, ne⟩⟩
    rw [upd_ne ne] at nd
    exact nd
  have r2 : Vals [V.ref (hp.objs.size + 1), v] [Value.ref (hp.objs.size + 1), u] := .cons rfl (.cons r1 .nil)
  refine wpAny_call (call_kw (us := [u]) base (c.T.tail.of tail) at_C (by show 1 ≤ sizeLine; decide) (W.looks_findIn I1.kIn iC) (fun self => W.bind_fn I1.kIn self tI) ?_)
  refine codeAny_mono (G.run _ X.stack _ _ ⟨[Value.ref (hp.objs.size + 1), u], []⟩ _ _ _ E0 (hr.make C [u] []) (J.env0.make C [u] []) (b1 _ _ _) r2 new) fun r s' z => ?_
  match r, z with
  | .error e, z => exact z.elim
  | .ok .next, z => exact z.elim
  | .ok .brk, z => exact z.elim
  | .ok .cont, z => exact z.elim
  | .ok (.ret y), z =>
    obtain ⟨v2, H2, os2, bare2, un2, hok2, rv, ev, d, rfl, nd, ne⟩ := z
    subst ev
    obtain ⟨h2, g2, d2, t2, os'⟩ := s'
    have fin := mk_end (X := X) (Q := Q) (d2 := d2) (t2 := t2) (fs := [(f, v)]) (raises_own c.T.sub c.ty) I1 big kept un2 hok2 os2 bare2 upd_same (by unfold made; rw [upd_ne ne, upd_same]) nd (by
      have eq : upd (del (made H1 C f v (hp.objs.size + 1) d) (hp.objs.size + 1)) d (.xd [(f, v)]) = upd H1 d (.xd [(f, v)]) := by
        funext b
        by_cases hb : b = d
        · rw [hb, upd_same, upd_same]
        · rw [upd_ne hb, upd_ne hb]
          by_cases ha : b = hp.objs.size + 1
          · rw [ha, del_same, na]
          · rw [del_ne ha]
            unfold made
            rw [upd_ne ha, upd_ne hb]
      rw [eq]
      exact q d nd)
    exact ⟨rv, fin⟩
end
end Exn

/-! enumerate over a tuple -/
namespace EnuT
open PySem PySem.Spec PyProof.Rows L2

set_option maxHeartbeats 4000000 in
theorem meets_one {v : Value} {o : Obj} {G : Heap → Prop} (B : Begins v o G) :
    Meets (Builtin.«enumerate.__new__» ⟨[.type "enumerate", v], []⟩) (fun _ R s => G s.heap ∧
      R (.ok (.ret (.ref (s.heap.push o).objs.size)))
        { s with heap := (s.heap.push o).push { cls := .type "enumerate", data := .fields #[.none, .bool false, .ref s.heap.objs.size, rawInt 0, .none, .none] } }) :=
  .of_wp fun prog w A R s h => by
    obtain ⟨hp, g, d, tk, os⟩ := s
    obtain ⟨h1, h⟩ := h
    have sub := sub_enumerate
    have iter : ∀ {A' : Around} {E : Value → Shared → Prop} {Q : Value → Shared → Prop}, Q (.ref hp.objs.size) ⟨hp.push o, g, d, tk, os⟩ →
        wpAny (model prog w) A' (pyIter v) Q E ⟨hp, g, d, tk, os⟩ := fun q => B.iter prog w _ _ ⟨hp, g, d, tk, os⟩ _ h1 q
    wp_walk using iter
    refine wpAny_stack_any fun st => wpAny_pure ?_
    split
    · rename_i c _ _ _ _ _
      cases (c == Value.type "enumerate") <;> (wp_walk using iter; exact ⟨_, rfl, h⟩)
    · wp_walk using iter
      exact ⟨_, rfl, h⟩

theorem call_one {prog : Program} {w : World} {A : Around} {E : Value → Shared → Prop} {s : Shared} {v : Value} {o : Obj} {G : Heap → Prop} {Q : Value → Shared → Prop} (B : Begins v o G) (h1 : G s.heap)
    (k : ∀ h', IsEnum h' (s.heap.objs.size + 1) s.heap.objs.size 0 .none → h'.get? s.heap.objs.size = some o →
      (∀ b u, s.heap.get? b = some u → h'.get? b = some u) → Q (.ref (s.heap.objs.size + 1)) { s with heap := h' }) :
    wpAny (model prog w) A (call (.type "enumerate") [v]) Q E s := by
  refine callType_new F.called_enumerate (by decide) (F.typeCall_enumerate_1 _) (F.newCall_enumerate_1 _) (fun obj => F.args_object_init_2 obj _) F.entry_enumerate_new (meets_one B) ⟨h1, ?_⟩
  have sz : (s.heap.push o).objs.size = s.heap.objs.size + 1 := Heap.size_push ..
  show _ ∧ _
  rw [sz]
  have at_e : IsEnum ((s.heap.push o).push { cls := .type "enumerate", data := .fields #[.none, .bool false, .ref s.heap.objs.size, rawInt 0, .none, .none] }) (s.heap.objs.size + 1) s.heap.objs.size 0 .none := by
    have z := Heap.get?_push_size (s.heap.push o) (o := { cls := .type "enumerate", data := .fields #[.none, .bool false, .ref s.heap.objs.size, rawInt 0, .none, .none] }) rfl
    rw [sz] at z
    exact z
  refine ⟨⟨_, at_e, rfl⟩, k _ at_e (Heap.get?_push_of_some _ (Heap.get?_push_size _ B.free)) fun b u e => Heap.get?_push_of_some _ (Heap.get?_push_of_some _ e)⟩

/-- the tuple at a, each item in a new pair -/
def Iet (K : W.Frag) (a : Addr) : It :=
  ⟨fun i H => ∃ (xs : List V) (x : V), SqT K H a xs ∧ xs[i]? = some x,
    fun i H v H' => ∃ T x, v = .ref T ∧ H T = none ∧ H' = upd H T (.tup [.int (i : Nat), x]) ∧ ∀ xs, SqT K H a xs → xs[i]? = some x,
    fun i H => ∃ xs : List V, SqT K H a xs ∧ xs.length = i⟩

theorem turn_et {P : Program} {w : World} {K : W.Frag} {elts : List Expr} {kk : Nat} {tpos : Pos} (a e it : Addr) :
    Turn P w K (.Tuple elts kk tpos) (Iet K a) [e, it] e (fun i h => (∃ old, IsEnum h e it ((i : Nat) : Int) old) ∧ h.IsTupleIter it a i ∧ e ≠ it) where
  mem := List.mem_cons_self ..
  obj := fun i h st b hb => by
    obtain ⟨⟨old, he⟩, ⟨o, ho, hc, hd⟩, _⟩ := st
    have hb2 : b = e ∨ b = it := by simpa using hb
    rcases hb2 with rfl | rfl
    · exact ⟨_, he, fun v q => nomatch q⟩
    · exact ⟨o, ho, fun v q => by rw [hd] at q; cases q⟩
  keep := fun i h h' st k => by
    obtain ⟨⟨old, he⟩, hi, ne⟩ := st
    exact ⟨⟨old, k e (List.mem_cons_self ..) _ he⟩, hi.at fun o q => k it (by simp) o q, ne⟩
  item := by
    intro X hP hw hK hc i pins s σ H E I hf st hg
    subst hP hw hK
    obtain ⟨⟨old, he⟩, hit, ne⟩ := st
    obtain ⟨xs, x, hq, hx⟩ := hg
    obtain ⟨its, rv, p, hz⟩ := I.tuple hq
    obtain ⟨u, hu, ru⟩ := rv.get hx
    have tup : s.heap.IsTuple a its.toArray := p
    have ea : e ≠ a := fun z => by
      obtain ⟨o, ho, hc, _⟩ := p
      rw [← z] at ho
      have he' : s.heap.get? e = some _ := he
      rw [ho] at he'
      cases he'
      exact absurd (Value.type.inj hc) (by decide)
    have ia : a ≠ it := fun z => by
      obtain ⟨o, ho, hc, _⟩ := p
      obtain ⟨o', ho', hc', _⟩ := hit
      rw [z, ho'] at ho
      cases ho
      rw [hc'] at hc
      exact absurd (Value.type.inj hc) (by decide)
    have le : e < s.heap.objs.size := Heap.lt_size he
    have li : it < s.heap.objs.size := by
      obtain ⟨_, q, _⟩ := hit
      exact Heap.lt_size q
    have lt : i < its.toArray.size := by
      have := (List.getElem?_eq_some_iff.mp hu).1
      simpa using this
    refine wpAny_pyNext_enum_itemD (Draws.tuple (A := X.A.in1) (I.ok.hd hc) it a ia its.toArray) he ⟨hit, tup⟩ lt ne (by simp [ne, ea]) fun y h' tk hy ho st' hT hsz hk => ?_
    have eu : y = u := by
      have z : its.toArray[i]? = some y := hy
      rw [List.getElem?_toArray, hu] at z
      exact (Option.some.inj z).symm
    subst eu
    refine ⟨_, rfl, wpAny_letOwnedTupleGo_enum (s := { s with heap := h', toks := tk + 1 }) ho fun h'' he' sb => ?_⟩
    have at_T : h''.get? s.heap.objs.size = some { cls := .type "tuple", data := .seq #[.int i tk, y] } := (sb.2 _ (Nat.ne_of_gt le)).trans hT
    have new : ObjOk X.prog X.w (upd H s.heap.objs.size (.tup [.int (i : Nat), x])) h'' s.heap.objs.size (.tup [.int (i : Nat), x]) :=
      ⟨by show 2 ≤ sizeLine; decide, [.int i tk, y], .cons ⟨_, rfl⟩ (.cons ru .nil), ⟨_, at_T, rfl, _, rfl⟩⟩
    have J : Inv X pins σ (upd H s.heap.objs.size (.tup [.int (i : Nat), x])) { s with heap := h'', toks := tk + 1 } := by
      refine I.turnedNew (ch := [e, it]) (fun b ob hb q => ?_) hf (Nat.le_refl _) new
      have b1 : b ≠ e := fun z => hb (by simp [z])
      have b2 : b ≠ it := fun z => hb (by simp [z])
      exact (sb.2 b b1).trans (hk b ob b1 b2 q)
    refine ⟨.ref s.heap.objs.size, _, J, rfl, ⟨_, x, rfl, I.hok.fresh (Nat.le_refl _), rfl, fun ys hy => ?_⟩, ⟨⟨y, ?_⟩, st'.1.at fun o q => (sb.2 it (Ne.symm ne)).trans q, ne⟩, fun b hb => ?_⟩
    · rw [I.tuple_inj hy hq]
      exact hx
    · have e1 : ((i + 1 : Nat) : Int) = (i : Int) + 1 := by omega
      rw [e1]
      exact he'
    · have lb : b < s.heap.objs.size := by
        have hb2 : b = e ∨ b = it := by simpa using hb
        rcases hb2 with rfl | rfl
        · exact le
        · exact li
      rw [upd_ne (Nat.ne_of_lt lb)]
      exact (hf b hb).1
  done := by
    intro X hP hw hK hc i pins s σ H E I hf st hg
    subst hP hw hK
    obtain ⟨⟨old, he⟩, hit, ne⟩ := st
    obtain ⟨xs, hq, hx⟩ := hg
    obtain ⟨its, rv, p, hz⟩ := I.tuple hq
    have tup : s.heap.IsTuple a its.toArray := p
    have ia : a ≠ it := fun z => by
      obtain ⟨o, ho, hc, _⟩ := p
      obtain ⟨o', ho', hc', _⟩ := hit
      rw [z, ho'] at ho
      cases ho
      rw [hc'] at hc
      exact absurd (Value.type.inj hc) (by decide)
    obtain ⟨f0, f1, f2, f3, f4, f5⟩ := hf it (by simp)
    have sz : i = its.toArray.size := by
      have := rv.length
      simp
      omega
    subst sz
    refine wpAny_pyNext_enum_endD (Draws.tuple (A := X.A.in1) (I.ok.hd hc) it a ia its.toArray) he ⟨hit, tup⟩ fun h' eb => ⟨rfl, I.turned (t' := s.toks) (fun b o hb q => eb b o hb q) f0 f1 f3 f4 f5⟩
  self := fun A i s Q E st h => by
    obtain ⟨⟨_, he⟩, _⟩ := st
    exact wpAny_pyIter_enum he h

/-- enumerate over a list or over a tuple -/
def iEnS (K : W.Frag) (ta : TA) : TI := fun σ H R => ta σ H fun vs H1 => ∃ a, vs = [V.ref a] ∧ ((∃ xs, SqL K H1 a xs ∧ R (Ite K a) H1) ∨ (∃ xs, SqT K H1 a xs ∧ R (Iet K a) H1))
theorem pi_enumS {X : Cx} {e : Expr} {ta : TA} {p pos tpos : Pos} {elts : List Expr} {kk : Nat} (hg : Gl X "enumerate") (hm : X.mg "enumerate" = none) (ha : PA X [e] ta) (hs : starEach [e] X.env = [(false, eval e X.env)] := by rfl) :
    PI X (.Tuple elts kk tpos) (.Call (.Name "enumerate" p) [e] [] pos) (iEnS X.K ta) where
  run := fun pins s σ H R I h =>
    Call_ (ld_blt I hg hm boot_enumerate (PyProof.Rows.callWith_type1 (thn (ha.run pos pins s σ H _ I h) fun us s1 x => by
      obtain ⟨vs, H1, I1, r1, a, rfl, q⟩ := x
      obtain ⟨u, rfl, ra⟩ := vals1 r1
      cases ra
      rcases q with ⟨xs, hq, q⟩ | ⟨xs, hq, q⟩
      · obtain ⟨its, rv, p', hz⟩ := I1.list hq
        refine call_enumerate_list (PlainL.isList p') fun h' he hit hsz hk => ?_
        have I2 := I1.kept (t' := s1.toks) hk
        refine wpAny_pyIter_enum he ⟨_, [s1.heap.objs.size + 1, s1.heap.objs.size], _, Ite X.K a, H1, rfl, I2, turn_enum a _ _, ?_, ?_, q⟩
        · exact ⟨⟨_, he⟩, hit, Nat.succ_ne_self _⟩
        · intro b hb
          have le : s1.heap.objs.size ≤ b := by
           rcases (by simpa using hb : b = s1.heap.objs.size + 1 ∨ b = s1.heap.objs.size) with rfl | rfl <;> omega
          exact I1.fpOk le (I1.hok.fresh le)
      · obtain ⟨its, rv, p', hz⟩ := I1.tuple hq
        have tup : s1.heap.IsTuple a its.toArray := p'
        refine call_one (begins_tuple a its.toArray) tup fun h' he hit hk => ?_
        have I2 := I1.kept (t' := s1.toks) hk
        refine wpAny_pyIter_enum he ⟨_, [s1.heap.objs.size + 1, s1.heap.objs.size], _, Iet X.K a, H1, rfl, I2, turn_et a _ _, ?_, ?_, q⟩
        · exact ⟨⟨_, he⟩, ⟨_, hit, rfl, rfl⟩, Nat.succ_ne_self _⟩
        · intro b hb
          have le : s1.heap.objs.size ≤ b := by
           rcases (by simpa using hb : b = s1.heap.objs.size + 1 ∨ b = s1.heap.objs.size) with rfl | rfl <;> omega
          exact I1.fpOk le (I1.hok.fresh le)) hs rfl) (by decide) (by decide)) rfl
theorem walk_enumT {K : W.Frag} {a : Addr} {xs : List V} : Walk (Iet K a) xs.length (fun H => SqT K H a xs) (YPair (fun i => some (.int (i : Nat))) (fun i => xs[i]?)) where
  goes := fun i H hi hq => ⟨xs, xs[i], hq, by simp [hi]⟩
  stops := fun H hq => ⟨xs, hq, rfl⟩
  yields := fun i H v H' hi hq h => by
    obtain ⟨T, x, rfl, hT, rfl, hx⟩ := h
    exact ⟨T, _, x, rfl, hT, rfl, rfl, hx xs hq⟩

/-- a dict comprehension over what walks -/
theorem dc_it {J : It} {n : Nat} {G : Hp → Prop} {Y : Nat → Hp → V → Hp → Prop} (w : Walk J n G Y) {g : TG} {tt : TT} {tk tv : TE} {vs : List Nat} {σ : L2.St} {H1 : Hp} {D : Addr} {Qd : Hp → Prop} (Pv : Nat → Hp → Prop)
    (h0 : Pv 0 (upd H1 D (.dK []))) (hl : ∀ i H, i ≤ n → Pv i H → G H)
    (hs : ∀ (i : Nat) (x : V) (H H' : Hp), i < n → Pv i H → Y i H x H' → g x (wipe σ vs) H' fun σ2 H2 => wipe σ2 vs = wipe σ vs ∧ tt σ2 H2 fun b H3 => if b = true then tk σ2 H3 fun y H4 => tv σ2 H4 fun z H5 =>
      ∃ kvs k, y = kV k ∧ H5 D = some (.dK kvs) ∧ kvs.length < sizeLine ∧ Pv (i + 1) (upd H5 D (.dK (putK kvs k z))) else Pv (i + 1) H3)
    (hd : ∀ H, Pv n H → Qd H) :
    ∃ W : Nat → Nat → Hp → Prop, (∃ m, W 0 m (upd H1 D (.dK []))) ∧ ∀ i m H, W i m H → (J.stop i H ∧ Qd H) ∨ (J.go i H ∧ ∃ Nx : Hp → Prop, (∀ H', Nx H' → ∃ m', m' < m ∧ W (i + 1) m' H') ∧
      ∀ x H', J.yld i H x H' → g x (wipe σ vs) H' fun σ2 H2 => wipe σ2 vs = wipe σ vs ∧ tt σ2 H2 fun b H3 => if b = true then tk σ2 H3 fun y H4 => tv σ2 H4 fun z H5 =>
        ∃ kvs k, y = kV k ∧ H5 D = some (.dK kvs) ∧ kvs.length < sizeLine ∧ Nx (upd H5 D (.dK (putK kvs k z))) else Nx H3) := by
  refine ⟨fun i m H => i ≤ n ∧ m = n - i ∧ Pv i H, ⟨n, Nat.zero_le _, rfl, h0⟩, ?_⟩
  rintro i m H ⟨hi, rfl, hp⟩
  by_cases h : i < n
  · refine .inr ⟨w.goes i H h (hl i H hi hp), Pv (i + 1), fun H' q => ⟨n - (i + 1), by omega, by omega, rfl, q⟩, fun x H' hy => ?_⟩
    exact hs i x H H' h hp (w.yields i H x H' h (hl i H hi hp) hy)
  · obtain rfl : i = n := by omega
    exact .inl ⟨w.stops H (hl _ H hi hp), hd H hp⟩

/-! ### tuple * 0 and tuple * 1 -/
end EnuT

/-! a def called by keywords alone -/
namespace EnuT
open PySem PySem.Spec PyProof.Rows L2
theorem pe_callK0 {X : Cx} {CX : CXT} {k : Nat} {f : Addr} {fd : FuncData} {ps ks : List Str} {sp : Sp} {E : XK} {x : Str} {p pos : Pos} {kws : List Keyword} {tk : TA} {g : List Value → List Value → List Value} {gV : List V → List V → List V}
    (F : FnOk X.prog X.w X.K X.mg X.base CX k f fd ps sp) (hr : Room k X.A) (hg : Gl X x) (hm : X.mg x = some (.ref f)) (kp : W.keepIn X.K (.ref f) = true) (hb : KBinds X.K fd ps ks g gV) (hx : Passes CX X E) (hk : PK X kws tk)
    (hall : (backToKw pos (keywordEach kws X.env)).all (·.1.isSome) = true := by rfl) (hks : (backToKw pos (keywordEach kws X.env)).filterMap (·.1) = ks := by rfl) (hdb : (x == ("__debug__" : Str)) = false := by decide)
    (hpl : ((backTo pos (starEach [] X.env)).any (·.1) || (backToKw pos (keywordEach kws X.env)).any (·.1.isNone)) = false := by rfl) :
    PE X (.Call (.Name x p) [] kws pos) (tCallK sp gV E tNil tk) := by
  refine ⟨fun pins s σ H Q I h => ?_⟩
  refine wpAny_Call_Name_kw (ld_glob I hg hm ?_ hdb)
  refine W.callWith_KW0 (h₀ := X.base) I.ok.mod.kin kp hall ?_ hpl
  refine thn (hk.run pos pins s σ H (fun zs H2 => sp (gV [] zs) H2 Q E) I h) fun ws s1 ⟨zs, H1, I1, r, q⟩ => ⟨I1.kIn, ?_⟩
  rw [hks]
  exact run_fnk F hr hb hx I1 .nil r q
end EnuT

/-! tuple * 0 and tuple * 1 -/
namespace EnuT
open PySem PySem.Spec PyProof.Rows L2
theorem mul_zero (l : Addr) (items : Array Value) (n : Nat) (dd : Option Addr) (sl : Array (Option Value)) (u : Tok) (ne : items.isEmpty = false) :
    Meets (Builtin.«tuple.__mul__» ⟨[.ref l, .int 0 u], []⟩) (fun _ R s => s.heap.get? l = some { cls := .type "tuple", dict := dd, data := .seq items n, slots := sl } ∧
      R (.ok (.ret (.ref s.heap.objs.size))) { s with heap := s.heap.push { cls := .type "tuple", data := .seq #[] } }) :=
  .of_wp fun prog w A R s h => by
    obtain ⟨hp, g, d, tk, os⟩ := s
    obtain ⟨h1, h⟩ := h
    have e1 : (items.isEmpty || (0 : Int) == 1) = false := by rw [ne]; rfl
    wp_walk using e1
    exact ⟨_, rfl, h⟩
theorem mul_one (l : Addr) (items : Array Value) (n : Nat) (dd : Option Addr) (sl : Array (Option Value)) (u : Tok) (ne : items.isEmpty = false) :
    Meets (Builtin.«tuple.__mul__» ⟨[.ref l, .int 1 u], []⟩) (fun _ R s => s.heap.get? l = some { cls := .type "tuple", dict := dd, data := .seq items n, slots := sl } ∧
      R (.ok (.ret (.ref l))) s) :=
  .of_wp fun prog w A R s h => by
    obtain ⟨hp, g, d, tk, os⟩ := s
    obtain ⟨h1, h⟩ := h
    have e1 : (items.isEmpty || (1 : Int) == 1) = true := by rw [ne]; rfl
    wp_walk using e1
    exact ⟨_, rfl, h⟩
def TupA (H : Hp) (v : V) (xs : List V) : Prop := ∃ a, v = .ref a ∧ H a = some (.tup xs)
/-- tuple * k, from k = 0 on -/
def rRepA : R2 := fun x y H Q => ∃ l k xs, x = .ref l ∧ y = .int k ∧ H l = some (.tup xs) ∧ xs ≠ [] ∧ 0 ≤ k ∧ k ≤ 1000 ∧ xs.length ≤ 1000 ∧
  ∀ v H', Same H H' → TupA H' v (List.replicate k.toNat xs).flatten → Q v H'
theorem same_new {H : Hp} {l : Addr} {o : HO} (n : H l = none) : Same H (upd H l o) := fun b u e => by
  rw [upd_ne (ne_of_none e n)]
  exact e
theorem rep_small {X : Cx} {pins : List (Addr × Obj)} {σ : L2.St} {H : Hp} {s : Shared} {l : Addr} {xs : List V} {Q : VK} {t : Tok} {k : Int} (I : L2.Inv X pins σ H s) (hT : H l = some (.tup xs)) (hne : xs ≠ []) (hk : k = 0 ∨ k = 1)
    (q : ∀ v H', Same H H' → TupA H' v (List.replicate k.toNat xs).flatten → Q v H') : wpAny (model X.prog X.w) X.A (binaryOp .Mult (.ref l) (.int k t)) (EP X pins σ Q) X.xe s := by
  obtain ⟨its, r, ⟨⟨cls, dd, data, sl⟩, ho, hc, n, hd⟩, hz⟩ := I.tuple (SqT.of hT)
  simp only at hc hd
  subst hc hd
  have ty : s.TypeIs (.ref l) "tuple" := ⟨_, ho, rfl⟩
  have emp : its.toArray.isEmpty = false := by
    cases its with
    | nil => cases r; exact (hne rfl).elim
    | cons _ _ => rfl
  refine wpAny_binaryOp_repeat_ref (T := "tuple") (U := "int") (by decide) ty (fun s' => typeIs_int s' _ _) noFill_tuple_mul PySem.F.fills_int_mul PySem.F.slot_int_rmul repeat_tuple PySem.F.slot_int_index.lookup ?_
  refine call_meets PySem.F.slot_int_rmul (typeIs_int _ _ _) PySem.F.entry_int_rmul (PySem.F.args_int_rmul_2 _ _) (int_rmul_tuple k t l its.toArray n dd sl) ⟨ho, ?_⟩
  refine ⟨rfl, ty, ?_⟩
  rcases hk with rfl | rfl
  · refine call_meets PySem.F.slot_tuple_mul ty PySem.F.entry_tuple_mul (PySem.F.args_tuple_mul_2 _ _) (mul_zero l its.toArray n dd sl t emp) ⟨ho, ?_⟩
    have new : ObjOk X.prog X.w (upd H s.heap.objs.size (.tup [])) (s.heap.push { cls := .type "tuple", data := .seq #[] }) s.heap.objs.size (.tup []) := ⟨by show 0 ≤ sizeLine; decide, [], .nil, IsTup.new _ _⟩
    refine ⟨.ref s.heap.objs.size, _, I.laid (fun b u e => Heap.get?_push_of_some _ e) (Nat.le_refl _) new, rfl, q _ _ (same_new (I.hok.fresh (Nat.le_refl _))) ⟨_, rfl, upd_same⟩⟩
  · refine call_meets PySem.F.slot_tuple_mul ty PySem.F.entry_tuple_mul (PySem.F.args_tuple_mul_2 _ _) (mul_one l its.toArray n dd sl t emp) ⟨ho, ?_⟩
    refine ⟨.ref l, H, I, rfl, q _ _ (Same.refl _) ⟨l, rfl, ?_⟩⟩
    rw [hT]
    simp
theorem op_repA {X : Cx} : OpR X (binaryOp .Mult) rRepA := by
  intro pins s σ H x y v u Q I rx ry h
  obtain ⟨l, k, xs, rfl, rfl, hT, hne, k0, k1, lx, q⟩ := h
  obtain rfl : v = Value.ref l := rx
  obtain ⟨t, rfl⟩ := ry
  rcases (by omega : k = 0 ∨ k = 1 ∨ 2 ≤ k) with z | z | z
  · exact rep_small I hT hne (.inl z) q
  · exact rep_small I hT hne (.inr z) q
  · exact op_repT pins s σ H (.ref l) (.int k) _ _ Q I rfl ⟨t, rfl⟩ ⟨l, k, xs, rfl, rfl, SqT.of hT, hne, z, k1, lx, fun p hp => q _ _ (same_new hp) ⟨p, rfl, upd_same⟩⟩
end EnuT

/-! enumerate over a text -/
namespace EnuT
open PySem PySem.Spec PyProof.Rows L2
/-- the text z sign by sign, each in a new pair -/
def Ies (z : Str) : It :=
  ⟨fun i _ => i < z.cps.size, fun i H v H' => ∃ T c, v = .ref T ∧ H T = none ∧ H' = upd H T (.tup [.int (i : Nat), .str ⟨#[c]⟩]) ∧ z.cps[i]? = some c, fun i _ => z.cps.size ≤ i⟩
theorem turn_es {P : Program} {w : World} {K : W.Frag} {elts : List Expr} {kk : Nat} {tpos : Pos} (z : Str) (t : Tok) (e it : Addr) :
    Turn P w K (.Tuple elts kk tpos) (Ies z) [e, it] e (fun i h => i ≤ z.cps.size ∧ (∃ old, IsEnum h e it ((i : Nat) : Int) old) ∧ h.IsStrIter it (strIterType z) z t i ∧ e ≠ it) where
  mem := List.mem_cons_self ..
  obj := fun i h st b hb => by
    obtain ⟨_, ⟨old, he⟩, ⟨o, ho, hc, hd⟩, _⟩ := st
    have hb2 : b = e ∨ b = it := by simpa using hb
    rcases hb2 with rfl | rfl
    · exact ⟨_, he, fun v q => nomatch q⟩
    · exact ⟨o, ho, fun v q => by rw [hd] at q; cases q⟩
  keep := fun i h h' st k => by
    obtain ⟨le, ⟨old, he⟩, ⟨o, ho, r⟩, ne⟩ := st
    exact ⟨le, ⟨old, k e (List.mem_cons_self ..) _ he⟩, ⟨o, k it (by simp) _ ho, r⟩, ne⟩
  item := by
    intro X hP hw hK hc i pins s σ H E I hf st hg
    subst hP hw hK
    obtain ⟨_, ⟨old, he⟩, hit, ne⟩ := st
    have lt : i < z.cps.size := hg
    have le : e < s.heap.objs.size := Heap.lt_size he
    have li : it < s.heap.objs.size := by
      obtain ⟨_, q, _⟩ := hit
      exact Heap.lt_size q
    refine wpAny_pyNext_enum_itemD (Draws.text (A := X.A.in1) (I.ok.hd hc) it z t) he hit lt ne (by simp [ne]) fun y h' tk hy ho st' hT hsz hk => ?_
    obtain ⟨c, u, hcx, rfl⟩ := hy
    refine ⟨_, rfl, wpAny_letOwnedTupleGo_enum (s := { s with heap := h', toks := tk + 1 }) ho fun h'' he' sb => ?_⟩
    have at_T : h''.get? s.heap.objs.size = some { cls := .type "tuple", data := .seq #[.int i tk, .str ⟨#[c]⟩ u] } := (sb.2 _ (Nat.ne_of_gt le)).trans hT
    have new : ObjOk X.prog X.w (upd H s.heap.objs.size (.tup [.int (i : Nat), .str ⟨#[c]⟩])) h'' s.heap.objs.size (.tup [.int (i : Nat), .str ⟨#[c]⟩]) :=
      ⟨by show 2 ≤ sizeLine; decide, [.int i tk, .str ⟨#[c]⟩ u], .cons ⟨_, rfl⟩ (.cons ⟨_, rfl⟩ .nil), ⟨_, at_T, rfl, _, rfl⟩⟩
    have J : Inv X pins σ (upd H s.heap.objs.size (.tup [.int (i : Nat), .str ⟨#[c]⟩])) { s with heap := h'', toks := tk + 1 } := by
      refine I.turnedNew (ch := [e, it]) (fun b ob hb q => ?_) hf (Nat.le_refl _) new
      have b1 : b ≠ e := fun z => hb (by simp [z])
      have b2 : b ≠ it := fun z => hb (by simp [z])
      exact (sb.2 b b1).trans (hk b ob b1 b2 q)
    refine ⟨.ref s.heap.objs.size, _, J, rfl, ⟨_, c, rfl, I.hok.fresh (Nat.le_refl _), rfl, hcx⟩, ⟨lt, ⟨.str ⟨#[c]⟩ u, ?_⟩, ?_, ne⟩, fun b hb => ?_⟩
    · have e1 : ((i + 1 : Nat) : Int) = (i : Int) + 1 := by omega
      rw [e1]
      exact he'
    · obtain ⟨o, ho', r⟩ := st'
      exact ⟨o, (sb.2 it (Ne.symm ne)).trans ho', r⟩
    · have lb : b < s.heap.objs.size := by
        have hb2 : b = e ∨ b = it := by simpa using hb
        rcases hb2 with rfl | rfl
        · exact le
        · exact li
      rw [upd_ne (Nat.ne_of_lt lb)]
      exact (hf b hb).1
  done := by
    intro X hP hw hK hc i pins s σ H E I hf st hg
    subst hP hw hK
    obtain ⟨ub, ⟨old, he⟩, hit, ne⟩ := st
    obtain ⟨f0, f1, f2, f3, f4, f5⟩ := hf it (by simp)
    have sz : i = z.cps.size := Nat.le_antisymm ub hg
    subst sz
    refine wpAny_pyNext_enum_endD (Draws.text (A := X.A.in1) (I.ok.hd hc) it z t) he hit fun h' eb => ⟨rfl, I.turned (t' := s.toks) (fun b o hb q => eb b o hb q) f0 f1 f3 f4 f5⟩
  self := fun A i s Q E st h => by
    obtain ⟨_, ⟨_, he⟩, _⟩ := st
    exact wpAny_pyIter_enum he h
def iEnStr (ta : TA) : TI := fun σ H R => ta σ H fun vs H1 => ∃ z, vs = [V.str z] ∧ R (Ies z) H1
theorem pi_enumStr {X : Cx} {e : Expr} {ta : TA} {p pos tpos : Pos} {elts : List Expr} {kk : Nat} (hg : Gl X "enumerate") (hm : X.mg "enumerate" = none) (ha : PA X [e] ta) (hs : starEach [e] X.env = [(false, eval e X.env)] := by rfl) :
    PI X (.Tuple elts kk tpos) (.Call (.Name "enumerate" p) [e] [] pos) (iEnStr ta) where
  run := fun pins s σ H R I h =>
    Call_ (ld_blt I hg hm boot_enumerate (PyProof.Rows.callWith_type1 (thn (ha.run pos pins s σ H _ I h) fun us s1 x => by
      obtain ⟨vs, H1, I1, r1, z, rfl, q⟩ := x
      obtain ⟨u, rfl, t, rfl⟩ := vals1 r1
      refine call_one (begins_text z t) trivial fun h' he hit hk => ?_
      have I2 := I1.kept (t' := s1.toks) hk
      refine wpAny_pyIter_enum he ⟨_, [s1.heap.objs.size + 1, s1.heap.objs.size], _, Ies z, H1, rfl, I2, turn_es z t _ _, ?_, ?_, q⟩
      · exact ⟨Nat.zero_le _, ⟨_, he⟩, ⟨_, hit, rfl, rfl⟩, Nat.succ_ne_self _⟩
      · intro b hb
        have le : s1.heap.objs.size ≤ b := by
          rcases (by simpa using hb : b = s1.heap.objs.size + 1 ∨ b = s1.heap.objs.size) with rfl | rfl <;> omega
        exact I1.fpOk le (I1.hok.fresh le)) hs rfl) (by decide) (by decide)) rfl
theorem walk_enumStr {z : Str} : Walk (Ies z) z.cps.size (fun _ => True) (YPair (fun i => some (.int (i : Nat))) (fun i => (z.cps[i]?).map fun c => .str ⟨#[c]⟩)) where
  goes := fun i H hi _ => hi
  stops := fun H _ => Nat.le_refl _
  yields := fun i H v H' hi _ h => by
    obtain ⟨T, c, rfl, hT, rfl, hc⟩ := h
    exact ⟨T, _, .str ⟨#[c]⟩, rfl, hT, rfl, rfl, by simp [hc]⟩
end EnuT

/-! a static method, called on its class -/
namespace Stc
open PySem PySem.Spec PyProof.Rows L2
/-- C.m is a staticmethod: its record at p, its def at g -/
structure SMet (K : PySem.W.Frag) (C : Addr) (mc : Value) (m : Str) (p g : Addr) : Prop where
  at_ : PySem.W.findCls K (.ref C) mc m = some (.get (.builtin "staticmethod.__get__") (.ref p) .none (.ref C))
  rc : ∃ rest, PySem.W.recIn K p "staticmethod" = some (.ref g :: rest)
  kp : PySem.W.keepIn K (.ref g) = true
section
variable {X : Cx} {pins : List (Addr × Obj)} {σ : L2.St} {H : Hp} {s : Shared} {C p g : Addr} {mc : Value} {m : Str} {A : Around} {E : Value → Shared → Prop}
theorem getmethsm_ok {pl : Sem Bool} {Q : Value × List Value → Shared → Prop} (I : Inv X pins σ H s) (r : ClX.CRead X.K C mc) (k : SMet X.K C mc m p g)
    (h : ∀ s', Inv X pins σ H s' → Q (.ref g, []) s') : wpAny (model X.prog X.w) A (getMethod (.ref C) m pl) Q E s := by
  obtain ⟨rest, hp⟩ := k.rc
  refine PySem.W.method_cls I.kIn r.ga (PySem.W.cls_bind I.kIn r.rd k.at_ ?_)
  refine wpAny_call (PySem.W.sm_get (s := { s with toks := s.toks + 1 }) I.kIn hp (PySem.W.handed_on rfl ?_))
  exact h _ (I.tok _)
end
/-- C.m(..), m a static method -/
def tSMeth (C : Addr) (sp : Sp) (E : XK) (ta : TE) (t : TA) : TE := fun σ H Q => ta σ H fun x H1 => x = .ref C ∧ t σ H1 fun vs H2 => sp vs H2 Q E
def tSMethK (C : Addr) (sp : Sp) (gV : List V → List V → List V) (E : XK) (ta : TE) (t : TA) : TE := fun σ H Q => ta σ H fun x H1 => x = .ref C ∧ t σ H1 fun zs H2 => sp (gV [] zs) H2 Q E
section
variable {X : Cx} {CX : CXT} {k : Nat} {C p g : Addr} {mc : Value} {sp : Sp} {E : XK} {o e : Expr} {es : List Expr} {m : Str} {pos apos : Pos} {ta : TE} {t : TA} {pl : Sem Bool} {fd : FuncData} {ps ks : List Str}
theorem pe_smeth (he : PE X o ta) (r : ClX.CRead X.K C mc) (c : SMet X.K C mc m p g) (F : FnOk X.prog X.w X.K X.mg X.base CX k g fd ps sp) (hr : Room k X.A) (hb : Binds X.K fd ps []) (hx : Passes CX X E) (ha : PA X (e :: es) t)
    (hst : starEach (e :: es) X.env = (false, eval e X.env) :: starEach es X.env := by rfl) (hpl : (backTo pos (starEach es X.env)).any (·.1) = false := by rfl)
    (ht : eval (.Call (.Attribute o m apos) (e :: es) [] pos) X.env = (do
      let ov ← eval o X.env
      standAt apos.atName
      let (f, first) ← holding [ov] (getMethod ov m pl)
      callWith pos f first (backTo pos (starEach (e :: es) X.env)) (backToKw pos (keywordEach [] X.env))) := by rfl) :
    PE X (.Call (.Attribute o m apos) (e :: es) [] pos) (tSMeth C sp E ta t) := by
  refine ⟨fun pins s σ H Q I h => ?_⟩
  refine PySem.W.methodCall_KW (pl := pl) (thn (he.run pins s σ H _ I h) fun u s1 ⟨x, H1, I1, rx, ex, q⟩ => ?_) ht
  subst ex
  obtain rfl : u = Value.ref C := rx
  refine getmethsm_ok I1 r c fun s2 I2 => ?_
  refine PySem.W.callWith_K (h₀ := X.base) I.ok.mod.kin c.kp (thn (ha.run pos pins s2 σ H1 _ I2 q) fun us s3 ⟨vs, H2, I3, rv, q2⟩ => ⟨I3.kIn, ?_⟩) hst hpl
  exact run_fn F hr hb .nil hx I3 rv (by rw [List.append_nil]; exact q2)
theorem pe_smethK {g' : List Value → List Value → List Value} {gV : List V → List V → List V} {kws : List Keyword} (he : PE X o ta) (r : ClX.CRead X.K C mc) (c : SMet X.K C mc m p g) (F : FnOk X.prog X.w X.K X.mg X.base CX k g fd ps sp) (hr : Room k X.A) (hb : KBinds X.K fd ps ks g' gV) (hx : Passes CX X E) (hk : PK X kws t)
    (hall : (backToKw pos (keywordEach kws X.env)).all (·.1.isSome) = true := by rfl) (hks : (backToKw pos (keywordEach kws X.env)).filterMap (·.1) = ks := by rfl)
    (hpl : ((backTo pos (starEach [] X.env)).any (·.1) || (backToKw pos (keywordEach kws X.env)).any (·.1.isNone)) = false := by rfl)
    (ht : eval (.Call (.Attribute o m apos) [] kws pos) X.env = (do
      let ov ← eval o X.env
      standAt apos.atName
      let (f, first) ← holding [ov] (getMethod ov m pl)
      callWith pos f first (backTo pos (starEach [] X.env)) (backToKw pos (keywordEach kws X.env))) := by rfl) :
    PE X (.Call (.Attribute o m apos) [] kws pos) (tSMethK C sp gV E ta t) := by
  refine ⟨fun pins s σ H Q I h => ?_⟩
  refine PySem.W.methodCall_KW (pl := pl) (thn (he.run pins s σ H _ I h) fun u s1 ⟨x, H1, I1, rx, ex, q⟩ => ?_) ht
  subst ex
  obtain rfl : u = Value.ref C := rx
  refine getmethsm_ok I1 r c fun s2 I2 => ?_
  refine PySem.W.callWith_KW0 (h₀ := X.base) I.ok.mod.kin c.kp hall ?_ hpl
  refine thn (hk.run pos pins s2 σ H1 (fun zs H2 => sp (gV [] zs) H2 Q E) I2 q) fun ws s3 ⟨zs, H2, I3, rz, q2⟩ => ⟨I3.kIn, ?_⟩
  rw [hks]
  exact run_fnk F hr hb hx I3 .nil rz q2
end
end Stc

/-! try .. except A as e: .. except (B, C) as e: ..; several clauses, each of a class or of two -/
namespace Trt
open PySem PySem.Spec PyProof.Rows L2
theorem flying_kept {base h h' : Heap} {l : List Env} {e : Addr} {Z : Obj → Prop} (x : HandSPX.FlyingZ base l e Z h) (k : ∀ b o, h.get? b = some o → h'.get? b = some o) : HandSPX.FlyingZ base l e Z h' := by
  obtain ⟨f1, f2, f3, oe, vs, T, oT, ts, he, hz, hd, h1, hnT, hTe, hT, hdT, h3⟩ := x
  exact ⟨fun b o e => k _ _ (f1 b o e), f2, f3.of_keeps fun b o e _ => ⟨o, k _ _ e, rfl⟩, oe, vs, T, oT, ts, k _ _ he, hz, hd, h1, hnT, hTe, k _ _ hT, hdT, h3⟩
/-- the slots are as many as the names -/
theorem takes_len {X : Cx} {W : WX} (t : Takes X W) : Takes X (fun cls d σ H => σ.length = X.N.length → W cls d σ H) :=
  fun u s' ⟨a, B, sI, pins, σ, H, cls, d, e, I, nb, up, sky, na, os, ag, w⟩ => t u s' ⟨a, B, sI, pins, σ, H, cls, d, e, I, nb, up, sky, na, os, ag, w I.len⟩
/-- a clause's test: what it says of an exception of a class -/
def Tst (X : Cx) (t : Expr) (cs : List Value) : Prop := ∀ (a : Addr) (oe : Obj) (pn pins : List (Addr × Obj)) (σ : L2.St) (H : Hp) (s : Shared) (cls : Value) (b : Bool) (Q : Bool → Shared → Prop) (E : Value → Shared → Prop),
  Inv (X.suite a ((a, oe) :: pn)) pins σ H s → PySem.W.Looks (model X.prog X.w) s.heap (typeOf (.ref a)) cls → PySem.W.exmAny X.K cls cs = some b →
  (∀ h', (∀ b o, s.heap.get? b = some o → h'.get? b = some o) → Q b { s with heap := h' }) →
  wpAny (model X.prog X.w) (X.A.mark (some (.ref a))) (eval t X.env) (fun c s1 => wpAny (model X.prog X.w) (X.A.mark (some (.ref a))) (excMatches (.ref a) c) Q E s1) E s
section
variable {X : Cx} {x x1 x2 : Str} {c c1 c2 : Value} {np p1 p2 tp : Pos} {kk : Nat}
theorem name_val {a : Addr} {oe : Obj} {pn pins : List (Addr × Obj)} {σ : L2.St} {H : Hp} {s : Shared} {Q : Value → Shared → Prop} {E : Value → Shared → Prop} (S : Inv (X.suite a ((a, oe) :: pn)) pins σ H s) (hc : Names X x c) (q : Q c s) :
    wpAny (model X.prog X.w) (X.A.mark (some (.ref a))) (eval (.Name x np) X.env) Q E s := by
  obtain ⟨hg, hdbg, hm | ⟨hm, hv, hnn⟩⟩ := hc
  · exact ld_glob (X := X.suite a ((a, oe) :: pn)) S hg hm q hdbg
  · exact ld_blt (X := X.suite a ((a, oe) :: pn)) S hg hm hv q hnn hdbg
theorem tst_one (hc : Names X x c) : Tst X (.Name x np) [c] := fun a oe pn pins σ H s cls b Q E S LT e q => by
  have e1 : PySem.W.exmOne X.K cls c = some b := by
    obtain ⟨b1, d1, h1, h2, h3⟩ := PySem.W.exmAny_cons e
    have h2 : some false = some d1 := h2
    cases h2
    rw [Bool.or_false] at h3
    rw [h3]
    exact h1
  refine name_val S hc ((PySem.W.exm_one S.kIn LT e1).here ?_)
  exact q s.heap fun _ _ z => z
theorem tst_two (h1 : Names X x1 c1) (h2 : Names X x2 c2) (hs : starEach [.Name x1 p1, .Name x2 p2] X.env = (false, eval (.Name x1 p1) X.env) :: starEach [.Name x2 p2] X.env := by rfl) (hs2 : starEach [.Name x2 p2] X.env = (false, eval (.Name x2 p2) X.env) :: starEach [] X.env := by rfl) :
    Tst X (.Tuple [.Name x1 p1, .Name x2 p2] kk tp) [c1, c2] := fun a oe pn pins σ H s cls b Q E S LT e q => by
  refine wpAny_Tuple ?_
  refine wpAny_items_cons (name_val S h1 ?_) hs
  refine wpAny_items_cons (name_val S h2 ?_) hs2
  refine wpAny_items_nil ⟨by show 2 ≤ sizeLine; decide, ?_⟩
  have kp : ∀ q o, s.heap.get? q = some o → (s.heap.push { cls := .type "tuple", data := .seq [c1, c2].toArray }).get? q = some o := fun _ _ z => Heap.get?_push_of_some _ z
  exact (PySem.W.exm_tup2 (S.kIn.keeps kp) (LT.keeps kp) (Heap.get?_push_size s.heap rfl) e).here (q _ kp)
end
/-- what the clauses wish of an exception of the body: each its classes, its name's slot, its suite -/
def wMA (K : PySem.W.Frag) (Wout : WX) (D : Ends) : List (List Value × Nat × (Addr → Value → Option Addr → TS)) → WX
  | [] => Wout
  | (cs, i, ts) :: r => fun cls d σ H => ∃ b, PySem.W.exmAny K cls cs = some b ∧
    (b = true → ∀ a, H a = none → ts a cls d { nx := fun σ' H' => D.nx (σ'.set i none) H', rt := D.rt, bk := fun σ' H' => D.bk (σ'.set i none) H', ct := fun σ' H' => D.ct (σ'.set i none) H' } (σ.set i (some (.ref a))) H) ∧
    (b = false → wMA K Wout D r cls d σ H)
inductive HdsA (X : Cx) : List ExceptHandler → List (List Value × Nat × (Addr → Value → Option Addr → TS)) → Prop
  | nil : HdsA X [] []
  | cons {t : Expr} {cs : List Value} {n : Str} {i : Nat} {ts : Addr → Value → Option Addr → TS} {b₀ : Stmt} {suite : List Stmt} {pos' : Pos} {hds : List ExceptHandler} {l : List (List Value × Nat × (Addr → Value → Option Addr → TS))} (hc : Tst X t cs) (hi : X.N[i]? = some n) (hln : X.env.kindOf n = some .local)
      (hsu : ∀ (a : Addr) (oe : Obj) (cls : Value) (d : Option Addr) (pn : List (Addr × Obj)), Zc cls d oe → (∃ vs, oe.data = .fields vs) → PSs (X.suite a ((a, oe) :: pn)) (b₀ :: suite) (ts a cls d)) (r : HdsA X hds l) :
      HdsA X (.ExceptHandler (some t) (some n) (b₀ :: suite) pos' :: hds) ((cs, i, ts) :: l)
section
variable {X : Cx} {body : List Stmt} {h₀ : ExceptHandler} {hds : List ExceptHandler} {l : List (List Value × Nat × (Addr → Value → Option Addr → TS))} {pos : Pos} {tb : WX → TS} {Wout : WX}
theorem ps_try_manyA (hs : X.stack = X.env :: X.outer) (hf : X.env.frame = some X.env.locals) (hN : X.N.Nodup) (tk : Takes X Wout)
    (hb : ∀ (W : WX) (pn : List (Addr × Obj)) (xe : Value → Shared → Prop), Takes (X.tr pn xe) W → PassesOwn (model X.prog X.w) X.A X.env xe → PSs (X.tr pn xe) body (tb W))
    (hh : HdsA X (h₀ :: hds) l) : PS X (.Try body (h₀ :: hds) [] [] pos) (fun D σ H => tb (wMA X.K Wout D l) D σ H) := by
  refine ⟨fun pins s σ H D I h => ?_⟩
  have ok := I.ok
  have hfr : X.A.frames = some (X.env :: X.outer) := by rw [ok.frames, hs]
  refine wpAny_Try_except ?_
  refine wpAny_mono ((hb (wMA X.K Wout D l) (X.pn ++ pins) (fun e s₁ => wpAny (model X.prog X.w) X.A (noteFrame e X.env) (fun _ s₂ => wpAny (model X.prog X.w) X.A (setFlight e none) (fun _ s₃ =>
    wpAny (model X.prog X.w) X.A (handleBy e X.env (h₀ :: hds)) (SP X pins D) X.xe s₃) X.xe s₂) X.xe s₁) (fun u s' xx => ?_) PassesOwn.looking).run [] s σ H D (I.toTry _) h) (fun f s1 hsp => ?_) (fun e s1 he => he)
  · -- the catch
    obtain ⟨a, B, sI, pins', σ', H', cls, d, rfl, J', nb, up, sky, na, os, ag, w⟩ := xx
    have J : Inv X pins σ' H' sI := J'.ofTry ok
    have sky' : Sky B (X.env :: X.outer) a (Zc cls d) X.env.locals s'.heap := by rw [← hs]; exact sky
    show wpAny (model X.prog X.w) X.A (noteFrame (.ref a) X.env) _ _ _
    refine Sky.land Zc.steady hfr hf sky' fun h3 fl3 up3 => ?_
    have notFr : ∀ {h : Heap} {o : Obj} {vs : Array Value}, h.FunFrames B (X.env :: X.outer) → h.get? a = some o → o.data = .fields vs → a ∉ frs (X.env :: X.outer) := fun {h o vs} ff e dd hm => by
      obtain ⟨_, o', e', hnf⟩ := ff.mem hm
      rw [e] at e'; cases e'
      exact hnf _ dd
    have go : ∀ {hds' : List ExceptHandler} {l' : List (List Value × Nat × (Addr → Value → Option Addr → TS))}, HdsA X hds' l' → ∀ h3, HandSPX.FlyingZ B (X.env :: X.outer) a (Zc cls d) h3 → s'.heap.UpToSlots h3 → wMA X.K Wout D l' cls d σ' H' →
        wpAny (model X.prog X.w) X.A (handleBy (.ref a) X.env hds') (SP X pins D) X.xe { s' with heap := h3 } := by
      intro hds' l' hk
      induction hk with
      | nil =>
        intro h3 fl3 up3 w
        refine wpAny_handleBy_nil ?_
        obtain ⟨k1, k2, k3, oe, vs, T, oT, ts', he, hz, hd, h1, hr⟩ := id fl3
        unfold PySem.passOn
        refine wpAny_bind (wpAny_field he hd h1 ?_)
        rw [if_neg (show ¬ ((Value.ref T == Value.none) = true) from by simp)]
        have fin : wpAny (model X.prog X.w) X.A (setFlight (.ref a) X.env.frame) (fun _ s4 => wpAny (model X.prog X.w) X.A (throw (.ref a) : Sem Flow) (SP X pins D) X.xe s4) X.xe { s' with heap := h3 } := by
          rw [hf]
          refine HandSPX.setFlight_upZ fl3 fun h4 hh4 up4 => wpAny_throw (tk _ _ ?_)
          exact ⟨a, B, sI, pins, σ', H', cls, d, rfl, J, nb, (up.trans up3).trans up4, .inr (.inr (by rw [hs]; exact hh4)), na, os, ag, w⟩
        first
          | exact wpAny_bind (wpAny_pure (wpAny_bind fin))
          | exact wpAny_bind fin
      | @cons t cs n i ts b₀ suite pos' hds2 l2 hc hi hln hsu r ih =>
        intro h3 fl3 up3 w
        have J3 : Inv X pins σ' H' { s' with heap := h3 } := J.landed nb fl3.1 (up.trans up3) os ag
        obtain ⟨oe3, vs3, he3, hz3, hd3⟩ := fl3.there
        have nfr := notFr fl3.2.2.1 he3 hd3
        have nL : a ≠ X.env.locals := fun z => nfr (List.mem_filterMap.mpr ⟨X.env, List.mem_cons_self, by rw [hf, z]⟩)
        have nF : a ∉ X.fs := fun hm => by
          obtain ⟨e, he, q⟩ := List.mem_filterMap.mp hm
          exact nfr (List.mem_filterMap.mpr ⟨e, List.mem_cons_of_mem _ he, q⟩)
        have S3 := J3.suite he3 hd3 na nL nF
        obtain ⟨b, hb1, hyes, hno⟩ := w
        have hloc : Loc X.env.scope n := .inl hln
        refine wpAny_handleBy_cons (codeAny_handlers_test ?_) (by intro q; cases q)
        have LT : PySem.W.Looks (model X.prog X.w) h3 (typeOf (.ref a)) cls := fun A Q E s k q => wpAny_typeOf_ref (k _ _ he3) (by rw [hz3.1]; exact q)
        refine hc a oe3 (X.pn ++ pins) [] σ' H' _ cls b _ _ S3 LT hb1 fun h3' k3 => ?_
        have fl3' := flying_kept fl3 k3
        have up3' : s'.heap.UpToSlots h3' := up3.trans fun b o e _ => ⟨o.slots, k3 b o e⟩
        cases b with
        | true =>
          refine codeAny_handlers_suite_as ?_
          refine HandSPX.lands_againZ fl3' fun h4 fl4 up4 => ?_
          have J4 : Inv X pins σ' H' { s' with heap := h4 } := J.landed nb fl4.1 ((up.trans up3').trans up4) os ag
          obtain ⟨oe4, vs4, he4, hz4, hd4⟩ := fl4.there
          have nfr4 := notFr fl4.2.2.1 he4 hd4
          have S4 := J4.suite he4 hd4 na nL nF
          refine store_ok (X := X.suite a ((a, oe4) :: (X.pn ++ pins))) (v := .ref a) S4 hN hi hloc rfl (fun s5 S5 => ?_) (.inr hln)
          refine wpAny_mono ((hsu a oe4 cls d (X.pn ++ pins) hz4 ⟨_, hd4⟩).run [] s5 _ H' _ S5 (hyes rfl a na)) (fun f s6 hsp => ?_) (fun _ _ z => False.elim z)
          have end_ : ∀ {σ6 : L2.St} {H6 : Hp} {Q : Shared → Prop}, Inv (X.suite a ((a, oe4) :: (X.pn ++ pins))) [] σ6 H6 s6 → (∀ s7, Inv X pins (σ6.set i none) H6 s7 → Q s7) →
              wpAny (model X.prog X.w) X.A (do bindName X.env n .none; unbindBehindTheSuite X.env n pos') (fun _ s7 => Q s7) X.xe s6 := fun {σ6 H6 Q} S6 hq => gone_ok (S6.unsuite ok) hN hi hln hq
          cases f with
          | next =>
            obtain ⟨σ6, H6, S6, q6⟩ := hsp
            exact end_ S6 fun s7 J7 => ⟨_, _, J7, q6⟩
          | brk =>
            obtain ⟨σ6, H6, S6, q6⟩ := hsp
            exact end_ S6 fun s7 J7 => ⟨_, _, J7, q6⟩
          | cont =>
            obtain ⟨σ6, H6, S6, q6⟩ := hsp
            exact end_ S6 fun s7 J7 => ⟨_, _, J7, q6⟩
          | ret u =>
            obtain ⟨v6, σ6, H6, S6, r6, q6⟩ := hsp
            exact end_ S6 fun s7 J7 => ⟨_, _, _, J7, r6, q6⟩
        | false =>
          show wpAny _ X.A (handleBy (.ref a) X.env hds2) _ _ _
          exact ih h3' fl3' up3' (hno rfl)
    exact go hh h3 fl3 up3 w
  · cases f with
    | next =>
      obtain ⟨σ', H', J', q⟩ := hsp
      exact wpAny_execs_nil ⟨σ', H', J'.ofTry ok, q⟩
    | brk =>
      obtain ⟨σ', H', J', q⟩ := hsp
      exact ⟨σ', H', J'.ofTry ok, q⟩
    | cont =>
      obtain ⟨σ', H', J', q⟩ := hsp
      exact ⟨σ', H', J'.ofTry ok, q⟩
    | ret u =>
      obtain ⟨v, σ', H', J', r, q⟩ := hsp
      exact ⟨v, σ', H', J'.ofTry ok, r, q⟩
end
end Trt

/-! The law's own def at its caller, where lambdas are made: tables of code objects that grow. -/
namespace Cal
open PySem PySem.Spec PyProof.Rows L2

/-- the tables, empty as the top left them -/
structure Tbl0 (K : W.Frag) (h : Heap) (p : Addr × Addr) : Prop where
  tab : h.get? p.2 = some (W.tabObj #[])
  out : K.lookup p.2 = none
  hd : W.CodeHd h p.1 p.2

theorem wonT {P : Program} {w : World} {K : W.Frag} {mg mb : Str → Option Value} {fa a : Addr} {s : Shared} {vs : List Value} {ns : List Int} {cs : List (Addr × Addr)}
    (kIn : K.In s.heap) (glo : s.heap.Ns mainGlobals mg) (bns : s.heap.Ns builtinsNs mb) (bbo : ∀ x : Str, x ≠ "__name__" → mb x = bootBuiltins x)
    (lim : s.heap.NoLimit) (gen : s.gens = #[]) (obj : s.heap.get? a = some { cls := .type "list", data := .seq vs.toArray })
    (its : IntsAre vs ns) (few : ns.length ≤ sizeLine) (tabs : ∀ p ∈ cs, Tbl0 K s.heap p)
    (bmain : ∃ (bm : Addr) (ob : Obj), mg "__builtins__" = some (.ref bm) ∧ bm ≠ builtinsNs ∧ s.heap.get? bm = some ob ∧ ob.cls = .type "module" ∧ ob.dict = some builtinsNs ∧ ob.data = .plain)
    (run : ∀ (base : Heap) (H : Hp), K.In base → base.Ns mainGlobals mg → (∀ p ∈ cs, LamX.TabB base mg p.1 p.2) → Env0 P w K mg base callerA [] s H → (∀ p ∈ cs, H p.2 = some (.tbl #[])) → SqL K H a (ns.map V.int) →
      codeAny (model P w) callerA (.call (.ref fa) ⟨[.ref a], []⟩) (CR CX0 [] P w H s (fun v _ => v = .bl true) E0) s) :
    Won P w s fa a := by
  have vals := vals_ints its
  have size := its.length
  have isT : ∀ b, b ∈ cs.map (·.2) → s.heap.get? b = some (W.tabObj #[]) ∧ K.lookup b = none := fun b hb => by
    obtain ⟨p, hp, rfl⟩ := List.mem_map.mp hb
    exact ⟨(tabs p hp).tab, (tabs p hp).out⟩
  have aT : a ∉ cs.map (·.2) := fun z => by
    have q := (isT a z).1
    rw [obj] at q
    exact nomatch (congrArg Obj.data (Option.some.inj q))
  -- H0: what is tracked but for the tables
  suffices main : ∀ H0 : Hp, Only H0 → (∀ b, H0 b ≠ none → b = a ∧ K.lookup a = none) → (K.lookup a = none → ∃ o, H0 a = some (.frz o (.lst (ns.map V.int)))) → (∀ b u, H0 b = some u → ObjOk P w (fun c => if c ∈ cs.map (·.2) then some (.tbl #[]) else H0 c) s.heap b u) → Won P w s fa a by
    cases look : K.lookup a with
    | some o => exact main (fun _ => none) (fun _ => .inl rfl) (fun b z => (z rfl).elim) (fun z => by rw [look] at z; cases z) (fun b u z => nomatch z)
    | none =>
      refine main (fun b => if b = a then some (.frz { cls := .type "list", data := .seq vs.toArray } (.lst (ns.map V.int))) else none) (fun b => ?_) (fun b z => ?_) (fun _ => ⟨_, if_pos rfl⟩) (fun b u z => ?_)
      · by_cases e : b = a
        · exact .inr ⟨_, _, if_pos e⟩
        · exact .inl (if_neg e)
      · by_cases e : b = a
        · exact ⟨e, look⟩
        · exact (z (if_neg e)).elim
      · by_cases e : b = a
        · rw [if_pos e] at z
          obtain rfl := Option.some.inj z
          rw [e]
          exact ⟨obj, by simpa using few, vs, _, vals, obj⟩
        · rw [if_neg e] at z
          cases z
  intro H0 only here there ok0
  generalize eH : (fun c => if c ∈ cs.map (·.2) then some (.tbl #[]) else H0 c) = H at ok0
  have inT : ∀ {b}, b ∈ cs.map (·.2) → H b = some (.tbl #[]) := fun {b} hb => by rw [← eH]; exact if_pos hb
  have offT : ∀ {b}, b ∉ cs.map (·.2) → H b = H0 b := fun {b} hb => by rw [← eH]; exact if_neg hb
  have tbl : ∀ p ∈ cs, H p.2 = some (.tbl #[]) := fun p hp => inT (List.mem_map.mpr ⟨p, hp, rfl⟩)
  have ok : HOk P w H s.heap := fun b u z => by
    by_cases hb : b ∈ cs.map (·.2)
    · rw [inT hb] at z
      obtain rfl := Option.some.inj z
      exact (isT b hb).1
    · exact ok0 b u ((offT hb).symm.trans z)
  have sq : SqL K H a (ns.map V.int) := by
    cases look : K.lookup a with
    | some o =>
      have o2 := kIn a o look
      rw [obj] at o2
      obtain rfl := Option.some.inj o2
      exact .inr ⟨_, vs.toArray, _, look, rfl, rfl, rfl, by simpa [size] using few, by simpa using vals⟩
    | none =>
      obtain ⟨o, e⟩ := there look
      exact .inl (.inr ⟨o, (offT aT).trans e⟩)
  have free : ∀ {b : Addr} {o : Obj}, s.heap.get? b = some o → o.data ≠ .seq vs.toArray → o.data ≠ .fields #[] → H b = none := fun {b o} e d d2 => by
    by_cases hb : b ∈ cs.map (·.2)
    · have := (isT b hb).1
      rw [e] at this
      obtain rfl := Option.some.inj this
      exact (d2 rfl).elim
    · rw [offT hb]
      rcases only b with z | ⟨_, _, z⟩
      · exact z
      · obtain ⟨rfl, _⟩ := here b (by rw [z]; simp)
        rw [obj] at e
        obtain rfl := Option.some.inj e
        exact (d rfl).elim
  have kfree : ∀ {b : Addr} {o : Obj}, K.lookup b = some o → H b = none := fun {b o} e => by
    by_cases hb : b ∈ cs.map (·.2)
    · rw [(isT b hb).2] at e
      cases e
    · rw [offT hb]
      rcases only b with z | ⟨_, _, z⟩
      · exact z
      · obtain ⟨rfl, n⟩ := here b (by rw [z]; simp)
        rw [n] at e
        cases e
  have space : ∀ {b : Addr} {m : Str → Option Value}, s.heap.Ns b m → (hidT s.heap H).Ns b m := fun {b m} ⟨o, es, ep, e, d, r⟩ =>
    ⟨o, es, ep, hidT_get e (free e (by rw [d]; intro z; cases z) (by rw [d]; intro z; cases z)), d, r⟩
  have kIn2 : K.In (hidT s.heap H) := fun b o e => hidT_get (kIn b o e) (kfree e)
  obtain ⟨mc, l1, l2⟩ := lim
  have env : Env0 P w K mg (hidT s.heap H) callerA [] s H := {
    frames := rfl
    mod := ⟨kIn2, space glo, ⟨mb, space bns, bbo⟩, ⟨mc, space l1, l2⟩⟩
    bs := fun b o e => of_hidT e
    bsz := Nat.le_of_eq (hidT_size _ _)
    funs := trivial
    frf := fun b hb => by simp [frs] at hb
    hok := ok
    bare := .of_eq gen }
  have TB : ∀ p ∈ cs, LamX.TabB (hidT s.heap H) mg p.1 p.2 := fun p hp => by
    have t := tabs p hp
    refine ⟨?_, ?_, fun z => ?_⟩
    · obtain ⟨o, us, file, tf, flags, tg, inF, text, tt, e1, r1, r2, r3, r⟩ := t.hd
      refine ⟨o, us, file, tf, flags, tg, inF, text, tt, hidT_get e1 (free e1 (fun z => ?_) fun z => ?_), r1, r2, r3, r⟩ <;> rw [r2] at z
      · cases z
      · cases z
        simp at r3
    · obtain ⟨bm, ob, b1, b2, b3, b4, b5, b6⟩ := bmain
      refine ⟨bm, ob, b1, b2, fun q => ?_, fun q => ?_, hidT_get b3 (free b3 (fun z => ?_) fun z => ?_), b4, b5, b6⟩
      · obtain ⟨o, es, ep, e, hd, _⟩ := glo
        rw [q, e] at b3
        cases b3
        rw [hd] at b6
        cases b6
      · rw [q, t.tab] at b3
        cases b3
        cases b6
      · rw [b6] at z
        cases z
      · rw [b6] at z
        cases z
    · obtain ⟨o, es, ep, e, hd, _⟩ := glo
      rw [z, t.tab] at e
      cases e
      cases hd
  refine codeAny_mono (run _ H kIn2 (space glo) TB env tbl sq) fun r s' z => ?_
  match r, z with
  | .error e, z => exact z.elim
  | .ok .next, z => exact z.elim
  | .ok .brk, z => exact z.elim
  | .ok .cont, z => exact z.elim
  | .ok (.ret u), ⟨v, H', os, bare, un, ok', rv, q⟩ =>
    subst q
    obtain rfl : u = Value.bool true := rv
    have stays : ∀ b o, b ∉ cs.map (·.2) → s.heap.get? b = some o → s'.heap.get? b = some o := fun b o nb e => by
      rcases only b with z | ⟨ob, xs, z⟩
      · exact un.keep b o e ((offT nb).trans z) (by simp [frs]) (by simp)
      · have z1 := (offT nb).trans z
        have y1 := (ok b _ z1).1
        have y2 := (ok' b _ (un.frzs b ob _ z1)).1
        rw [e] at y1
        obtain rfl := Option.some.inj y1
        exact y2
    have grown : ∀ p ∈ cs, ∃ more : Array Value, s'.heap.get? p.2 = some (W.tabObj more) := fun p hp => by
      obtain ⟨more, z⟩ := un.tbls p.2 #[] (tbl p hp)
      exact ⟨_, ok' p.2 _ z⟩
    refine ⟨rfl, ⟨fun b o e => ?_, fun b o e => ?_⟩, os, bare⟩ <;> by_cases hb : b ∈ cs.map (·.2)
    · obtain ⟨p, hp, rfl⟩ := List.mem_map.mp hb
      obtain ⟨more, hm⟩ := grown p hp
      rw [(tabs p hp).tab] at e
      cases e
      exact .inr (.inl ⟨((tabs p hp).hd.tab (tabs p hp).tab).isCodeTable, rfl, #[], more, rfl, by rw [Array.empty_append]; exact hm⟩)
    · exact .inl (stays b o hb e)
    · obtain ⟨p, hp, rfl⟩ := List.mem_map.mp hb
      obtain ⟨more, hm⟩ := grown p hp
      exact ⟨_, hm⟩
    · exact ⟨o, stays b o hb e⟩

/-- the goal that k_head leaves, where lambdas are made: the defs that make them by their names -/
theorem walkT {l : PySem.W.OpenLaw} {n : Nat} {q : Program} {loose : List Str} {XP : (Str → Option Value) → Heap → Prop} {YP : World → Heap → Prop} {d : DefRec} {K : Params → PySem.W.Frag} (xs : List Str)
    (most : l.most = some n) (few : n ≤ sizeLine) (dfl : d.params.defaults = []) (hY : ∀ (w : World) (h : Heap), YP w h → (K w.params).In h) (recs : ∀ x ∈ xs, ((recsOf q).find? (fun e => e.name == x)).isSome = true)
    (run : ∀ (w : World) (mg : Str → Option Value) (fa : Addr) (h : Heap), (K w.params).In h → h.Ns mainGlobals mg → mg d.name = some (.ref fa) →
      ∃ cs : List (Addr × Addr), (∀ p ∈ cs, (K w.params).lookup p.2 = none ∧ ∃ x ∈ xs, W.tabIn (K w.params) x = some p) ∧
      ∀ (s : Shared) (a : Addr) (ns : List Int) (base : Heap) (H : Hp), ns.length ≤ n → (K w.params).In base → base.Ns mainGlobals mg → (∀ p ∈ cs, LamX.TabB base mg p.1 p.2) → Env0 l.prog w (K w.params) mg base callerA [] s H → (∀ p ∈ cs, H p.2 = some (.tbl #[])) → SqL (K w.params) H a (ns.map V.int) →
        codeAny (model l.prog w) callerA (.call (.ref fa) ⟨[.ref a], []⟩) (CR CX0 [] l.prog w H s (fun v _ => v = .bl true) E0) s) :
    PySem.W.WalkO q loose XP YP l.row.toRowW d [] (fun f vs => PySem.call f vs) := by
  refine Att.attach_call most dfl fun w s₀ s₁ mg mb fa o pm cd doc a vs ns G Y ho hd hcd hmg hobj hints hlen hg => ?_
  have KX := hY w _ Y
  obtain ⟨cs, ht, go⟩ := run w mg fa _ KX G.T.g hmg
  refine wonT (cs := cs) KX G.T.g G.T.b G.T.builtins G.T.nolimit hg hobj hints (Nat.le_trans hlen few) (fun p hp => ?_) G.T.bmain fun base H b1 b2 tb e0 h0 sq => go s₁ a ns base H hlen b1 b2 tb e0 h0 sq
  obtain ⟨no, x, hx, e⟩ := ht p hp
  obtain ⟨dd, hdd⟩ := Option.isSome_iff_exists.mp (recs x hx)
  obtain ⟨c1, c2⟩ := W.tab_of (c := p.1) (P := p.2) G.T KX hdd e
  exact ⟨c2, no, c1⟩
end Cal

/-! x == y by x's own __eq__, whatever it answers -/
namespace Oeq
open PySem PySem.Spec PyProof.Rows L2
/-- what y's type is -/
inductive TyEq (H : Hp) : V → Value → Prop
  | str (s : Str) : TyEq H (.str s) (.type "str")
  | lst {a : Addr} {xs : List V} (h : H a = some (.lst xs)) : TyEq H (.ref a) (.type "list")
  | tup {a : Addr} {xs : List V} (h : H a = some (.tup xs)) : TyEq H (.ref a) (.type "tuple")
  | ins {a C dx : Addr} {fs : List (Str × V)} (h : H a = some (.ins C dx fs)) : TyEq H (.ref a) (.ref C)
theorem TyEq.looks {X : Cx} {pins : List (Addr × Obj)} {σ : L2.St} {H : Hp} {s : Shared} {y : V} {v tb : Value} (t : TyEq H y tb) (I : Inv X pins σ H s) (r : RelV y v) : PySem.W.Looks (model X.prog X.w) s.heap (typeOf v) tb := by
  cases t with
  | str z =>
    obtain ⟨t, rfl⟩ := r
    exact PySem.W.Looks.of_pure rfl
  | lst h =>
    cases r
    obtain ⟨z, its, k, r, e⟩ := I.hok _ _ h
    exact fun A Q E s k q => wpAny_typeOf_ref (k _ _ e) q
  | tup h =>
    cases r
    obtain ⟨its, r, e, z⟩ := I.tuple (X := X) (.inl (.inl h))
    obtain ⟨o, ho, hc, n, hd⟩ := e
    exact fun A Q E s k q => wpAny_typeOf_ref (k _ _ ho) (by rw [hc]; exact q)
  | ins h =>
    cases r
    obtain ⟨mB, J, _⟩ := ins_get I.hok h
    obtain ⟨od, J, _⟩ := J.look
    exact J.type
def rEqO (K : PySem.W.Frag) (C : Addr) (sp : Sp) : R2 := fun x y H Q => ∃ a dx fs tb, x = .ref a ∧ H a = some (.ins C dx fs) ∧ TyEq H y tb ∧ PySem.W.notFirst K C tb = true ∧ sp [x, y] H (fun v H' => ∃ b, v = .bl b ∧ Q (.bl b) H') E0
theorem op_eqO {X : Cx} {n : Nat} {C f : Addr} {fd : FuncData} {ps : List Str} {sp : Sp} (F : FnOk X.prog X.w X.K X.mg X.base CX0 n f fd ps sp) (hs : PySem.W.findIn X.K (.ref C) "__eq__" = some (some (.ref f))) (hf : PySem.W.isFn X.K (.ref f) = true) (hb : Binds X.K fd ps []) (hr : Room n X.A) :
    OpR X (compareOp .Eq) (rEqO X.K C sp) := by
  intro pins s σ H x y v u Q I rx ry h
  obtain ⟨a, dx, fs, tb, rfl, ha, ty, nf, q⟩ := h
  cases rx
  obtain ⟨mA, J, _⟩ := ins_get I.hok ha
  obtain ⟨od, J, _⟩ := J.look
  obtain ⟨m, hF⟩ := I.fr
  show wpAny (model X.prog X.w) X.A (richCompare .Eq (.ref a) u) _ _ _
  refine PySem.W.cmp_K (op := .Eq) (tb := tb) hr.units0 hF I.ok.mod.kin J (ty.looks I ry) nf hs hf ?_
  refine thn (run_fn (us := [.ref a, u]) (vs := [.ref a, y]) F hr hb .nil pass0 I (.cons rfl (.cons ry .nil)) q) fun w s1 z => ?_
  obtain ⟨v1, H1, I1, r1, b, rfl, q1⟩ := z
  cases r1
  exact ⟨.bl b, H1, I1, rfl, q1⟩
end Oeq

namespace Exn
open PySem PySem.Spec PyProof.Rows L2
theorem Ecl.xf {K : W.Frag} {C : Addr} {B newId initId : String} {bmB : List Value} (T : Ecl K C B newId initId bmB) : XfC K C := ⟨T.ga, T.gt, T.sub, T.hd⟩
section
variable {X : Cx} {a : Addr} {oe : Obj} {cls : Value} {d : Option Addr} {pn : List (Addr × Obj)}
/-- error.f in a suite, of whichever of the told classes the error is -/
theorem pe_errF {e : Expr} {te : TE} {pos : Pos} {n : Str} (hz : Zc cls d oe) (hf : ∃ vs, oe.data = .fields vs) (he : PE (X.suite a ((a, oe) :: pn)) e te) (hb : attributeBase e n X.env (eval e X.env) = eval e X.env := by rfl) :
    PE (X.suite a ((a, oe) :: pn)) (.Attribute e n pos) (fun σ H Q => (∃ C, cls = .ref C ∧ XfC X.K C ∧ W.findIn X.K (.ref C) n = some none) ∧
      te σ H fun x H1 => x = .ref a ∧ ∃ (dd : Addr) (fs : List (Str × V)) (v : V), d = some dd ∧ H1 dd = some (.xd fs) ∧ fs.lookup n = some v ∧ Q v H1) := by
  refine ⟨fun pins s σ H Q I h => ?_⟩
  obtain ⟨⟨C, ec, T, no⟩, h⟩ := h
  refine (pe_xf T no hz hf he hb).run pins s σ H Q I (Eq.mp (congrArg (te σ H) ?_) h)
  funext x H1
  exact propext ⟨fun ⟨e1, r⟩ => ⟨e1, ec, r⟩, fun ⟨e1, _, r⟩ => ⟨e1, r⟩⟩
/-- isinstance(error, c) in a suite -/
theorem call_isF (G : ClsGet X.K) (hz : Zc cls d oe) (hf : ∃ vs, oe.data = .fields vs) :
    CallR (X.suite a ((a, oe) :: pn)) (.builtin "isinstance") (fun xs H Q => ∃ (D : Addr) (B newId initId : String) (bmB : List Value), Ecl X.K D B newId initId bmB ∧ ∃ (c : V) (u : Value) (b : Bool) (dd : Addr) (fs : List (Str × V)), xs = [.ref a, c] ∧ ClsV c u ∧ cls = .ref D ∧ d = some dd ∧ H dd = some (.xd fs) ∧
      W.kitOne X.K (.ref D) u = some b ∧ Q (.bl b) H) := by
  intro pins s σ H xs us Q I r h
  obtain ⟨D, B, newId, initId, bmB, T, h⟩ := h
  exact call_isS T G hz hf pins s σ H xs us Q I r h
end
end Exn

/-! a def whose code object is told: it makes lambdas -/
namespace Cal
open PySem PySem.Spec PyProof.Rows L2
section
variable {P : Program} {w : World} {K : PySem.W.Frag} {mg : Str → Option Value} {base : Heap} {x qual : Str} {st : Stmt} {f c T : Addr} {fd : FuncData} {N ps : List Str}
theorem code_of {oc : Value} {od : Option Addr} {sl : Array (Option Value)} (a : W.nsIn K mainGlobals x = some (some (.ref f))) (l : K.lookup f = some ⟨oc, od, .func fd, sl⟩) (t : W.tabIn K x = some (c, T)) : fd.code = .ref c := by
  unfold W.tabIn at t
  rw [a] at t
  simp only [l] at t
  split at t
  · rename_i c2 e
    split at t
    · split at t
      · cases t
        exact e
      · cases t
    · cases t
  · cases t
theorem okC {k : Nat} {sp : Sp} (F : Fun K x qual st f fd) (hc : fd.code = .ref c) (S : FnScope N ps (defScope st)) (len : ∀ vs H Q E, sp vs H Q E → vs.length = ps.length)
    (hbody : ∀ (A : Around) (outer : List Env) (s : Shared) (H : Hp) (vs : List V) (Q : VK) (E : XK), Room k (A.deeper (envOfC qual (defScope st) s.heap.objs.size f (.ref c))) → sp vs H Q E →
      ∃ t, PSs (cxOf CX0 P w K mg base N qual (defScope st) f (.ref c) A outer s H E).nox (defBody st) t ∧ t { nx := fun _ H' => Q .non H', rt := Q } (start N vs) H) : FnOk P w K mg base CX0 (k + 1) f fd ps sp := by
  obtain ⟨oc, od, kV, doc, pm, an, cdv, ct, osl, rfl, lk, hcd⟩ := F.ex
  obtain rfl : cdv = .ref c := hc
  refine fn_of lk hcd S len fun A outer s H vs Q E hr hsp => ?_
  obtain ⟨t, h, q⟩ := hbody A outer s H vs Q E hr hsp
  exact ⟨t, h.nox, q⟩
theorem law_runC {s : Shared} {H : Hp} {us : List Value} {vs : List V} {Q : VK}
    (F : Fun K x qual st f fd) (hc : fd.code = .ref c) (S : FnScope N ps (defScope st)) (e0 : Env0 P w K mg base callerA [] s H) (bind : Binds K fd ps []) (r : Vals vs us) (hl : vs.length = ps.length)
    (body : ∃ t, PSs (cxOf CX0 P w K mg base N qual (defScope st) f (.ref c) callerA [] s H E0).nox (defBody st) t ∧ t { nx := fun _ H' => Q .non H', rt := Q } (start N vs) H) :
    codeAny (model P w) callerA (.call (.ref f) ⟨us, []⟩) (CR CX0 [] P w H s Q E0) s := by
  obtain ⟨oc, od, kV, doc, pm, an, cdv, ct, osl, rfl, lk, hcd⟩ := F.ex
  obtain rfl : cdv = .ref c := hc
  obtain ⟨t, ht, hq⟩ := body
  have keep : ∀ b o, base.get? b = some o → s.heap.get? b = some o := fun b o e => (e0.bs b o e).1
  have kIn := e0.mod.kin.keeps keep
  have ul : us.length = ps.length := by rw [← r.length]; exact hl
  have hb := bind s us kIn (by simpa using ul)
  rw [List.append_nil] at hb
  refine codeAny_call_function (by decide) (kIn _ _ lk) rfl S.co S.gen rfl (PySem.W.codeRec_of kIn hcd) (hb _ _ _ _ ?_)
  refine wpAny_newFunctionEnv_cells S.kind (fun ⟨y, v⟩ hy => ?_) fun env he s1 z => ?_
  · rcases S.par y (List.of_mem_zip hy).1 with q | q
    · exact Or.inl q
    · exact Or.inr ⟨q, PySem.W.cellsFrom_some _ _ _ (Or.inl q)⟩
  · subst he
    refine ⟨(e0.mod.nolimit.keeps keep).keeps z.toInCall.keep, codeAny_func ?_⟩
    have I : Inv (cxOf CX0 P w K mg base N qual (defScope st) f (.ref c) callerA [] s H E0) [] (start N vs) H s1 := inv_start S rfl e0 hl r z
    refine wpAny_mono (ht.nox.run [] s1 _ H _ I hq) (fun fl s' y => ?_) fun _ _ y => y
    match fl, y with
    | .ret u, ⟨v, σ', H', J, rv, q⟩ => exact ⟨v, H', J.os, J.bare, J.base, J.hok, rv, q⟩
    | .next, ⟨σ', H', J, q⟩ => exact ⟨.non, H', J.os, J.bare, J.base, J.hok, rfl, q⟩
    | .brk, ⟨_, _, _, q⟩ => exact q.elim
    | .cont, ⟨_, _, _, q⟩ => exact q.elim
end
end Cal

/-! split undoes join -/
namespace Tx
open PySem
abbrev L (s : Str) : List Nat := s.cps.toList
theorem ext {a b : Str} (h : L a = L b) : a = b := Str.ext' (Array.toList_inj.mp h)
theorem L_append (a b : Str) : L (a ++ b) = L a ++ L b := by simp [L, Str.cps_append]
theorem len_L (s : Str) : s.length = (L s).length := by simp [L, Str.length]
theorem cut_eq {c : Nat} : ∀ {a b r q : List Nat}, c ∉ a → c ∉ b → a ++ c :: r = b ++ c :: q → a = b ∧ r = q
  | [], [], _, _, _, _, h => ⟨rfl, by simpa using h⟩
  | [], y :: b, _, _, _, hb, h => by
    simp at h
    exact absurd (List.mem_cons.mpr (.inl h.1)) hb
  | x :: a, [], _, _, ha, _, h => by
    simp at h
    exact absurd (List.mem_cons.mpr (.inl h.1.symm)) ha
  | x :: a, y :: b, r, q, ha, hb, h => by
    simp at h
    obtain ⟨rfl, h⟩ := h
    obtain ⟨e1, e2⟩ := cut_eq (a := a) (b := b) (fun z => ha (List.mem_cons_of_mem _ z)) (fun z => hb (List.mem_cons_of_mem _ z)) h
    exact ⟨by rw [e1], e2⟩
theorem L_join (sep x y : Str) (r : List Str) : L (Str.join sep (x :: y :: r)) = L x ++ (L sep ++ L (Str.join sep (y :: r))) := by
  show L (x ++ sep ++ Str.join sep (y :: r)) = _
  rw [L_append, L_append, List.append_assoc]
theorem join_inj {c : Nat} : ∀ {xs ys : List Str}, xs ≠ [] → ys ≠ [] → (∀ p, p ∈ xs → c ∉ L p) → (∀ p, p ∈ ys → c ∉ L p) → Str.join ⟨#[c]⟩ xs = Str.join ⟨#[c]⟩ ys → xs = ys
  | [], _, h, _, _, _, _ => absurd rfl h
  | _ :: _, [], _, h, _, _, _ => absurd rfl h
  | [x], [y], _, _, _, _, h => by
    have h : x = y := h
    rw [h]
  | [x], y :: z :: r, _, _, hx, _, h => by
    have e : L x = L y ++ (c :: L (Str.join ⟨#[c]⟩ (z :: r))) := by
      have := congrArg L h
      rw [L_join] at this
      exact this
    exact absurd (by rw [e]; simp) (hx x (List.mem_cons_self ..))
  | x :: z :: r, [y], _, _, _, hy, h => by
    have e : L y = L x ++ (c :: L (Str.join ⟨#[c]⟩ (z :: r))) := by
      have := congrArg L h
      rw [L_join] at this
      exact this.symm
    exact absurd (by rw [e]; simp) (hy y (List.mem_cons_self ..))
  | x :: z :: r, y :: w :: q, _, _, hx, hy, h => by
    have e : L x ++ c :: L (Str.join ⟨#[c]⟩ (z :: r)) = L y ++ c :: L (Str.join ⟨#[c]⟩ (w :: q)) := by
      have := congrArg L h
      rw [L_join, L_join] at this
      exact this
    obtain ⟨e1, e2⟩ := cut_eq (hx x (List.mem_cons_self ..)) (hy y (List.mem_cons_self ..)) e
    rw [ext e1, join_inj (List.cons_ne_nil _ _) (List.cons_ne_nil _ _) (fun p hp => hx p (List.mem_cons_of_mem _ hp)) (fun p hp => hy p (List.mem_cons_of_mem _ hp)) (ext e2)]
theorem split_ne (x y : Str) : Txt.split x y ≠ [] := by
  unfold Txt.split
  split
  · exact List.cons_ne_nil _ _
  · split
    · exact List.cons_ne_nil _ _
    · rw [StrLaws.partsBetween_eq]
      obtain ⟨p, r, e⟩ := StrLaws.partsFrom_ne x y.length 0 (Builtin.Str.occurrences x y 0 x.length (x.length + 1))
      rw [e]
      exact List.cons_ne_nil _ _
/-- split undoes join, where no part has the sign -/
theorem split_join {c : Nat} {xs : List Str} (ne : xs ≠ []) (h : ∀ p, p ∈ xs → c ∉ L p) : Txt.split (Txt.join ⟨#[c]⟩ xs) ⟨#[c]⟩ = xs := by
  refine join_inj (split_ne _ _) ne (fun p hp => StrLaws.split_free _ c p hp) h ?_
  rw [StrLaws.join_split]
  exact StrLaws.glued_eq_join _ _
theorem split_len {c : Nat} {s : Str} : ∀ p, p ∈ Txt.split s ⟨#[c]⟩ → p.length ≤ s.length := by
  intro p hp
  have e := StrLaws.join_split s ⟨#[c]⟩
  have key : ∀ (xs : List Str), p ∈ xs → p.length ≤ (Str.join ⟨#[c]⟩ xs).length := by
    intro xs
    induction xs with
    | nil => intro h; cases h
    | cons x xs ih =>
      intro h
      cases xs with
      | nil =>
        obtain rfl := List.mem_singleton.mp h
        exact Nat.le_refl _
      | cons y r =>
        rw [len_L (Str.join _ _), L_join]
        simp only [List.length_append]
        rcases List.mem_cons.mp h with rfl | z
        · rw [len_L]; omega
        · have := ih z
          rw [len_L (Str.join _ _)] at this
          omega
  rw [← e]
  exact key _ hp
end Tx

/-! what the written part says of own exception classes, of own classes, of constant tuples of words -/
namespace Fx
open PySem PySem.Spec PyProof.Rows L2
open Exn Keys
def clsB (K : W.Frag) (C : Addr) (bm : List Value) (newId : String) (f : Str) : Bool :=
  W.excInitIn K C bm newId && W.excOver K C bm && decide (W.findIn K (.ref C) "__setattr__" = some (some (.builtin "object.__setattr__"))) &&
  decide (W.findIn K (.ref C) "__getattribute__" = some (some (.builtin "BaseException.__getattribute__"))) && decide (W.findIn K (.ref C) "__getattr__" = some none) && W.hasDictIn K C &&
  decide (W.subIn K (.ref C) (.type "BaseException") = some true) && decide (W.findIn K (.ref C) "__class__" = some (some (.builtin "object.__class__"))) && decide (W.mroIn K C (.type "object") = some true) &&
  W.keepIn K (.ref C) && decide (W.findIn K (.ref C) f = some none) && decide (W.typeIn K (.ref C) = some (.type "type"))
theorem ecl_of {K : W.Frag} {C : Addr} {bm : List Value} {B newId initId : String} {f : Str} (h : clsB K C bm newId f = true) (hb : ∃ bm', ExcBaseFacts B newId initId bm') (ht : Tail bm B) (hs : ∃ B', StoreFacts B' bm "object.__setattr__" "object") :
    Ecl K C B newId initId bm ∧ W.findIn K (.ref C) f = some none ∧ W.typeIn K (.ref C) = some (.type "type") := by
  unfold clsB at h
  simp only [Bool.and_eq_true, decide_eq_true_eq] at h
  obtain ⟨⟨⟨⟨⟨⟨⟨⟨⟨⟨⟨h1, h2⟩, h3⟩, h4⟩, h5⟩, h6⟩, h7⟩, h8⟩, h9⟩, h10⟩, h11⟩, h12⟩ := h
  exact ⟨⟨hb, ht, hs, h1, h2, h3, h4, h5, h6, h7, h8, h9, h10⟩, h11, h12⟩
/-- the text of an __init__ that keeps one thing -/
structure InitTxt (st : Stmt) (f : Str) : Prop where
  body : ∃ p1 p2 p3 p4, defBody st = [.Assign [.Attribute (.Name "self" p1) f p2] (.Name f p3) p4]
  sc : FnScope ["self", f] ["self", f] (defScope st)
  v0 : Vis (defScope st) "self"
  v1 : Vis (defScope st) f
  n1 : (f == ("__debug__" : Str)) = false
  n2 : (f == ("__classdict__" : Str)) = false
  bp : ∀ (qual : Str) (kV doc pm : Value) (an : Option Addr) (cdv ct a u : Value), bindArgs (W.fnOf "__init__" qual (defArgs st) (defBody st) (defScope st) .none kV doc pm an cdv ct) ⟨[a, u], []⟩ = pure [(("self" : Str), a), (f, u)]
  bk : ∀ (qual : Str) (kV doc pm : Value) (an : Option Addr) (cdv ct a u : Value), bindArgs (W.fnOf "__init__" qual (defArgs st) (defBody st) (defScope st) .none kV doc pm an cdv ct) ⟨[a], [(f, u)]⟩ = pure [(("self" : Str), a), (f, u)]
theorem exE : ∃ bm', ExcBaseFacts "Exception" "Exception.__new__" "Exception.__init__" bm' := ⟨_, PySem.F.excBase_Exception⟩
theorem exS : ∃ B', StoreFacts B' exTail "object.__setattr__" "object" := ⟨_, PySem.F.store_Exception⟩
theorem keE : ∃ bm', ExcBaseFacts "LookupError" "LookupError.__new__" "LookupError.__init__" bm' := ⟨_, PySem.F.excBase_LookupError⟩
theorem keS : ∃ B', StoreFacts B' keyTail "object.__setattr__" "object" := ⟨_, store_KeyError⟩
section
variable {P : Program} {w : World} {K : W.Frag} {h : Heap} {mg : Str → Option Value} {base : Heap}
theorem cl1_mk {x : Str} {C fI : Addr} {f qual : Str} {st : Stmt} {bm : List Value} {B newId initId : String} {oc kV doc pm cdv ct : Value} {od an : Option Addr} {sl : Array (Option Value)} (X : K.In h) (G : h.Ns mainGlobals mg)
    (aC : W.nsIn K mainGlobals x = some (some (.ref C))) (cb : clsB K C bm newId f = true) (iC : W.findIn K (.ref C) "__init__" = some (some (.ref fI))) (tI : W.typeIn K (.ref fI) = some (.type "function"))
    (l : K.lookup fI = some ⟨oc, od, .func (W.fnOf "__init__" qual (defArgs st) (defBody st) (defScope st) .none kV doc pm an cdv ct), sl⟩) (c : W.codeIn K cdv qual = true) (kI : W.keepIn K (.ref fI) = true)
    (ke : InitTxt st f) (hb : ∃ bm', ExcBaseFacts B newId initId bm') (ht : Tail bm B) (hs : ∃ B', StoreFacts B' bm "object.__setattr__" "object") : Cl1 P w K mg base x C f B newId initId bm := by
  obtain ⟨E, no, ty⟩ := ecl_of (initId := initId) cb hb ht hs
  obtain ⟨p1, p2, p3, p4, hB⟩ := ke.body
  have F := fun_mk (st := st) l c kI
  exact ⟨E, no, W.mg_of X G aC, ty, fI, _, iC, tI, ok_keep F E no hB ke.sc ke.v0 ke.v1 ke.n1 ke.n2, fun s a u => .of_eq (ke.bp ..), fun s a u => .of_eq (ke.bk ..)⟩
end
/-- what the written part says of an own class whose objects keep what they are given: its attributes fs -/
def ownB (K : W.Frag) (C : Addr) (fs : List Str) : Bool :=
  W.plainGet K C Str.empty && W.hasDictIn K C && W.plainOver K C && decide (W.findIn K (.ref C) "__setattr__" = some (some (.builtin "object.__setattr__"))) && W.makesIn K C && W.keepIn K (.ref C) &&
  decide (W.findIn K (.ref C) "__class__" = some (some (.builtin "object.__class__"))) && decide (W.specialIn K (.builtin "object.__class__") "__get__" = some (some (.builtin "getset_descriptor.__get__"))) &&
  decide (W.takesIn K (.builtin "object.__class__") = some true) && decide (W.mroIn K C (.type "object") = some true) && decide (W.kitOne K (.ref C) (.ref C) = some true) &&
  decide (W.specialIn K (.ref C) "__getattribute__" = some (some (.builtin "type.__getattribute__"))) && W.readsIn K C (.type "type") && fs.all fun f => decide (W.findIn K (.ref C) f = some none)
structure Own (K : W.Frag) (C : Addr) (fs : List Str) : Prop where
  cl : Cls K C
  makes : W.makesIn K C = true
  kp : W.keepIn K (.ref C) = true
  ty : ∀ (H : Hp) (a dx : Addr) (gs : List (Str × V)), H a = some (.ins C dx gs) → TyX K H (.ref a) (.ref C)
  self : W.kitOne K (.ref C) (.ref C) = some true
  cg : ClsGet K
  rd : ClX.CRead K C (.type "type")
  no : ∀ f, f ∈ fs → NoAttr K C f
theorem own_of {K : W.Frag} {C : Addr} {fs : List Str} (h : ownB K C fs = true) : Own K C fs := by
  unfold ownB at h
  simp only [Bool.and_eq_true, decide_eq_true_eq] at h
  obtain ⟨⟨⟨⟨⟨⟨⟨⟨⟨⟨⟨⟨⟨h1, h2⟩, h3⟩, h4⟩, h5⟩, h6⟩, h7⟩, h8⟩, h9⟩, h10⟩, h11⟩, h12⟩, h13⟩, h14⟩ := h
  have cl : Cls K C := ⟨h1, h2, h3, h4⟩
  exact ⟨cl, h5, h6, fun H a dx gs e => .base (.ins e cl h7 h8 h9 h10), h11, ⟨h8, h9⟩, ⟨h13, h12⟩, fun f hf => show W.findIn K (.ref C) f = some none from of_decide_eq_true (List.all_eq_true.mp h14 f hf)⟩
def strOf : Value → Option Str
  | .str s _ => some s
  | _ => none
theorem vals_strs : ∀ {us : List Value} {xs : List Str}, us.map strOf = xs.map some → Vals (xs.map V.str) us
  | [], [], _ => .nil
  | [], _ :: _, h => by cases h
  | _ :: _, [], h => by cases h
  | u :: us, x :: xs, h => by
    simp only [List.map_cons, List.cons.injEq] at h
    obtain ⟨h1, h2⟩ := h
    refine .cons ?_ (vals_strs h2)
    cases u <;> first | (cases h1; exact ⟨_, rfl⟩) | cases h1
/-- the module's name x holds a tuple of these words -/
def wordsB (K : W.Frag) (x : Str) (xs : List Str) : Bool := match W.nsIn K mainGlobals x with
  | some (some (.ref a)) => (match K.lookup a with
    | some ⟨.type t, _, .seq its _, _⟩ => decide (t = "tuple") && decide (its.toList.map strOf = xs.map some) && decide (its.size ≤ 1000)
    | _ => false)
  | _ => false
theorem words_of {K : W.Frag} {h : Heap} {mg : Str → Option Value} {x : Str} {xs : List Str} (X : K.In h) (G : h.Ns mainGlobals mg) (b : wordsB K x xs = true) : ∃ a, mg x = some (.ref a) ∧ ∀ H, SqT K H a (xs.map V.str) := by
  unfold wordsB at b
  split at b
  · rename_i a ha
    split at b
    · rename_i t d its n sl hl
      simp only [Bool.and_eq_true, decide_eq_true_eq] at b
      obtain ⟨⟨rfl, e⟩, sz⟩ := b
      refine ⟨a, W.mg_of X G ha, fun H => .inr ⟨_, its, n, hl, rfl, rfl, ?_, vals_strs e⟩⟩
      have : (1000 : Nat) ≤ sizeLine := by decide
      omega
    · cases b
  · cases b
end Fx

/-! x != y of an instance whose class has an __eq__ of its own, and object's __ne__ -/
namespace Oeq
open PySem PySem.Spec PyProof.Rows L2
section
variable {prog : Program} {w : World} {M : Model} {A : Around} {E : Value → Shared → Prop} {s : Shared} {K : W.Frag} {x C f L : Addr} {ox : Obj} {od : Option Obj} {h₀ : Heap} {m : Str → Option Value} {b tb : Value}
open PySem.W Builtin in
theorem ifBound_B {name : Str} {id : String} {args : List Value} {Q : Option Value → Shared → Prop} (X : K.In s.heap) (I : InstAt s.heap x ox C od) (hs : findIn K (.ref C) name = some (some (.builtin id)))
    (hb : ∀ self, bindSpecial (.builtin id) self = pure (.builtin id, [self])) (h : wpAny M A (call (.builtin id) (.ref x :: args)) (fun v => Q (some v)) E s) : wpAny M A (callSpecialIfBound? (.ref x) name args) Q E s := by
  simp only [callSpecialIfBound?, bindSpecialIfBound?]
  refine wpAny_holding (wpAny_bind (wpAny_bind (wpAny_bind (I.type.here ((looks_findIn X hs).here ?_)))))
  refine wpAny_bind (wpAny_askSetting (wpAny_ite ?_))
  have fin : wpAny M A (call (.builtin id) ([.ref x] ++ args) >>= fun v => pure (some v)) Q E s := wpAny_bind (wpAny_mono h (fun v s' h' => wpAny_pure h') fun _ _ h' => h')
  simp only [hb]
  split
  · exact wpAny_bind (wpAny_pure (wpAny_pure fin))
  · exact wpAny_tryCatch (wpAny_bind (wpAny_pure (wpAny_pure fin)))
open PySem.W Builtin in
theorem call_object_ne {Q : Value → Shared → Prop} (hu : A.in1.units < cLine) (X : K.In s.heap) (I : InstAt s.heap x ox C od) (hm : mroIn K C (.type "object") = some true) (he : findIn K (.ref C) "__eq__" = some (some (.ref f))) (hf : isFn K (.ref f) = true)
    (h : wpAny (model prog w) A.in1 (call (.ref f) [.ref x, b]) (fun v s' => ∃ c, v = .bool c ∧ Q (.bool (!c)) s') E s) : wpAny (model prog w) A (call (.builtin "object.__ne__") [.ref x, b]) Q E s := by
  refine wpAny_call (codeAny_call_builtin PySem.F.cmp_object.ne.plain PySem.F.cmpEntry_ne (check_slot (i := "object.__ne__") (owner := "object") (n := "__ne__") PySem.F.cmpKind_ne PySem.F.cmpSplit_ne (I.type.andThen (looks_mroIn X hm)) (PySem.F.cmpArgs_ne _ _) ?_))
  unfold Builtin.«object.__ne__»
  refine wpAny_bind (m := slotArgs "__ne__" 1 _) (wpAny_pure ?_)
  refine wpAny_bind (m := cRoomFor _ _) (wpAny_cRoomFor hu ?_)
  refine wpAny_bind (m := callSpecialIfBound? (.ref x) (Str.ofString "__eq__") _) (ifBound_K X I he hf (wpAny_mono h (fun r s' hq => ?_) fun _ _ y => y))
  obtain ⟨c, rfl, q⟩ := hq
  show wpAny _ _ (truthy (.bool c) >>= fun k => ret (.bool (!k))) _ _ _
  exact wpAny_bind (m := truthy (.bool c)) (wpAny_truthy_bool (wpAny_pure q))
open PySem.W in
theorem cmp_neK {Q : Value → Shared → Prop} (hu : A.units + 1 < cLine) (F : Fr h₀ L s.heap m) (X₀ : K.In h₀) (I : InstAt s.heap x ox C od) (hb : Looks (model prog w) s.heap (typeOf b) tb) (hn : notFirst K C tb = true)
    (hne : findIn K (.ref C) "__ne__" = some (some (.builtin "object.__ne__"))) (hm : mroIn K C (.type "object") = some true) (hs : findIn K (.ref C) "__eq__" = some (some (.ref f))) (hf : isFn K (.ref f) = true)
    (h : wpAny (model prog w) A.in1 (call (.ref f) [.ref x, b]) (fun v s' => ∃ c, v = .bool c ∧ Q (.bool (!c)) s') E s) : wpAny (model prog w) A (richCompare .NotEq (.ref x) b) Q E s := by
  have X := X₀.keeps F.keep
  have one : wpAny (model prog w) A (tryCompare (.ref x) (cmpInfo .NotEq).2.1 b) (fun r s' => ∃ v, r = some v ∧ Q v s') E s := by
    unfold tryCompare
    have z : wpAny (model prog w) A (callSpecialIfBound? (.ref x) "__ne__" [b]) (fun r s' => ∃ c, r = some (.bool c) ∧ Q (.bool c) s') E s :=
      ifBound_B X I hne PySem.F.cmp_object.ne.bind (call_object_ne (A := A) (Q := fun v s' => ∃ c, some v = some (.bool c) ∧ Q (.bool c) s') (by show A.units + 1 < cLine; exact hu) X I hm hs hf (wpAny_mono h (fun v s' hv => by
        obtain ⟨c, rfl, q⟩ := hv
        exact ⟨c, rfl, !c, rfl, q⟩) fun _ _ e => e))
    refine wpAny_bind (wpAny_mono z (fun v s' hv => ?_) fun _ _ e => e)
    obtain ⟨c, rfl, q⟩ := hv
    exact wpAny_pure ⟨_, rfl, q⟩
  unfold richCompare
  simp only [oneThing_ref]
  refine wpAny_holding (wpAny_bind (wpAny_cRoomFor (Nat.lt_of_succ_lt hu) ?_))
  refine wpAny_bind (I.type.here (wpAny_bind (hb.here ?_)))
  split
  · rename_i q
    have e : subIn K tb (.ref C) = some false := by
      rcases Bool.or_eq_true_iff.mp hn with e | e
      · rw [beq_iff_eq.mp e] at q; simp at q
      · exact beq_iff_eq.mp e
    refine wpAny_bind ((looks_subIn X e).here ?_)
    simp only [Bool.false_eq_true, if_false]
    refine wpAny_bind (wpAny_mono one (fun r s' z => ?_) fun _ _ e => e)
    obtain ⟨v, rfl, hq⟩ := z
    exact wpAny_pure hq
  · refine wpAny_bind (wpAny_pure ?_)
    simp only [Bool.false_eq_true, if_false]
    refine wpAny_bind (wpAny_mono one (fun r s' z => ?_) fun _ _ e => e)
    obtain ⟨v, rfl, hq⟩ := z
    exact wpAny_pure hq
end
section
variable {X : Cx}
/-- a call of a def from within a builtin -/
theorem run_in1 {k : Nat} {f : Addr} {fd : FuncData} {ps : List Str} {sp : Sp} {pins : List (Addr × Obj)} {σ : L2.St} {H : Hp} {s : Shared} {Q : VK} {us : List Value} {vs : List V} (F : FnOk X.prog X.w X.K X.mg X.base CX0 k f fd ps sp) (hr : Room (k + 1) X.A) (hb : Binds X.K fd ps [])
    (I : Inv X pins σ H s) (r : Vals vs us) (h : sp vs H Q E0) : wpAny (model X.prog X.w) X.A.in1 (call (.ref f) us) (EP X pins σ Q) X.xe s := by
  have hl : us.length = ps.length := by rw [← r.length]; exact F.len _ _ _ _ h
  have b := hb s us I.kIn (by rw [List.append_nil]; exact hl)
  rw [List.append_nil] at b
  refine wpAny_call (codeAny_mono (F.run X.A.in1 X.stack s H ⟨us, []⟩ us vs Q E0 hr.in1 I.env0.in1 b r h) fun r s' hq => ?_)
  cases r with
  | error e => exact pass0 pins σ H s e s' I hq
  | ok fl =>
    cases fl with
    | ret u => exact I.after hq
    | next => exact False.elim hq
    | brk => exact False.elim hq
    | cont => exact False.elim hq
def rNeO (K : PySem.W.Frag) (C : Addr) (sp : Sp) : R2 := fun x y H Q => ∃ a dx fs tb, x = .ref a ∧ H a = some (.ins C dx fs) ∧ TyEq H y tb ∧ PySem.W.notFirst K C tb = true ∧ sp [x, y] H (fun v H' => ∃ b, v = .bl b ∧ Q (.bl (!b)) H') E0
theorem op_neO {n : Nat} {C f : Addr} {fd : FuncData} {ps : List Str} {sp : Sp} (F : FnOk X.prog X.w X.K X.mg X.base CX0 n f fd ps sp) (hne : PySem.W.findIn X.K (.ref C) "__ne__" = some (some (.builtin "object.__ne__"))) (hm : PySem.W.mroIn X.K C (.type "object") = some true)
    (hs : PySem.W.findIn X.K (.ref C) "__eq__" = some (some (.ref f))) (hf : PySem.W.isFn X.K (.ref f) = true) (hb : Binds X.K fd ps []) (hr : Room (n + 1) X.A) :
    OpR X (compareOp .NotEq) (rNeO X.K C sp) := by
  intro pins s σ H x y v u Q I rx ry h
  obtain ⟨a, dx, fs, tb, rfl, ha, ty, nf, q⟩ := h
  cases rx
  obtain ⟨mA, J, _⟩ := ins_get I.hok ha
  obtain ⟨od, J, _⟩ := J.look
  obtain ⟨m, hF⟩ := I.fr
  show wpAny (model X.prog X.w) X.A (richCompare .NotEq (.ref a) u) _ _ _
  refine cmp_neK (tb := tb) hr.in1.units0 hF I.ok.mod.kin J (ty.looks I ry) nf hne hm hs hf ?_
  refine thn (run_in1 (us := [.ref a, u]) (vs := [.ref a, y]) F hr hb I (.cons rfl (.cons ry .nil)) q) fun w s1 z => ?_
  obtain ⟨v1, H1, I1, r1, b, rfl, q1⟩ := z
  cases r1
  exact ⟨b, rfl, .bl (!b), H1, I1, rfl, q1⟩
end
end Oeq

namespace K08
open PySem PySem.Spec PyProof.Rows L2
open Cal EnuT
def top (i : Nat) : Stmt := PySem.Challenge.pw_lightsout_k08_kinds_and_their_texts.main.body.getD i (.Pass ⟨0, 0, 0, 0⟩)
abbrev sIsInt : Stmt := top 1
abbrev sIsNum : Stmt := top 2
abbrev sIsBelow : Stmt := top 3
abbrev sIsSeq : Stmt := top 4
abbrev sIsName : Stmt := top 5
abbrev sFits : Stmt := top 13
abbrev sIsRow : Stmt := top 14
abbrev sWordOf : Stmt := top 15
abbrev sRowOf : Stmt := top 16
abbrev sKind : Stmt := top 17
abbrev sDeal : Stmt := top 19
abbrev sAny : Stmt := top 20
abbrev sOf : Stmt := top 21
abbrev sProgram : Stmt := top 22
abbrev sWrong : Stmt := top 23
abbrev sText : Stmt := top 24
abbrev sBent : Stmt := top 25
abbrev sLaw : Stmt := top 26
/-- a def by its name in the module -/
def Callee (P : Program) (w : World) (K : W.Frag) (mg : Str → Option Value) (base : Heap) (x : Str) (k : Nat) (ps : List Str) (sp : Sp) : Prop :=
  ∃ f fd, mg x = some (.ref f) ∧ W.keepIn K (.ref f) = true ∧ Binds K fd ps [] ∧ FnOk P w K mg base CX0 k f fd ps sp
theorem pe_callee {X : Cx} {x : Str} {k : Nat} {ps : List Str} {sp : Sp} {p pos : Pos} {e : Expr} {es : List Expr} {t : TA} (c : Callee X.prog X.w X.K X.mg X.base x k ps sp) (hr : Room k X.A) (hg : Gl X x) (ha : PA X (e :: es) t)
    (hdb : (x == ("__debug__" : Str)) = false := by decide) (he : starEach (e :: es) X.env = (false, eval e X.env) :: starEach es X.env := by rfl) (hpl : (backTo pos (starEach es X.env)).any (·.1) = false := by rfl) :
    PE X (.Call (.Name x p) (e :: es) [] pos) (tCall sp [] E0 t) := by
  obtain ⟨f, fd, m, kp, b, F⟩ := c
  exact pe_call F hr hg m kp b .nil pass0 ha hdb he hpl
theorem map_eraseIdx {α β : Type} (f : α → β) : ∀ (xs : List α) (j : Nat), (xs.map f).eraseIdx j = (xs.eraseIdx j).map f
  | [], _ => rfl
  | _ :: _, 0 => rfl
  | x :: xs, j + 1 => by simp [map_eraseIdx f xs j]
theorem erase_perm {α : Type} : ∀ (l : List α) (j : Nat) (h : j < l.length), (l[j] :: l.eraseIdx j).Perm l
  | x :: xs, 0, _ => .refl _
  | x :: xs, j + 1, h => by
    have h1 : j < xs.length := by simpa using h
    show (xs[j] :: x :: xs.eraseIdx j).Perm (x :: xs)
    exact (List.Perm.swap x xs[j] _).trans ((erase_perm xs j h1).cons x)
theorem same_upd {H : Hp} {l : Addr} {o : HO} (n : H l = none) : Same H (upd H l o) := fun b u e => by
  rw [upd_ne (ne_of_none e n)]
  exact e
theorem none_of_upd {H : Hp} {a b : Addr} {o : HO} (h : upd H a o b = none) : H b = none ∧ a ≠ b := by
  by_cases z : b = a
  · rw [z, upd_same] at h
    cases h
  · rw [upd_ne z] at h
    exact ⟨h, Ne.symm z⟩


structure Bl (mg : Str → Option Value) : Prop where
  len : mg "len" = none
  abs : mg "abs" = none
  int : mg "int" = none
  range : mg "range" = none
  list : mg "list" = none
  tuple : mg "tuple" = none
  isi : mg "isinstance" = none
  enu : mg "enumerate" = none
  str : mg "str" = none
  bool : mg "bool" = none
  all : mg "all" = none
  repr : mg "repr" = none
theorem kept {σ : L2.St} {H : Hp} {A B : Hp → Prop} (h : A H) : tYes σ H (fun b H3 => if b = true then A H3 else B H3) := by
  show (if true = true then A H else B H)
  rw [if_pos rfl]
  exact h
/-- the deal at p, its great numbers at q -/
structure Deal (H : Hp) (p q : Addr) : Prop where
  ne : p ≠ q
  ex : ∃ (ns : List Int) (b : Int), H p = some (.lst [.ref q, .int b]) ∧ H q = some (.lst (ns.map V.int)) ∧ (∀ n, n ∈ ns → 0 ≤ n) ∧ ns.length ≤ 51 ∧ 0 ≤ b
/-- all but the deal is as it was -/
def But2 (p q : Addr) (H H' : Hp) : Prop := ∀ b o, b ≠ p → b ≠ q → H b = some o → H' b = some o
theorem Deal.same {H H' : Hp} {p q : Addr} (d : Deal H p q) (s : Same H H') : Deal H' p q := by
  obtain ⟨ne, ns, b, hp, hq, r⟩ := d
  exact ⟨ne, ns, b, s _ _ hp, s _ _ hq, r⟩
theorem But2.same {p q : Addr} {H0 H H' : Hp} (b : But2 p q H0 H) (s : Same H H') : But2 p q H0 H' := fun c o n1 n2 e => s _ _ (b c o n1 n2 e)
theorem But2.trans {p q : Addr} {H0 H H' : Hp} (b : But2 p q H0 H) (s : But2 p q H H') : But2 p q H0 H' := fun c o n1 n2 e => s _ _ n1 n2 (b c o n1 n2 e)
theorem But2.upd1 {p q : Addr} {H0 H : Hp} {o : HO} (b : But2 p q H0 H) : But2 p q H0 (upd H p o) := fun c u n1 n2 e => by
  rw [upd_ne n1]
  exact b c u n1 n2 e
theorem But2.upd2 {p q : Addr} {H0 H : Hp} {o : HO} (b : But2 p q H0 H) : But2 p q H0 (upd H q o) := fun c u n1 n2 e => by
  rw [upd_ne n2]
  exact b c u n1 n2 e
def spAny : Sp := fun vs H Q _ => ∃ (p q : Addr) (m : Int), vs = [.ref p, .int m] ∧ Deal H p q ∧ 1 ≤ m ∧ m ≤ 1000 ∧ ∀ (r : Int) H', 0 ≤ r → r < m → But2 p q H H' → Deal H' p q → Q (.int r) H'
def spOf : Sp := fun vs H Q _ => ∃ (p q l : Addr) (xs : List V), vs = [.ref p, .ref l] ∧ Deal H p q ∧ l ≠ p ∧ l ≠ q ∧ H l = some (.lst xs) ∧ 1 ≤ xs.length ∧ xs.length ≤ 1000 ∧ ∀ x H', x ∈ xs → But2 p q H H' → Deal H' p q → Q x H'
/-- no number here is 0 at its end -/
theorem dps_int {K : W.Frag} {H : Hp} : ∀ xs : List Int, DpAll K H (xs.map V.int) (xs.map PyData.int)
  | [] => .nil
  | _ :: xs => .cons (.int _) (dps_int xs)
theorem shaped_ints (xs : List Int) : SeqAt.shaped (.list (xs.map PyData.int)) = true := by
  have h : PyData.canLayAll0 (xs.map PyData.int) = true ∧ PyData.depthAll (xs.map PyData.int) ≤ 1 := by
    induction xs with
    | nil => simp [PyData.canLayAll0, PyData.depthAll]
    | cons x xs ih =>
      simp [PyData.canLayAll0, PyData.canLay0, PyData.depthAll, PyData.depth, ih.1]
      omega
  simp [SeqAt.shaped, PyData.canLay0, PyData.depth, h.1]
  omega
theorem ne_nil (xs : List Int) : (!PyData.eqv (.list (xs.map PyData.int)) (.list [])) = !xs.isEmpty := by cases xs <;> rfl
def lenAt (a : Addr) (H : Hp) : Nat := match H a with
  | some (.lst xs) => xs.length
  | _ => 0
theorem while_by2 {c : TT} {tb : TS} {D : Ends} {σ : L2.St} {H : Hp} (Pv : L2.St → Hp → Prop) (μ : L2.St → Hp → Nat) (h0 : Pv σ H)
    (hs : ∀ σ H, Pv σ H → c σ H fun b H1 => if b = true then tb { nx := fun σ' H' => Pv σ' H' ∧ μ σ' H' < μ σ H, rt := D.rt, bk := D.nx, ct := fun σ' H' => Pv σ' H' ∧ μ σ' H' < μ σ H } σ H1 else Pv σ H1)
    (mono : ∀ σ H (Q Q' : Bool → Hp → Prop), (∀ b H1, Q b H1 → Q' b H1) → c σ H Q → c σ H Q') (hd : ∀ σ H, Pv σ H → D.nx σ H) : tWhile c tb D σ H := by
  refine while_by Pv μ h0 (fun σ H p => mono σ H _ _ (fun b H1 q => ?_) (hs σ H p)) mono
  cases b with
  | true => exact q
  | false => exact hd _ _ q
section
variable {P : Program} {w : World} {K : W.Frag} {mg : Str → Option Value} {base : Heap}
theorem scAny : FnScope ["deal", "bound", "rest"] ["deal", "bound"] (defScope sAny) := ⟨rfl, rfl, rfl, by decide +kernel, rfl, by decide +kernel, by decide +kernel⟩
theorem ok_any {f : Addr} {fd : FuncData} (F : Fun K "_law_draw" "_law_draw" sAny f fd) (B : Bl mg) : FnOk P w K mg base CX0 1 f fd ["deal", "bound"] spAny := by
  refine F.ok scAny (fun vs H Q E h => ?_) (fun cdv A outer s H vs Q E hr h => ?_)
  · obtain ⟨p, q, m, rfl, _⟩ := h
    rfl
  · obtain ⟨p, q, m, rfl, dl, m1, m2, k⟩ := h
    have un := hr.units
    refine ⟨_, pss_cons (ps_while PassesOwn.never (PW.pt (pw_and (pt_cmpR (op_neD un) (pe_ix ix_list (pv 0) pe_int (fun _ _ => rfl)) (pe_lst pa_nil) (nomark _)) (pw_and1 (pt_cmpR op_eq (pe_ix ix_list (pe_ix ix_list (pv 0) pe_int (fun _ _ => rfl)) (pe_un un_neg pe_int) (fun _ _ => rfl)) pe_int (nomark _)))))
        (pss_one (ps_expr (pe_bm0 PySem.F.plainAttrs_list PySem.F.slot_list_pop PySem.F.type_list_pop mt_pop (pe_ix ix_list (pv 0) pe_int (fun _ _ => rfl))))))
      (pss_cons (ps_if (pt_cmpR (op_neD un) (pe_ix ix_list (pv 0) pe_int (fun _ _ => rfl)) (pe_lst pa_nil) (nomark _))
        (pss_cons (ps_set (i := 2) scAny.nd rfl (Or.inl rfl) (pe_bm0 PySem.F.plainAttrs_list PySem.F.slot_list_pop PySem.F.type_list_pop mt_pop (pe_ix ix_list (pv 0) pe_int (fun _ _ => rfl))))
        (pss_cons (ps_expr (pe_bm PySem.F.plainAttrs_list PySem.F.slot_list_append PySem.F.type_list_append mt_append (pe_ix ix_list (pv 0) pe_int (fun _ _ => rfl)) (pa_cons (pe_op op_fdiv (pv 2) (pv 1)) pa_nil)))
        (pss_one (ps_ret (pe_op op_mod (pe_callTy call_int1 (by rfl) B.int (by decide +kernel) (pa_cons (pv 2) pa_nil)) (pv 1)))))) pss_nil)
      (pss_cons (ps_asg (pe_op op_mod (pe_callTy call_int1 (by rfl) B.int (by decide +kernel) (pa_cons (pe_op op_add (pe_op op_mul (pe_ix ix_list (pv 0) pe_int (fun _ _ => rfl)) pe_int) pe_int) pa_nil)) pe_int) (pg_sub (pv 0) pe_int set_list))
      (pss_one (ps_ret (pe_op op_mod (pe_callTy call_int1 (by rfl) B.int (by decide +kernel) (pa_cons (pe_op op_fdiv (pe_ix ix_list (pv 0) pe_int (fun _ _ => rfl)) pe_int) pa_nil)) (pv 1)))))), ?_⟩
    obtain ⟨pq, ns, b, hp, hq, pos, few, b0⟩ : p ≠ q ∧ _ := ⟨dl.ne, dl.ex⟩
    refine while_by2 (fun σ H' => σ = [some (.ref p), some (.int m), none] ∧ But2 p q H H' ∧ Deal H' p q) (fun _ H' => lenAt q H') ⟨rfl, fun _ _ _ _ e => e, dl⟩ ?_ ?_ ?_
    · rintro σ H1 ⟨rfl, b1, pq, ns, b, hp, hq, pos, few, b0⟩
      refine ⟨_, rfl, p, _, _, .ref q, rfl, rfl, SqL.of hp, atI_nat (j := 0) rfl, Nat.zero_le _, fun l nl => ?_⟩
      have s1 : Same H1 (upd H1 l (.lst [])) := same_upd nl
      refine ⟨.list (ns.map PyData.int), .list [], .lst (SqL.of (s1 _ _ hq)) (dps_int ns), .lst (SqL.of upd_same) .nil, shaped_ints ns, rfl, _, rfl, ?_⟩
      rcases List.eq_nil_or_concat ns with rfl | ⟨ms, z, rfl⟩
      · exact iteF ⟨rfl, b1.same s1, pq, [], b, s1 _ _ hp, s1 _ _ hq, pos, few, b0⟩
      · rw [show (!PyData.eqv (.list ((ms.concat z).map PyData.int)) (.list [])) = true by rw [ne_nil]; cases ms <;> rfl]
        have hq' : upd H1 l (.lst []) q = some (.lst (ms.map V.int ++ [.int z])) := by
          rw [s1 _ _ hq, List.concat_eq_append, List.map_append]
          rfl
        refine iteT ⟨_, rfl, p, _, _, .ref q, rfl, rfl, SqL.of (s1 _ _ hp), atI_nat (j := 0) rfl, 1, rfl, q, _, _, .int z, rfl, rfl, SqL.of hq', atI_last _ _, rfl, _, rfl, ?_⟩
        refine ite2 (fun hz => ?_) (fun hz => ?_)
        · refine ⟨_, rfl, p, _, _, .ref q, rfl, rfl, SqL.of (s1 _ _ hp), atI_nat (j := 0) rfl, .inl ⟨rfl, _, SqL.of hq'⟩, q, _, .int z, rfl, rfl, hq', by simp, ?_⟩
          rw [List.dropLast_concat]
          refine ⟨⟨rfl, (b1.same s1).upd2, pq, ms, b, (upd_ne pq).trans (s1 _ _ hp), upd_same, fun n hn => pos n (by simp [hn]), by simp at few; omega, b0⟩, ?_⟩
          show lenAt q _ < lenAt q H1
          have e1 : lenAt q H1 = ms.length + 1 := by
            unfold lenAt
            rw [hq]
            simp
          rw [e1]
          unfold lenAt
          rw [upd_same]
          simp
        · exact ⟨rfl, b1.same s1, pq, ms.concat z, b, s1 _ _ hp, s1 _ _ hq, pos, few, b0⟩
    · rintro σ H1 Q1 Q2 m ⟨v0, hv0, p1, xs1, i1, v1, e1, e2, sq1, at1, zl, h2⟩
      refine ⟨v0, hv0, p1, xs1, i1, v1, e1, e2, sq1, at1, zl, fun l nl => ?_⟩
      obtain ⟨d, e, a1, a2, a3, a4, c, hc, q⟩ := h2 l nl
      refine ⟨d, e, a1, a2, a3, a4, c, hc, ?_⟩
      revert q
      cases c with
      | false => exact fun q => iteF (m _ _ q)
      | true =>
        intro q
        obtain ⟨v2, hv2, p2, xs2, i2, v3, e3, e4, sq2, at2, j, ej, p3, xs3, i3, v4, e5, e6, sq3, at3, hsc, c2, hc2, q⟩ := q
        exact iteT ⟨v2, hv2, p2, xs2, i2, v3, e3, e4, sq2, at2, j, ej, p3, xs3, i3, v4, e5, e6, sq3, at3, hsc, c2, hc2, m _ _ q⟩
    · rintro σ H1 ⟨rfl, b1, pq, ns, b, hp, hq, pos, few, b0⟩
      refine ⟨_, rfl, p, _, _, .ref q, rfl, rfl, SqL.of hp, atI_nat (j := 0) rfl, Nat.zero_le _, fun l nl => ?_⟩
      have s1 : Same H1 (upd H1 l (.lst [])) := same_upd nl
      refine ⟨.list (ns.map PyData.int), .list [], .lst (SqL.of (s1 _ _ hq)) (dps_int ns), .lst (SqL.of upd_same) .nil, shaped_ints ns, rfl, _, rfl, ?_⟩
      rcases List.eq_nil_or_concat ns with rfl | ⟨ms, z, rfl⟩
      · refine iteF ?_
        have hp1 := s1 _ _ hp
        refine ⟨_, rfl, p, _, _, .int b, rfl, rfl, SqL.of hp1, atI_nat (j := 1) rfl, _, _, rfl, rfl, .inr ⟨by decide, by decide⟩, _, _, rfl, rfl, .inl ⟨_, rfl, _, _, rfl, rfl, by show (0 : Int) < 2147483647; decide, ?_⟩⟩
        refine ⟨_, rfl, p, _, _, 1, rfl, rfl, hp1, rfl, ?_⟩
        refine ⟨_, rfl, p, _, _, .int _, rfl, rfl, SqL.of upd_same, atI_nat (j := 1) rfl, _, _, rfl, rfl, ⟨by decide, by decide⟩, .inl ⟨_, rfl, _, rfl, _, _, rfl, rfl, by show 0 < m; omega, ?_⟩⟩
        refine k _ _ (Int.emod_nonneg _ (by omega)) (Int.emod_lt_of_pos _ (by omega)) (b1.same s1).upd1 ⟨pq, [], _, upd_same, ?_, fun _ z => (nomatch z), by decide, ?_⟩
        · rw [upd_ne (Ne.symm pq)]
          exact s1 _ _ hq
        · exact Int.emod_nonneg _ (by decide)
      · rw [show (!PyData.eqv (.list ((ms.concat z).map PyData.int)) (.list [])) = true by rw [ne_nil]; cases ms <;> rfl]
        have hq' : upd H1 l (.lst []) q = some (.lst (ms.map V.int ++ [.int z])) := by
          rw [s1 _ _ hq, List.concat_eq_append, List.map_append]
          rfl
        have hp1 := s1 _ _ hp
        have z0 : 0 ≤ z := pos z (by simp)
        refine iteT ⟨_, rfl, p, _, _, .ref q, rfl, rfl, SqL.of hp1, atI_nat (j := 0) rfl, .inl ⟨rfl, _, SqL.of hq'⟩, q, _, .int z, rfl, rfl, hq', by simp, ?_⟩
        rw [List.dropLast_concat]
        have hp2 : upd (upd H1 l (.lst [])) q (.lst (ms.map V.int)) p = some (.lst [.ref q, .int b]) := (upd_ne pq).trans hp1
        refine ⟨_, rfl, p, _, _, .ref q, rfl, rfl, SqL.of hp2, atI_nat (j := 0) rfl, .inl ⟨rfl, _, SqL.of upd_same⟩, _, rfl, _, rfl, _, _, rfl, rfl, ⟨by show 0 < m; omega, by show m < 1073741824; omega⟩, q, _, _, rfl, rfl, upd_same, ?_, ?_⟩
        · have : (100 : Nat) ≤ sizeLine := by decide
          rw [List.length_map]
          simp at few
          omega
        · refine ⟨_, rfl, .inl ⟨_, rfl, _, rfl, _, _, rfl, rfl, by show 0 < m; omega, ?_⟩⟩
          refine k _ _ (Int.emod_nonneg _ (by omega)) (Int.emod_lt_of_pos _ (by omega)) (b1.same s1).upd2.upd2 ⟨pq, ms ++ [z / m], b, (upd_ne pq).trans hp2, ?_, ?_, ?_, b0⟩
          · rw [upd_same, List.map_append]
            rfl
          · intro n hn
            rcases List.mem_append.mp hn with y | y
            · exact pos n (by simp [y])
            · obtain rfl := List.mem_singleton.mp y
              exact Int.ediv_nonneg z0 (by omega)
          · simp at few ⊢
            omega
theorem scOf : FnScope ["deal", "some"] ["deal", "some"] (defScope sOf) := ⟨rfl, rfl, rfl, by decide +kernel, rfl, by decide +kernel, by decide +kernel⟩
theorem ok_of {f : Addr} {fd : FuncData} (F : Fun K "_law_pick" "_law_pick" sOf f fd) (B : Bl mg) (An : Callee P w K mg base "_law_draw" 1 ["deal", "bound"] spAny) : FnOk P w K mg base CX0 2 f fd ["deal", "some"] spOf := by
  refine F.ok scOf (fun vs H Q E h => ?_) (fun cdv A outer s H vs Q E hr h => ?_)
  · obtain ⟨p, q, l, xs, rfl, _⟩ := h
    rfl
  · obtain ⟨p, q, l, xs, rfl, dl, lp, lq, hl, l1, l2, k⟩ := h
    refine ⟨_, pss_one (ps_ret (pe_ix ix_list (pv 1) (pe_callee An hr rfl (pa_cons (pv 0) (pa_cons (pe_callB call_len_seq (by rfl) B.len PySem.boot_len (pa_cons (pv 1) pa_nil)) pa_nil))) (fun _ _ => rfl))), ?_⟩
    refine ⟨_, rfl, _, rfl, _, rfl, l, _, rfl, .inl (SqL.of hl), p, q, _, rfl, dl, by omega, by omega, fun r H' r0 r1 but dl' => ?_⟩
    obtain ⟨j, rfl⟩ : ∃ j : Nat, r = (j : Int) := ⟨r.toNat, by omega⟩
    have hj : j < xs.length := by omega
    exact ⟨l, xs, _, xs[j], rfl, rfl, SqL.of (but _ _ lp lq hl), atI_nat (by simp [hj]), k _ _ (List.getElem_mem hj) but dl'⟩
end
end K08

namespace K08
open PySem PySem.Spec PyProof.Rows L2
open Cal EnuT

def spDealt (K : W.Frag) : Sp := fun vs H Q _ => ∃ (a : Addr) (ns : List Int), vs = [.ref a, .int 0] ∧ SqL K H a (ns.map V.int) ∧ ns.length ≤ 63 ∧ ∀ H' p q, Same H H' → H p = none → H q = none → Deal H' p q → Q (.ref p) H'
/-- the numbers that count, as they are, and the great ones -/
def great (ns : List Int) : List Int := ns.filter fun n => decide ((10 : Int) ^ (18 : Int).toNat ≤ n)
theorem cut_most (xs : List V) : (cutV xs (some 0) (some 51)).length ≤ 51 ∧ ∀ x, x ∈ cutV xs (some 0) (some 51) → x ∈ xs := by
  refine ⟨?_, fun x hx => List.mem_of_mem_drop (List.mem_of_mem_take hx)⟩
  unfold cutV HT.sIx
  simp only []
  rw [if_neg (by decide), List.length_take]
  have : min (51 : Int).toNat xs.length ≤ 51 := Nat.min_le_left _ _
  omega
section
variable {P : Program} {w : World} {K : W.Frag} {mg : Str → Option Value} {base : Heap}
theorem scDt : FnScope ["script", "base", "cell", "cells", "blend"] ["script", "base"] (defScope sDeal) := ⟨rfl, rfl, rfl, by decide +kernel, rfl, by decide +kernel, by decide +kernel⟩
theorem ok_dealt {f : Addr} {fd : FuncData} (F : Fun K "_law_deal" "_law_deal" sDeal f fd) (B : Bl mg) : FnOk P w K mg base CX0 1 f fd ["script", "base"] (spDealt K) := by
  refine F.ok scDt (fun vs H Q E h => ?_) (fun cdv A outer s H vs Q E hr h => ?_)
  · obtain ⟨a, ns, rfl, _⟩ := h
    rfl
  · obtain ⟨a, ns, rfl, sq, few, k⟩ := h
    refine ⟨_, pss_cons (ps_setLc (i := 3) (own := [("cell", 2)]) (g := gName 2) (tt := tYes) (by rfl) scDt.nd rfl rfl (sw_true rfl rfl rfl (by decide +kernel)) (pi_list (pe_slice sl_list (pv 0) (po_some (pv 1)) (po_some pe_int)))
        (blkOk_by (own := [("cell", 2)]) (N := ["script", "base", "cell", "cells", "blend"]) (sc := defScope sDeal) (by decide +kernel))
        (fun _ _ _ _ _ => pg_name (i := 2) scDt.nd rfl (Or.inl rfl)) (fun _ _ _ _ _ => pts_nil)
        (fun _ _ _ _ _ => pe_callB call_abs (by rfl) B.abs (by decide +kernel) (pa_cons (pv 2) pa_nil)))
      (pss_cons (ps_set (i := 4) scDt.nd rfl (Or.inl rfl) (pe_op op_add pe_int (pe_op op_mul pe_int (pv 1))))
      (pss_cons (ps_for PassesOwn.never rfl (pi_list (pv 3)) (pg_name (i := 2) scDt.nd rfl (Or.inl rfl))
        (pss_one (ps_set (i := 4) scDt.nd rfl (Or.inl rfl) (pe_op op_mod (pe_callTy call_int1 (by rfl) B.int (by decide +kernel) (pa_cons (pe_op op_add (pe_op op_add (pe_op op_mul (pv 4) pe_int) (pe_op op_mod (pe_callTy call_int1 (by rfl) B.int (by decide +kernel) (pa_cons (pv 2) pa_nil)) pe_int)) pe_int) pa_nil)) pe_int))))
      (pss_one (ps_ret (pe_lst (pa_cons (pe_revL (pe_lc (own := [("cell", 2)]) (g := gName 2) (by rfl) scDt.nd (pi_list (pv 3))
        (blkOk_by (own := [("cell", 2)]) (N := ["script", "base", "cell", "cells", "blend"]) (sc := defScope sDeal) (by decide +kernel))
        (fun _ _ _ _ _ => pg_name (i := 2) scDt.nd rfl (Or.inl rfl)) (fun _ _ _ _ _ => pts_one (pt_cmpR op_ge (pv 2) (pe_op op_pow pe_int pe_int) (nomark _)))
        (fun _ _ _ _ _ => pv 2))) (pa_cons (pv 4) pa_nil))))))), ?_⟩
    refine ⟨_, rfl, _, rfl, _, rfl, _, rfl, a, _, rfl, sq, fun l nl => ?_⟩
    obtain ⟨cs, hcs, c48⟩ : ∃ cs : List Int, cutV (ns.map V.int) (some 0) (some 51) = cs.map V.int ∧ cs.length ≤ 51 := by
      obtain ⟨l48, mem⟩ := cut_most (ns.map V.int)
      have all : ∀ xs : List V, (∀ x, x ∈ xs → x ∈ ns.map V.int) → ∃ cs : List Int, xs = cs.map V.int := by
        intro xs
        induction xs with
        | nil => exact fun _ => ⟨[], rfl⟩
        | cons x xs ih =>
          intro h
          obtain ⟨cs, rfl⟩ := ih fun y hy => h y (List.mem_cons_of_mem _ hy)
          obtain ⟨n, _, rfl⟩ := List.mem_map.mp (h x (List.mem_cons_self ..))
          exact ⟨n :: cs, rfl⟩
      obtain ⟨cs, e⟩ := all _ mem
      rw [e, List.length_map] at l48
      exact ⟨cs, e, l48⟩
    rw [hcs]
    have s0 := same_upd (o := .lst (cs.map V.int)) nl
    have line : (100 : Nat) ≤ sizeLine := by decide
    refine ⟨l, rfl, ⟨_, SqL.of upd_same⟩, fun D nD => ?_⟩
    obtain ⟨nD0, lD⟩ := none_of_upd nD
    refine lc_list (xs := cs.map V.int) (fun i H' => Same (upd H l (.lst (cs.map V.int))) H' ∧ ∃ ds : List Int, H' D = some (.lst (ds.map V.int)) ∧ ds.length = i ∧ ∀ n, n ∈ ds → 0 ≤ n) ⟨same_upd nD, [], upd_same, rfl, fun _ z => (nomatch z)⟩
      (fun i H' _ z => SqL.of (z.1 _ _ upd_same)) ?_ ?_
    · rintro i x H1 hx ⟨s1, ds, at_D, ld, pos⟩
      obtain ⟨hi, rfl⟩ := List.getElem?_eq_some_iff.mp hx
      rw [List.length_map] at hi
      refine ⟨rfl, kept ⟨_, rfl, cs[i], by rw [List.getElem_map], _, at_D, by rw [List.length_map]; omega, fun b o e => ?_, ds ++ [if cs[i] < 0 then -cs[i] else cs[i]], ?_, ?_, ?_⟩⟩
      · by_cases hb : b = D
        · rw [hb, nD] at e
          cases e
        · rw [upd_ne hb]
          exact s1 _ _ e
      · rw [upd_same, List.map_append]
        rfl
      · rw [List.length_append, ld]
        rfl
      · intro n hn
        rcases List.mem_append.mp hn with z | z
        · exact pos n z
        · obtain rfl := List.mem_singleton.mp z
          split <;> omega
    · rintro H1 ⟨s1, ds, at_D, ld, pos⟩
      rw [List.length_map] at ld
      have sm1 := s0.trans s1
      refine ⟨_, rfl, _, _, rfl, rfl, .inr ⟨by decide, by decide⟩, _, _, rfl, rfl, ?_⟩
      refine ⟨_, rfl, D, rfl, ⟨_, SqL.of at_D⟩, for_list (xs := ds.map V.int) (fun i σ H' => ∃ (v2 : Option V) (b : Int), σ = [some (.ref a), some (.int 0), v2, some (.ref D), some (.int b)] ∧ H' = H1 ∧ 0 ≤ b ∧ b < 10000000000)
        ⟨_, _, rfl, rfl, by decide, by decide⟩ (fun i σ H' _ z => ?_) ?_ ?_⟩
      · obtain ⟨_, _, _, rfl, _⟩ := z
        exact SqL.of at_D
      · rintro i x σ H' hx ⟨v2, b, rfl, rfl, b0, b1⟩
        obtain ⟨hi, rfl⟩ := List.getElem?_eq_some_iff.mp hx
        rw [List.length_map] at hi
        refine ⟨_, rfl, _, _, rfl, rfl, .inl ⟨by omega, by omega⟩, _, rfl, .inl ⟨ds[i], by rw [List.getElem_map], _, _, rfl, rfl, by show (0 : Int) < 2147483549; decide, _, _, rfl, rfl, _, _, rfl, rfl, .inl ⟨_, rfl, _, _, rfl, rfl, by show (0 : Int) < 2147483647; decide, ?_⟩⟩⟩
        refine ⟨_, _, rfl, rfl, Int.emod_nonneg _ (by decide), ?_⟩
        have := Int.emod_lt_of_pos (b * 40693 + ds[i] % 2147483549 + 43) (show (0 : Int) < 2147483647 by decide)
        omega
      · rintro σ H' ⟨v2, b, rfl, rfl, b0, b1⟩
        refine ⟨_, rfl, D, rfl, ⟨_, SqL.of at_D⟩, fun E1 nE => ?_⟩
        refine lc_list (xs := ds.map V.int) (fun i H2 => Same H' H2 ∧ ∃ es : List Int, H2 E1 = some (.lst (es.map V.int)) ∧ es.length ≤ i ∧ ∀ n, n ∈ es → 0 ≤ n) ⟨same_upd nE, [], upd_same, Nat.le_refl _, fun _ z => (nomatch z)⟩
          (fun i H2 _ z => SqL.of (z.1 _ _ at_D)) ?_ ?_
        · rintro i x H2 hx ⟨s2, es, at_E, le, pe⟩
          obtain ⟨hi, rfl⟩ := List.getElem?_eq_some_iff.mp hx
          rw [List.length_map] at hi
          refine ⟨rfl, _, rfl, _, _, rfl, rfl, ⟨by decide, by decide, by decide⟩, ds[i], _, by rw [List.getElem_map], rfl, _, rfl, ?_⟩
          refine ite2 (fun hb => ?_) (fun hb => ?_)
          · refine ⟨_, rfl, _, at_E, by rw [List.length_map]; omega, fun b o e => ?_, es ++ [ds[i]], ?_, ?_, ?_⟩
            · rw [upd_ne (ne_of_none e nE)]
              exact s2 _ _ e
            · rw [upd_same, List.map_append, List.getElem_map]
              rfl
            · rw [List.length_append]
              show es.length + 1 ≤ _
              omega
            · intro n hn
              rcases List.mem_append.mp hn with z | z
              · exact pe n z
              · obtain rfl := List.mem_singleton.mp z
                exact pos _ (List.getElem_mem hi)
          · exact ⟨s2, es, at_E, Nat.le_succ_of_le le, pe⟩
        · rintro H2 ⟨s2, es, at_E, le, pe⟩
          rw [List.length_map] at le
          refine ⟨E1, _, rfl, SqL.of at_E, fun q nq => ⟨_, rfl, by show 2 ≤ sizeLine; decide, fun p np => ?_⟩⟩
          obtain ⟨np0, qp⟩ := none_of_upd np
          have s3 := same_upd (o := .lst (es.map V.int).reverse) nq
          have s4 := same_upd (o := .lst [.ref q, .int b]) np
          have all := ((sm1.trans s2).trans s3).trans s4
          refine k _ p q all ((sm1.trans s2).free np0) ((sm1.trans s2).free nq) ⟨Ne.symm qp, es.reverse, b, upd_same, ?_, fun n hn => pe n (List.mem_reverse.mp hn), by rw [List.length_reverse]; omega, b0⟩
          rw [s4 _ _ upd_same, List.map_reverse]
end
end K08

namespace K08
open PySem PySem.Spec PyProof.Rows L2
open Cal EnuT

/-! ### what a value is -/
def seqOf (H : Hp) : V → Option (List V)
  | .ref a => match H a with
    | some (.tup xs) => some xs
    | some (.lst xs) => some xs
    | _ => none
  | _ => none
def isStr : V → Bool
  | .str _ => true
  | _ => false
inductive OkV (H : Hp) : V → Prop
  | non : OkV H .non
  | bl (b : Bool) : OkV H (.bl b)
  | int (i : Int) : OkV H (.int i)
  | str (s : Str) : OkV H (.str s)
  | lst {a : Addr} {xs : List V} (h : H a = some (.lst xs)) : OkV H (.ref a)
  | tup {a : Addr} {xs : List V} (h : H a = some (.tup xs)) : OkV H (.ref a)
theorem seqOf_tup {H : Hp} {a : Addr} {xs : List V} (h : H a = some (.tup xs)) : seqOf H (.ref a) = some xs := by simp only [seqOf, h]
theorem seqOf_lst {H : Hp} {a : Addr} {xs : List V} (h : H a = some (.lst xs)) : seqOf H (.ref a) = some xs := by simp only [seqOf, h]
theorem OkV.same {H H' : Hp} (s : Same H H') {v : V} (o : OkV H v) : OkV H' v := by
  cases o with
  | non => exact .non
  | bl b => exact .bl b
  | int i => exact .int i
  | str x => exact .str x
  | lst h => exact .lst (s _ _ h)
  | tup h => exact .tup (s _ _ h)
theorem OkV.seq_same {H H' : Hp} (s : Same H H') {v : V} (o : OkV H v) : seqOf H' v = seqOf H v := by
  cases o with
  | non => rfl
  | bl b => rfl
  | int i => rfl
  | str x => rfl
  | lst h => rw [seqOf_lst h, seqOf_lst (s _ _ h)]
  | tup h => rw [seqOf_tup h, seqOf_tup (s _ _ h)]
theorem any_ty {K : W.Frag} {t : String} {a b : Bool} (h1 : kitB t "list" = some a) (h2 : kitB t "tuple" = some b) : W.kitAny K (.type t) [.type "list", .type "tuple"] = some (a || b) := by
  cases a <;> cases b <;> simp [W.kitAny, kit_ty h1, kit_ty h2]
def isIB : V → Bool
  | .int _ => true
  | .bl _ => true
  | _ => false
def isBl : V → Bool
  | .bl _ => true
  | _ => false
def isI : V → Bool
  | .int _ => true
  | _ => false
theorem OkV.ty {K : W.Frag} {H : Hp} {v : V} (o : OkV H v) : ∃ t, TyX K H v t ∧ W.kitAny K t [.type "list", .type "tuple"] = some (seqOf H v).isSome ∧ W.kitOne K t (.type "str") = some (isStr v) ∧ W.kitOne K t (.type "int") = some (isIB v) ∧ W.kitOne K t (.type "bool") = some (isBl v) := by
  cases o with
  | non => exact ⟨_, .base .non, any_ty (show kitB "NoneType" "list" = some false by decide +kernel) (show kitB "NoneType" "tuple" = some false by decide +kernel), kit_ty (show kitB "NoneType" "str" = some false by decide +kernel), kit_ty (show kitB "NoneType" "int" = some false by decide +kernel), kit_ty (show kitB "NoneType" "bool" = some false by decide +kernel)⟩
  | bl b => exact ⟨_, .base (.bl b), any_ty (show kitB "bool" "list" = some false by decide +kernel) (show kitB "bool" "tuple" = some false by decide +kernel), kit_ty (show kitB "bool" "str" = some false by decide +kernel), kit_ty (show kitB "bool" "int" = some true by decide +kernel), kit_ty (show kitB "bool" "bool" = some true by decide +kernel)⟩
  | int i => exact ⟨_, .base (.int i), any_ty (show kitB "int" "list" = some false by decide +kernel) (show kitB "int" "tuple" = some false by decide +kernel), kit_ty (show kitB "int" "str" = some false by decide +kernel), kit_ty (show kitB "int" "int" = some true by decide +kernel), kit_ty (show kitB "int" "bool" = some false by decide +kernel)⟩
  | str x => exact ⟨_, .base (.str x), any_ty (show kitB "str" "list" = some false by decide +kernel) (show kitB "str" "tuple" = some false by decide +kernel), kit_ty (show kitB "str" "str" = some true by decide +kernel), kit_ty (show kitB "str" "int" = some false by decide +kernel), kit_ty (show kitB "str" "bool" = some false by decide +kernel)⟩
  | lst h => exact ⟨_, .base (.lst h), by rw [seqOf_lst h]; exact any_ty (show kitB "list" "list" = some true by decide +kernel) (show kitB "list" "tuple" = some false by decide +kernel), kit_ty (show kitB "list" "str" = some false by decide +kernel), kit_ty (show kitB "list" "int" = some false by decide +kernel), kit_ty (show kitB "list" "bool" = some false by decide +kernel)⟩
  | tup h => exact ⟨_, .base (.tup h), by rw [seqOf_tup h]; exact any_ty (show kitB "tuple" "list" = some false by decide +kernel) (show kitB "tuple" "tuple" = some true by decide +kernel), kit_ty (show kitB "tuple" "str" = some false by decide +kernel), kit_ty (show kitB "tuple" "int" = some false by decide +kernel), kit_ty (show kitB "tuple" "bool" = some false by decide +kernel)⟩
def signOk (c : Nat) : Bool := (!decide (([c] : List Nat) < ("a" : Str).cps.toList)) && !decide (("z" : Str).cps.toList < [c])
def nameOk (s : Str) : Bool := decide (1 ≤ s.length) && decide (s.length ≤ 8) && decide (s ≠ "out") && s.cps.toList.all signOk
def nmB : V → Bool
  | .str s => nameOk s
  | _ => false
def spSeq : Sp := fun vs H Q _ => ∃ v, vs = [v] ∧ OkV H v ∧ ∀ H', Same H H' → Q (.bl (seqOf H v).isSome) H'
def spName : Sp := fun vs H Q _ => ∃ v, vs = [v] ∧ OkV H v ∧ (∀ s, v = .str s → s.length ≤ 1000) ∧ ∀ H', Same H H' → Q (.bl (nmB v)) H'
section
variable {P : Program} {w : World} {K : W.Frag} {mg : Str → Option Value} {base : Heap}
theorem scSq : FnScope ["value"] ["value"] (defScope sIsSeq) := ⟨rfl, rfl, rfl, by decide +kernel, rfl, by decide +kernel, by decide +kernel⟩
theorem ok_isseq {f : Addr} {fd : FuncData} (F : Fun K "is_sequence" "is_sequence" sIsSeq f fd) (B : Bl mg) : FnOk P w K mg base CX0 1 f fd ["value"] spSeq := by
  refine F.ok scSq (fun vs H Q E h => ?_) (fun cdv A outer s H vs Q E hr h => ?_)
  · obtain ⟨a, rfl, _⟩ := h
    rfl
  · obtain ⟨v, rfl, o, k⟩ := h
    refine ⟨_, pss_one (ps_ret (pe_callB call_isiT (by rfl) B.isi (by decide +kernel) (pa_cons (pv 0) (pa_cons (pe_tup (pa_cons (pe_bltn (v := .ty "list") rfl B.list (by decide +kernel) rfl) (pa_cons (pe_bltn (v := .ty "tuple") rfl B.tuple (by decide +kernel) rfl) pa_nil))) pa_nil)))), ?_⟩
    refine ⟨_, rfl, by show 2 ≤ sizeLine; decide, fun t nt => ?_⟩
    have s1 := same_upd (o := .tup [.ty "list", .ty "tuple"]) nt
    obtain ⟨ty, h1, h2, _, _, _⟩ := (o.same s1).ty (K := K)
    rw [o.seq_same s1] at h2
    exact ⟨_, t, _, _, _, _, rfl, upd_same, .cons (.ty "list") (.cons (.ty "tuple") .nil), h1, h2, k _ s1⟩
theorem scNm : FnScope ["value", "sign"] ["value"] (defScope sIsName) := ⟨rfl, rfl, rfl, by decide +kernel, rfl, by decide +kernel, by decide +kernel⟩
theorem ok_isname {f : Addr} {fd : FuncData} (F : Fun K "is_name" "is_name" sIsName f fd) (B : Bl mg) : FnOk P w K mg base CX0 1 f fd ["value"] spName := by
  refine F.ok scNm (fun vs H Q E h => ?_) (fun cdv A outer s H vs Q E hr h => ?_)
  · obtain ⟨v, rfl, _⟩ := h
    rfl
  · obtain ⟨v, rfl, o, few, k⟩ := h
    obtain ⟨ty, h1, _, h3, _, _⟩ := o.ty (K := K)
    refine ⟨_, pss_cons (ps_if (PW.pt (pw_or (pt_not (pt_val (pe_callB call_isi (by rfl) B.isi (by decide +kernel) (pa_cons (pv 0) (pa_cons (pe_bltn (v := .ty "str") rfl B.str (by decide +kernel) rfl) pa_nil)))))
        (pw_or (pt_not (pt_chain op_le op_le pe_int (pe_callB call_len_str (by rfl) B.len PySem.boot_len (pa_cons (pv 0) pa_nil)) pe_int)) (pw_or1 (pt_cmpR op_eq (pv 0) pe_str (nomark _)))))) (pss_one (ps_ret pe_bl)) pss_nil)
      (pss_one (ps_ret (pe_callB (cr_all rfl) (by rfl) B.all (by decide +kernel) (pa_cons (pe_lc (own := [("sign", 1)]) (g := gName 1) (tt := tYes) (by rfl) scNm.nd (pi_str (pv 0))
        (blkOk_by (own := [("sign", 1)]) (N := ["value", "sign"]) (sc := defScope sIsName) (by decide +kernel))
        (fun _ _ _ _ _ => pg_name (i := 1) scNm.nd rfl (Or.inl rfl)) (fun _ _ _ _ _ => pts_nil)
        (fun _ _ _ _ _ => pe_chain op_le_str op_le_str pe_str (pv 1) pe_str)) pa_nil)))), ?_⟩
    refine ⟨_, rfl, _, _, _, _, _, rfl, .ty "str", h1, h3, _, rfl, ?_⟩
    cases es : isStr v with
    | false =>
      refine iteT (iteT ?_)
      have : nmB v = false := by cases v <;> first | rfl | (cases es)
      have q := k H (Same.refl _)
      rw [this] at q
      exact q
    | true =>
      obtain ⟨z, rfl⟩ : ∃ z, v = .str z := by cases v <;> first | exact ⟨_, rfl⟩ | (cases es)
      have line : (1000 : Nat) ≤ sizeLine := by decide
      have zf := few z rfl
      have no : nameOk z = false → Q (.bl false) H := fun e => by
        have q := k H (Same.refl _)
        rwa [show nmB (.str z) = nameOk z from rfl, e] at q
      refine iteF ⟨_, rfl, z, rfl, Nat.le_trans zf line, 1, _, rfl, rfl, _, rfl, ?_⟩
      by_cases z1 : 1 ≤ z.length
      · rw [decide_eq_true (show (1 : Int) ≤ (z.length : Nat) by omega)]
        refine iteT ⟨_, 8, rfl, rfl, _, rfl, ?_⟩
        by_cases z8 : z.length ≤ 8
        · rw [decide_eq_true (show ((z.length : Nat) : Int) ≤ 8 by omega)]
          refine iteF ⟨_, rfl, rfl, _, rfl, ?_⟩
          by_cases zo : z = "out"
          · rw [decide_eq_true (by rw [zo])]
            exact iteT (no (by simp [nameOk, zo]))
          · rw [decide_eq_false (fun y => zo (by injection y))]
            refine iteF ⟨_, rfl, z, rfl, fun D nD => ?_⟩
            refine lc_it walk_str (fun i H' => Same H H' ∧ H' D = some (.lst (((z.cps.toList.take i).map signOk).map V.bl))) ⟨same_upd nD, upd_same⟩ (fun _ _ _ _ => trivial) ?_ ?_
            · rintro i x H1 H1' hi ⟨s1, at_D⟩ ⟨rfl, c, hc, rfl⟩
              have hl : i < 8 := by
                have : z.length = z.cps.size := rfl
                omega
              have next : ∀ b, b = signOk c → Same H (upd H1' D (.lst (((z.cps.toList.take i).map signOk).map V.bl ++ [.bl b]))) ∧ upd H1' D (.lst (((z.cps.toList.take i).map signOk).map V.bl ++ [.bl b])) D = some (.lst (((z.cps.toList.take (i + 1)).map signOk).map V.bl)) := fun b hb => by
                refine ⟨fun a o e => ?_, ?_⟩
                · by_cases ha : a = D
                  · rw [ha, nD] at e
                    cases e
                  · rw [upd_ne ha]
                    exact s1 _ _ e
                · obtain ⟨lt, e⟩ := Array.getElem?_eq_some_iff.mp hc
                  have lt' : i < z.cps.toList.length := by simpa using lt
                  have e' : z.cps.toList[i] = c := by simpa using e
                  rw [upd_same, List.take_succ_eq_append_getElem lt', e', List.map_append, List.map_append, hb]
                  rfl
              have fw : (((z.cps.toList.take i).map signOk).map V.bl).length < sizeLine := by
                rw [List.length_map, List.length_map, List.length_take]
                omega
              refine ⟨rfl, kept ⟨_, rfl, _, _, rfl, rfl, _, rfl, ?_⟩⟩
              show ite ((!decide (([c] : List Nat) < ("a" : Str).cps.toList)) = true) _ _
              refine ite2 (fun h1 => ?_) (fun h1 => ?_)
              · refine ⟨_, _, rfl, rfl, _, at_D, fw, next _ ?_⟩
                show (!decide (("z" : Str).cps.toList < [c])) = signOk c
                unfold signOk
                rw [h1, Bool.true_and]
              · refine ⟨_, at_D, fw, next false ?_⟩
                unfold signOk
                cases h : (!decide (([c] : List Nat) < ("a" : Str).cps.toList)) with
                | false => rfl
                | true => exact absurd h h1
            · rintro H1 ⟨s1, at_D⟩
              rw [show z.cps.size = z.cps.toList.length by simp, List.take_length] at at_D
              refine ⟨D, _, rfl, SqL.of at_D, ?_⟩
              have q := k _ s1
              rw [show nmB (.str z) = nameOk z from rfl] at q
              have e : nameOk z = (z.cps.toList.map signOk).all id := by
                rw [List.all_map]
                simp [nameOk, z1, z8, zo]
              rwa [e] at q
        · rw [decide_eq_false (show ¬ ((z.length : Nat) : Int) ≤ 8 by omega)]
          exact iteT (no (by simp [nameOk, z8]))
      · rw [decide_eq_false (show ¬ (1 : Int) ≤ (z.length : Nat) by omega)]
        exact iteF ⟨_, rfl, iteT (no (by simp [nameOk, z1]))⟩
/-! ### whole numbers -/
def spIsInt : Sp := fun vs H Q _ => ∃ v, vs = [v] ∧ OkV H v ∧ Q (.bl (isI v)) H
def numB : V → Bool
  | .int i => decide (0 ≤ i)
  | _ => false
def spIsNum : Sp := fun vs H Q _ => ∃ v, vs = [v] ∧ OkV H v ∧ Q (.bl (numB v)) H
def belowB (m : Int) : V → Bool
  | .int i => decide (0 ≤ i) && decide (i < m)
  | _ => false
def spBelow : Sp := fun vs H Q _ => ∃ v m, vs = [v, .int m] ∧ OkV H v ∧ Q (.bl (belowB m v)) H
theorem scII : FnScope ["value"] ["value"] (defScope sIsInt) := ⟨rfl, rfl, rfl, by decide +kernel, rfl, by decide +kernel, by decide +kernel⟩
theorem ok_isint {f : Addr} {fd : FuncData} (F : Fun K "is_integer" "is_integer" sIsInt f fd) (B : Bl mg) : FnOk P w K mg base CX0 1 f fd ["value"] spIsInt := by
  refine F.ok scII (fun vs H Q E h => ?_) (fun cdv A outer s H vs Q E hr h => ?_)
  · obtain ⟨v, rfl, _⟩ := h
    rfl
  · obtain ⟨v, rfl, o, k⟩ := h
    obtain ⟨t, ty, _, _, k3, k2⟩ := o.ty (K := K)
    refine ⟨_, pss_one (ps_ret (pe_and (pe_callB call_isi (by rfl) B.isi (by decide +kernel) (pa_cons (pv 0) (pa_cons (pe_bltn (v := .ty "int") rfl B.int (by decide +kernel) rfl) pa_nil)))
      (pe_one (pe_not (pe_callB call_isi (by rfl) B.isi (by decide +kernel) (pa_cons (pv 0) (pa_cons (pe_bltn (v := .ty "bool") rfl B.bool (by decide +kernel) rfl) pa_nil))))))), ?_⟩
    refine ⟨_, rfl, v, _, t, _, _, rfl, .ty "int", ty, k3, _, rfl, ?_⟩
    refine ite2 (fun hb => ?_) (fun hb => ?_)
    · refine ⟨_, rfl, v, _, t, _, _, rfl, .ty "bool", ty, k2, _, rfl, ?_⟩
      have : (!isBl v) = isI v := by cases v <;> first | rfl | (simp [isIB, isBl, isI] at hb)
      rw [this]
      exact k
    · have : false = isI v := by
        cases v <;> first | rfl | (simp [isIB, isBl, isI] at hb)
      rw [this]
      exact k
theorem scIN : FnScope ["value"] ["value"] (defScope sIsNum) := ⟨rfl, rfl, rfl, by decide +kernel, rfl, by decide +kernel, by decide +kernel⟩
theorem ok_isnum {f : Addr} {fd : FuncData} (F : Fun K "is_number" "is_number" sIsNum f fd) (Ii : Callee P w K mg base "is_integer" 1 ["value"] spIsInt) : FnOk P w K mg base CX0 2 f fd ["value"] spIsNum := by
  refine F.ok scIN (fun vs H Q E h => ?_) (fun cdv A outer s H vs Q E hr h => ?_)
  · obtain ⟨v, rfl, _⟩ := h
    rfl
  · obtain ⟨v, rfl, o, k⟩ := h
    refine ⟨_, pss_one (ps_ret (pe_and (pe_callee Ii hr rfl (pa_cons (pv 0) pa_nil)) (pe_one (pe_cmpR op_ge (pv 0) pe_int (nomark _))))), ?_⟩
    refine ⟨_, rfl, v, rfl, o, _, rfl, ?_⟩
    cases v with
    | int i => exact iteT ⟨_, rfl, _, _, rfl, rfl, k⟩
    | _ => exact iteF k
theorem scIB : FnScope ["value", "many"] ["value", "many"] (defScope sIsBelow) := ⟨rfl, rfl, rfl, by decide +kernel, rfl, by decide +kernel, by decide +kernel⟩
theorem ok_isbelow {f : Addr} {fd : FuncData} (F : Fun K "is_below" "is_below" sIsBelow f fd) (In : Callee P w K mg base "is_number" 2 ["value"] spIsNum) : FnOk P w K mg base CX0 3 f fd ["value", "many"] spBelow := by
  refine F.ok scIB (fun vs H Q E h => ?_) (fun cdv A outer s H vs Q E hr h => ?_)
  · obtain ⟨v, m, rfl, _⟩ := h
    rfl
  · obtain ⟨v, m, rfl, o, k⟩ := h
    refine ⟨_, pss_one (ps_ret (pe_and (pe_callee In hr rfl (pa_cons (pv 0) pa_nil)) (pe_one (pe_cmpR op_lt (pv 0) (pv 1) (nomark _))))), ?_⟩
    refine ⟨_, rfl, v, rfl, o, _, rfl, ?_⟩
    cases v with
    | int i =>
      by_cases h : 0 ≤ i
      · have e : numB (.int i) = true := decide_eq_true h
        rw [e]
        refine iteT ⟨_, rfl, _, rfl, _, _, rfl, rfl, ?_⟩
        rw [show belowB m (.int i) = decide (i < m) by simp [belowB, h]] at k
        exact k
      · have e : numB (.int i) = false := decide_eq_false h
        rw [e]
        rw [show belowB m (.int i) = false by simp [belowB, h]] at k
        exact iteF k
    | _ => exact iteF k
end
end K08

namespace K08
open PySem PySem.Spec PyProof.Rows L2
open Cal EnuT

def forms : List (Str × Str) := [("go", "n"), ("shut", "n"), ("open", "n"), ("see", "n"), ("set", "nv"), ("wait", "nv"), ("tell", "n"), ("use", "n"), ("when", "vr"), ("again", "r"), ("rest", "")]
def formOf (w : Str) : Option Str := (forms.find? fun p => p.1 == w).map (·.2)
def fitsS (m : Int) (s : Str) (v : V) : Bool := if s = "n" then nmB v else if s = "v" then belowB 3 v else belowB (m + 1) v
def fitsAll (m : Int) : List Nat → List V → Bool
  | c :: cs, x :: xs => fitsS m ⟨#[c]⟩ x && fitsAll m cs xs
  | _, _ => true
/-- whether a sequence is a row of a program of so many rows -/
def rowL (m : Int) : List V → Bool
  | .str w :: xs => match formOf w with
    | some f => decide (xs.length = f.length) && fitsAll m f.cps.toList xs
    | none => false
  | _ => false
def rowB (m : Int) (H : Hp) (v : V) : Bool := match seqOf H v with
  | some xs => rowL m xs
  | none => false
structure FormsK (K : W.Frag) (w : World) (mg : Str → Option Value) : Prop where
  ex : ∃ d es n, mg "FORMS" = some (.ref d) ∧ KDict K w d es n ∧ ∀ z, (formOf z = none ∧ W.nsIn K d z = some none) ∨ ∃ f t, formOf z = some f ∧ W.nsIn K d z = some (some (.str f t))
def OkItems (H : Hp) (v : V) : Prop := OkV H v ∧ ∀ xs, seqOf H v = some xs → ∀ x, x ∈ xs → OkV H x ∧ ∀ s, x = .str s → s.length ≤ 1000
def spFits : Sp := fun vs H Q _ => ∃ s v m, vs = [.str s, v, .int m] ∧ OkV H v ∧ (∀ z, v = .str z → z.length ≤ 1000) ∧ ∀ H', Same H H' → Q (.bl (fitsS m s v)) H'
def spRow : Sp := fun vs H Q _ => ∃ v m, vs = [v, .int m] ∧ OkItems H v ∧ (∀ xs, seqOf H v = some xs → xs.length ≤ 100) ∧ ∀ H', Same H H' → Q (.bl (rowB m H v)) H'
theorem seq_of {H : Hp} {v : V} {xs : List V} (h : seqOf H v = some xs) : ∃ a, v = .ref a ∧ (H a = some (.lst xs) ∨ H a = some (.tup xs)) := by
  match v, h with
  | .ref a, h =>
    unfold seqOf at h
    cases e : H a with
    | none => simp [e] at h
    | some o =>
      cases o with
      | tup ys => simp [e] at h; subst h; exact ⟨a, rfl, .inr e⟩
      | lst ys => simp [e] at h; subst h; exact ⟨a, rfl, .inl e⟩
      | _ => simp [e] at h
theorem flat_strs (ps : List Str) : (ps.map V.str).all flatV = true := by
  rw [List.all_map]
  exact List.all_eq_true.mpr fun _ _ => rfl
theorem inV_strs (x : Str) (ps : List Str) : inV (.str x) (ps.map V.str) = decide (x ∈ ps) := by
  unfold inV
  rw [List.any_map]
  induction ps with
  | nil => rfl
  | cons y ps ih =>
    rw [List.any_cons, ih]
    have : eqV (.str y) (.str x) = decide (y = x) := by
      by_cases h : y = x
      · subst h
        simp [eqV]
      · simp [eqV, h]
    show (eqV (.str y) (.str x) || decide (x ∈ ps)) = _
    rw [this]
    by_cases h : y = x
    · simp [h]
    · simp [h, Ne.symm h]
theorem ix_of {K : W.Frag} {H : Hp} {a : Addr} {xs : List V} {j : Nat} {v : V} {Q : VK} (h : H a = some (.lst xs) ∨ H a = some (.tup xs)) (hj : xs[j]? = some v) (q : Q v H) : rIx K (.ref a) (.int (j : Nat)) H Q := by
  rcases h with e | e
  · exact .inl ⟨a, xs, _, v, rfl, rfl, SqL.of e, atI_nat hj, q⟩
  · exact .inr (.inl ⟨a, xs, _, v, rfl, rfl, SqT.of e, atI_nat hj, q⟩)
theorem form_len : ∀ w f, formOf w = some f → f.length ≤ 2 := by
  intro w f h
  unfold formOf at h
  cases e : forms.find? fun p => p.1 == w with
  | none => rw [e] at h; cases h
  | some p =>
    rw [e] at h
    obtain rfl := Option.some.inj h
    have m := List.mem_of_find?_eq_some e
    have all : forms.all (fun p => decide (p.2.length ≤ 2)) = true := by decide +kernel
    exact of_decide_eq_true (List.all_eq_true.mp all p m)
theorem zip_fits (m : Int) : ∀ (cs : List Nat) (xs : List V), ((cs.zip xs).map fun p => fitsS m ⟨#[p.1]⟩ p.2).all id = fitsAll m cs xs
  | [], _ => rfl
  | _ :: _, [] => rfl
  | c :: cs, x :: xs => congrArg (fitsS m ⟨#[c]⟩ x && ·) (zip_fits m cs xs)
theorem seq_tru {K : W.Frag} {H : Hp} {v : V} {xs : List V} (h : seqOf H v = some xs) : TruV K v H (!xs.isEmpty) := by
  obtain ⟨a, rfl, e | e⟩ := seq_of h
  · exact .inl ⟨_, SqL.of e, rfl⟩
  · exact .inr (.inl ⟨_, SqT.of e, rfl⟩)
theorem seq_len {K : W.Frag} {H : Hp} {v : V} {xs : List V} (h : seqOf H v = some xs) : ∃ p, v = .ref p ∧ (SqL K H p xs ∨ SqT K H p xs) := by
  obtain ⟨a, rfl, e | e⟩ := seq_of h
  · exact ⟨a, rfl, .inl (SqL.of e)⟩
  · exact ⟨a, rfl, .inr (SqT.of e)⟩
section
variable {P : Program} {w : World} {K : W.Frag} {mg : Str → Option Value} {base : Heap}
theorem scFi : FnScope ["sign", "value", "many"] ["sign", "value", "many"] (defScope sFits) := ⟨rfl, rfl, rfl, by decide +kernel, rfl, by decide +kernel, by decide +kernel⟩
theorem ok_fits {f : Addr} {fd : FuncData} (F : Fun K "_fits" "_fits" sFits f fd) (Nm : Callee P w K mg base "is_name" 1 ["value"] spName) (Be : Callee P w K mg base "is_below" 3 ["value", "many"] spBelow) : FnOk P w K mg base CX0 4 f fd ["sign", "value", "many"] spFits := by
  refine F.ok scFi (fun vs H Q E h => ?_) (fun cdv A outer s H vs Q E hr h => ?_)
  · obtain ⟨s, v, m, rfl, _⟩ := h
    rfl
  · obtain ⟨s, v, m, rfl, o, few, k⟩ := h
    refine ⟨_, pss_cons (ps_if (pt_cmpR op_eq (pv 0) pe_str (nomark _)) (pss_one (ps_ret (pe_callee Nm (hr.mono (by decide)) rfl (pa_cons (pv 1) pa_nil)))) pss_nil)
      (pss_cons (ps_if (pt_cmpR op_eq (pv 0) pe_str (nomark _)) (pss_one (ps_ret (pe_callee Be hr rfl (pa_cons (pv 1) (pa_cons pe_int pa_nil))))) pss_nil)
      (pss_one (ps_ret (pe_callee Be hr rfl (pa_cons (pv 1) (pa_cons (pe_op op_add (pv 2) pe_int) pa_nil)))))), ?_⟩
    refine ⟨_, rfl, rfl, _, rfl, ?_⟩
    by_cases h1 : s = "n"
    · rw [decide_eq_true (by rw [h1])]
      refine iteT ⟨_, rfl, v, rfl, o, few, fun H' s' => ?_⟩
      have := k H' s'
      rwa [show fitsS m s v = nmB v from if_pos h1] at this
    · rw [decide_eq_false (fun z => h1 (by injection z))]
      refine iteF ⟨_, rfl, rfl, _, rfl, ?_⟩
      by_cases h2 : s = "v"
      · rw [decide_eq_true (by rw [h2])]
        refine iteT ⟨_, rfl, v, 3, rfl, o, ?_⟩
        have := k H (Same.refl _)
        rwa [show fitsS m s v = belowB 3 v from (if_neg h1).trans (if_pos h2)] at this
      · rw [decide_eq_false (fun z => h2 (by injection z))]
        refine iteF ⟨_, rfl, _, rfl, _, _, rfl, rfl, v, m + 1, rfl, o, ?_⟩
        have := k H (Same.refl _)
        rwa [show fitsS m s v = belowB (m + 1) v from (if_neg h1).trans (if_neg h2)] at this
abbrev NR : List Str := ["row", "many", "form", "at", "sign"]
theorem scRw : FnScope NR ["row", "many"] (defScope sIsRow) := ⟨rfl, rfl, rfl, by decide +kernel, rfl, by decide +kernel, by decide +kernel⟩
theorem ok_isrow {f : Addr} {fd : FuncData} (F : Fun K "is_program_row" "is_program_row" sIsRow f fd) (B : Bl mg) (Fo : FormsK K w mg) (Sq : Callee P w K mg base "is_sequence" 1 ["value"] spSeq) (Fi : Callee P w K mg base "_fits" 4 ["sign", "value", "many"] spFits) :
    FnOk P w K mg base CX0 5 f fd ["row", "many"] spRow := by
  refine F.ok scRw (fun vs H Q E h => ?_) (fun cdv A outer s H vs Q E hr h => ?_)
  · obtain ⟨v, m, rfl, _⟩ := h
    rfl
  · obtain ⟨v, m, rfl, ⟨ov, items⟩, few, k⟩ := h
    have hr1 := hr.mono (show 1 ≤ 4 by decide)
    obtain ⟨dF, es, nF, mF, KD, look⟩ := Fo.ex
    refine ⟨_, pss_cons (ps_if (PW.pt (pw_or (pt_not (pt_val (pe_callee Sq hr1 rfl (pa_cons (pv 0) pa_nil)))) (pw_or (pt_not (pt_truth (pv 0) (by intro _; rfl)))
        (pw_or (pt_not (pt_val (pe_callB call_isi (by rfl) B.isi (by decide +kernel) (pa_cons (pe_ix ix_seq (pv 0) pe_int (fun _ _ => rfl)) (pa_cons (pe_bltn (v := .ty "str") rfl B.str (by decide +kernel) rfl) pa_nil)))))
        (pw_or1 (pt_cmpR (op_notIn_kd KD) (pe_ix ix_seq (pv 0) pe_int (fun _ _ => rfl)) (pe_glob (v := .ref dF) rfl mF rfl) (by rfl))))))) (pss_one (ps_ret pe_bl)) pss_nil)
      (pss_cons (ps_set (i := 2) scRw.nd rfl (Or.inl rfl) (pe_ix ix_kdict (pe_glob (v := .ref dF) rfl mF rfl) (pe_ix ix_seq (pv 0) pe_int (fun _ _ => rfl)) (fun _ _ => rfl)))
      (pss_one (ps_ret (pe_and (pe_cmpR op_eq (pe_callB call_len_seq (by rfl) B.len PySem.boot_len (pa_cons (pv 0) pa_nil)) (pe_op op_add pe_int (pe_callB call_len_str (by rfl) B.len PySem.boot_len (pa_cons (pv 2) pa_nil))) (nomark _))
        (pe_one (pe_callB (cr_all rfl) (by rfl) B.all (by decide +kernel) (pa_cons (pe_lc (own := [("at", 3), ("sign", 4)]) (g := gTup K 2 (gCons (gName 3) (gCons (gName 4) gNil))) (tt := tYes) (by rfl) scRw.nd (pi_enumStr (by rfl) B.enu (pa_cons (pv 2) pa_nil))
          (blkOk_by (own := [("at", 3), ("sign", 4)]) (N := NR) (sc := defScope sIsRow) (by decide +kernel))
          (fun _ _ _ _ _ => pg_tup (by rfl) (pgs_cons (pg_name (i := 3) scRw.nd rfl (Or.inl rfl)) (pgs_cons (pg_name (i := 4) scRw.nd rfl (Or.inl rfl)) pgs_nil))) (fun _ _ _ _ _ => pts_nil)
          (fun _ _ _ _ _ => pe_callee Fi hr rfl (pa_cons (pv 4) (pa_cons (show PE _ _ (tOp (rIx K) (tVar 0) (tOp (rI0 fun i j => V.int (i + j)) (tVar 3) (tC (.int 1)))) from pe_ix ix_seq (pv 0) (pe_op op_add (pv 3) pe_int) (fun _ _ => rfl)) (pa_cons (pv 1) pa_nil))))) pa_nil))))))), ?_⟩
    refine ⟨_, rfl, v, rfl, ov, fun H1 s1 => ⟨_, rfl, ?_⟩⟩
    have no : rowB m H v = false → ∀ H', Same H H' → Q (.bl false) H' := fun e H' s' => by
      have := k H' s'
      rwa [e] at this
    cases es : seqOf H v with
    | none => exact iteT (iteT (no (by unfold rowB; rw [es]) _ s1))
    | some xs =>
      have es1 : seqOf H1 v = some xs := by rw [ov.seq_same s1]; exact es
      refine iteF ⟨_, rfl, _, seq_tru es1, ?_⟩
      cases xs with
      | nil => exact iteT (iteT (no (by unfold rowB; rw [es]; rfl) _ s1))
      | cons x xs =>
        obtain ⟨ox, fx⟩ := items _ es x (List.mem_cons_self ..)
        obtain ⟨a, rfl, ha⟩ := seq_of es1
        obtain ⟨ty, h1, _, h3, _, _⟩ := (ox.same s1).ty (K := K)
        refine iteF ⟨_, rfl, ix_of (j := 0) ha rfl ⟨_, _, _, _, _, rfl, .ty "str", h1, h3, _, rfl, ?_⟩⟩
        cases e2 : isStr x with
        | false =>
          have r0 : rowB m H (.ref a) = false := by
            unfold rowB
            rw [es]
            cases x <;> first | rfl | cases e2
          exact iteT (iteT (no r0 _ s1))
        | true =>
          obtain ⟨z, rfl⟩ : ∃ z, x = .str z := by cases x <;> first | exact ⟨_, rfl⟩ | (cases e2)
          refine iteF ⟨_, rfl, ix_of (j := 0) ha rfl ?_⟩
          rcases look z with ⟨n1, n2⟩ | ⟨f, t, n1, n2⟩
          · have r0 : rowB m H (.ref a) = false := by
              unfold rowB
              rw [es]
              simp only [rowL, n1]
            exact ⟨z, none, rfl, rfl, n2, _, rfl, iteT (no r0 _ s1)⟩
          · obtain ⟨KD1, KD2, KD3⟩ := KD
            refine ⟨z, _, rfl, rfl, n2, _, rfl, iteF ?_⟩
            refine ⟨_, rfl, ix_of (j := 0) ha rfl ⟨_, z, .str f, rfl, rfl, ⟨_, _, _, KD1, KD2, n2, ⟨t, rfl⟩⟩, ?_⟩⟩
            have fl : f.length ≤ 2 := form_len z f n1
            have line : (1000 : Nat) ≤ sizeLine := by decide
            have rowE : rowB m H (.ref a) = (decide (xs.length = f.length) && fitsAll m f.cps.toList xs) := by
              unfold rowB
              rw [es]
              simp only [rowL, n1]
            refine ⟨_, rfl, a, _, rfl, ha.imp SqL.of SqT.of, _, rfl, f, rfl, by omega, 1, _, rfl, rfl, rfl, _, rfl, ?_⟩
            have len : decide (V.int ((V.str z :: xs).length : Nat) = V.int (1 + (f.length : Nat))) = decide (xs.length = f.length) := by
              by_cases e : xs.length = f.length
              · rw [decide_eq_true e]
                refine decide_eq_true ?_
                rw [List.length_cons, e]
                congr 1
                omega
              · rw [decide_eq_false e]
                refine decide_eq_false fun q => ?_
                injection q with q
                rw [List.length_cons] at q
                omega
            rw [len]
            by_cases e : xs.length = f.length
            · rw [decide_eq_true e]
              refine iteT ⟨_, rfl, f, rfl, fun D nD => ?_⟩
              let ys : List Bool := (f.cps.toList.zip xs).map fun p => fitsS m ⟨#[p.1]⟩ p.2
              have yl : ys.length = f.cps.size := by
                show ((f.cps.toList.zip xs).map _).length = _
                rw [List.length_map, List.length_zip, e, Array.length_toList]
                exact Nat.min_self _
              have fl2 : f.cps.size ≤ 2 := fl
              have all : ys.all id = fitsAll m f.cps.toList xs := by
                exact zip_fits m _ _
              refine lc_it walk_enumStr (fun i H' => Same H H' ∧ H' D = some (.lst ((ys.take i).map V.bl))) ⟨s1.trans (same_upd nD), upd_same⟩ (fun _ _ _ _ => trivial) ?_ ?_
              · rintro i x H2 H2' hi ⟨s2, at_D⟩ ⟨T, p, q, rfl, nT, rfl, hp, hq⟩
                cases hp
                have hx : i < xs.length := by rw [e]; exact hi
                obtain rfl : V.str ⟨#[f.cps[i]]⟩ = q := by
                  have hq : (f.cps[i]?).map (fun c => V.str ⟨#[c]⟩) = some q := hq
                  rw [Array.getElem?_eq_getElem hi] at hq
                  exact Option.some.inj hq
                have s3 := same_upd (o := .tup [.int (i : Nat), .str ⟨#[f.cps[i]]⟩]) nT
                have s23 := s2.trans s3
                obtain ⟨a', ea, ha2⟩ := seq_of ((ov.seq_same s23).trans es)
                cases ea
                obtain ⟨oi, fi⟩ := items _ es xs[i] (List.mem_cons_of_mem _ (List.getElem_mem hx))
                have xi : (V.str z :: xs)[i + 1]? = some xs[i] := by
                  rw [List.getElem?_cons_succ, List.getElem?_eq_getElem hx]
                refine ⟨T, _, rfl, SqT.of upd_same, rfl, _, _, rfl, _, _, rfl, ⟨rfl, rfl, kept ⟨_, rfl, _, rfl, _, rfl, _, _, rfl, rfl, ix_of (j := i + 1) ha2 xi ⟨_, rfl, _, _, _, rfl, oi.same s23, fi, fun H3 s3' => ?_⟩⟩⟩⟩
                have at_D3 := s3' _ _ (s3 _ _ at_D)
                refine ⟨_, at_D3, ?_, ?_, ?_⟩
                · rw [List.length_map, List.length_take]
                  omega
                · intro b o q
                  by_cases hb : b = D
                  · subst hb
                    have := s1 _ _ q
                    rw [nD] at this
                    cases this
                  · rw [upd_ne hb]
                    exact s3' _ _ (s3 _ _ (s2 _ _ q))
                · have lt : i < ys.length := by rw [yl]; exact hi
                  have yi : ys[i] = fitsS m ⟨#[f.cps[i]]⟩ xs[i] := by
                    show ((f.cps.toList.zip xs).map _)[i]'_ = _
                    rw [List.getElem_map, List.getElem_zip]
                    simp only [Array.getElem_toList]
                  rw [upd_same, List.take_succ_eq_append_getElem lt, List.map_append, yi]
                  rfl
              · rintro H2 ⟨s2, at_D⟩
                rw [← yl, List.take_length] at at_D
                refine ⟨D, _, rfl, SqL.of at_D, ?_⟩
                have := k H2 s2
                rw [rowE, decide_eq_true e, Bool.true_and, ← all] at this
                exact this
            · rw [decide_eq_false e]
              refine iteF ?_
              exact no (by rw [rowE, decide_eq_false e, Bool.false_and]) _ s1
end
end K08

namespace K08
open PySem PySem.Spec PyProof.Rows L2
open Cal EnuT Exn Keys

abbrev CE (P : Program) (w : World) (K : W.Frag) (mg : Str → Option Value) (base : Heap) (x : Str) (C : Addr) (f : Str) : Prop := Cl1 P w K mg base x C f "Exception" "Exception.__new__" "Exception.__init__" exTail
theorem paired_snoc {α β : Type} {R : α → β → Prop} : ∀ {xs : List α} {ys : List β} {a : α} {b : β}, Paired R xs ys → R a b → Paired R (xs ++ [a]) (ys ++ [b])
  | _, _, _, _, .nil, h => .cons h .nil
  | _, _, _, _, .cons r t, h => .cons r (paired_snoc t h)
theorem paired_len {α β : Type} {R : α → β → Prop} : ∀ {xs : List α} {ys : List β}, Paired R xs ys → xs.length = ys.length
  | _, _, .nil => rfl
  | _, _, .cons _ t => by simp [paired_len t]
theorem paired_mono {α β : Type} {R S : α → β → Prop} (f : ∀ a b, R a b → S a b) : ∀ {xs : List α} {ys : List β}, Paired R xs ys → Paired S xs ys
  | _, _, .nil => .nil
  | _, _, .cons r t => .cons (f _ _ r) (paired_mono f t)
/-- what is walked in one of two ways -/
def iOr (a b : TI) : TI := fun σ H R => a σ H R ∨ b σ H R
theorem PI_or {X : Cx} {tg e : Expr} {a b : TI} (ha : PI X tg e a) (hb : PI X tg e b) : PI X tg e (iOr a b) where
  run := fun pins s σ H R I h => h.elim (ha.run pins s σ H R I) (hb.run pins s σ H R I)
/-- the tuples that a kind keeps -/
def tupOf (H : Hp) (x : V) : List V := (seqOf H x).getD []
/-- whether a name and rows may be a kind's, the rows aside -/
def headB (H : Hp) (nv rv : V) : Bool := nmB nv && match seqOf H rv with
  | some xs => decide (1 ≤ xs.length) && decide (xs.length ≤ 6)
  | none => false
def RowOk (H : Hp) (x : V) : Prop := OkItems H x ∧ ∀ ys, seqOf H x = some ys → ys.length ≤ 100
def spInit (C CG : Addr) : Sp := fun vs H Q E => ∃ (o dx : Addr) (nv rv : V), vs = [.ref o, nv, rv] ∧ H o = some (.ins C dx []) ∧ OkV H nv ∧ (∀ z, nv = .str z → z.length ≤ 1000) ∧ OkV H rv ∧ (∀ xs, seqOf H rv = some xs → xs.length ≤ 20 ∧ ∀ x, x ∈ xs → RowOk H x) ∧
  (headB H nv rv = false → ∀ H' d, Same H H' → H d = none → H' d = some (.xd [("at", .int (-1))]) → E (.ref CG) (some d) H') ∧
  (∀ xs i, seqOf H rv = some xs → headB H nv rv = true → (∃ h : i < xs.length, (∀ j (hj : j < xs.length), j < i → rowB xs.length H xs[j] = true) ∧ rowB xs.length H xs[i] = false) → ∀ H' d, Same H H' → H d = none → H' d = some (.xd [("at", .int (i : Nat))]) → E (.ref CG) (some d) H') ∧
  (∀ xs, seqOf H rv = some xs → headB H nv rv = true → (∀ x, x ∈ xs → rowB xs.length H x = true) → ∀ H' t ws, (∀ b u, b ≠ o → H b = some u → H' b = some u) → H' o = some (.ins C dx [("name", nv), ("rows", .ref t)]) → H' t = some (.tup ws) → Paired (fun w x => ∃ c, w = V.ref c ∧ H' c = some (.tup (tupOf H x))) ws xs → Q .non H')
theorem rowB_same {H H' : Hp} {m : Int} (s : Same H H') {x : V} (o : OkV H x) : rowB m H' x = rowB m H x := by
  unfold rowB
  rw [o.seq_same s]
theorem OkItems.same {H H' : Hp} (s : Same H H') {x : V} (o : OkItems H x) : OkItems H' x := ⟨o.1.same s, fun xs h y hy => by
  rw [o.1.seq_same s] at h
  exact ⟨(o.2 xs h y hy).1.same s, (o.2 xs h y hy).2⟩⟩
theorem row_seq {H : Hp} {m : Int} {x : V} (h : rowB m H x = true) : ∃ zs, seqOf H x = some zs := by
  unfold rowB at h
  cases hq : seqOf H x with
  | none => rw [hq] at h; cases h
  | some zs => exact ⟨zs, rfl⟩
section
variable {P : Program} {w : World} {K : W.Frag} {mg : Str → Option Value} {base : Heap}
abbrev sInit : Stmt := inClass sKind 0
abbrev NI : List Str := ["self", "name", "rows", "at", "row"]
theorem scIn : FnScope NI ["self", "name", "rows"] (defScope sInit) := ⟨rfl, rfl, rfl, by decide +kernel, rfl, by decide +kernel, by decide +kernel⟩
theorem ok_init {f C CG : Addr} {fd : FuncData} {mt : Tok} (F : Fun K "__init__" "Kind.__init__" sInit f fd) (B : Bl mg) (mM : mg "MOST_ROWS" = some (.int 6 mt)) (cl : Cls K C) (na1 : NoAttr K C "name") (na2 : NoAttr K C "rows") (cG : CE P w K mg base "InvalidGuest" CG "at")
    (Nm : Callee P w K mg base "is_name" 1 ["value"] spName) (Sq : Callee P w K mg base "is_sequence" 1 ["value"] spSeq) (Rw : Callee P w K mg base "is_program_row" 5 ["row", "many"] spRow) :
    FnOk P w K mg base (L2.CX P w) 6 f fd ["self", "name", "rows"] (spInit C CG) := by
  refine F.okX scIn (fun vs H Q E h => ?_) (fun cdv A outer s H vs Q E hr h => ?_)
  · obtain ⟨o, dx, nv, rv, rfl, _⟩ := h
    rfl
  · obtain ⟨o, dx, nv, rv, rfl, ho, on, fn, ov, items, no, bad, good⟩ := h
    have hr1 := hr.mono (show 1 ≤ 5 by decide)
    have hr2 := hr.mono (show 2 ≤ 5 by decide)
    refine ⟨_, pss_cons (ps_if (PW.pt (pw_or (pt_not (pt_val (pe_callee Nm hr1 rfl (pa_cons (pv 1) pa_nil)))) (pw_or (pt_not (pt_val (pe_callee Sq hr1 rfl (pa_cons (pv 2) pa_nil))))
        (pw_or1 (pt_not (pt_chain op_le op_le pe_int (pe_callB call_len_seq (by rfl) B.len PySem.boot_len (pa_cons (pv 2) pa_nil)) (pe_glob (v := .int 6) rfl mM ⟨_, rfl⟩))))))) (pss_one (ps_raise rfl (takes_of rfl rfl rfl rfl) (pmk_exn cG hr2 rfl (pe_un un_neg pe_int)))) pss_nil)
      (pss_cons (ps_for PassesOwn.leaving rfl (pi_enumS (by rfl) B.enu (pa_cons (pv 2) pa_nil)) (pg_tup rfl (pgs_cons (pg_name (i := 3) scIn.nd rfl (Or.inl rfl)) (pgs_cons (pg_name (i := 4) scIn.nd rfl (Or.inl rfl)) pgs_nil)))
        (pss_one (ps_if (pt_not (pt_val (pe_callee Rw hr rfl (pa_cons (pv 4) (pa_cons (pe_callB call_len_seq (by rfl) B.len PySem.boot_len (pa_cons (pv 2) pa_nil)) pa_nil))))) (pss_one (ps_raise rfl (takes_of rfl rfl rfl rfl) (pmk_exn cG hr2 rfl (pv 3)))) pss_nil)))
      (pss_cons (ps_fld (pv 0) (pv 1) rfl)
      (pss_one (ps_fld (pv 0) (pe_callTy call_tuple_of (by rfl) B.tuple (by decide +kernel) (pa_cons (pe_lc (own := [("row", 4)]) (g := gName 4) (tt := tYes) (by rfl) scIn.nd (PI_or (pi_list (pv 2)) (pi_tup (pv 2)))
        (blkOk_by (own := [("row", 4)]) (N := NI) (sc := defScope sInit) (by decide +kernel))
        (fun _ _ _ _ _ => pg_name (i := 4) scIn.nd rfl (Or.inl rfl)) (fun _ _ _ _ _ => pts_nil)
        (fun _ _ _ _ _ => (show PE _ _ (tCB (fun xs H Q => ∃ p ys, xs = [V.ref p] ∧ ((SqL K H p ys ∧ ∀ (l : Addr), H l = none → Q (.ref l) (upd H l (.tup ys))) ∨ SqT K H p ys ∧ Q (.ref p) H)) (tCons (tVar 4) tNil)) from pe_callTy call_tuple_of (by rfl) B.tuple (by decide +kernel) (pa_cons (pv 4) pa_nil)))) pa_nil)) rfl)))), ?_⟩
    have line : (1000 : Nat) ≤ sizeLine := by decide
    have wrong : headB H nv rv = false → ∀ H', Same H H' → ∀ d, H' d = none → E (.ref CG) (some d) (upd H' d (.xd [("at", .int (-1))])) := fun e H' s' d nd => no e _ d (s'.trans (same_upd nd)) (s'.free nd) upd_same
    refine ⟨_, rfl, nv, rfl, on, fn, fun H0 s0 => ⟨_, rfl, ?_⟩⟩
    cases en : nmB nv with
    | false => exact iteT (iteT ⟨_, rfl, _, rfl, fun d nd => wrong (by unfold headB; rw [en]; rfl) _ s0 d nd⟩)
    | true =>
      refine iteF ⟨_, rfl, rv, rfl, ov.same s0, fun H1 s1' => ?_⟩
      rw [ov.seq_same s0]
      have s1 := s0.trans s1'
      cases e : seqOf H rv with
      | none => exact ⟨_, rfl, iteT (iteT ⟨_, rfl, _, rfl, fun d nd => wrong (by unfold headB; rw [en, e]; rfl) _ s1 d nd⟩)⟩
      | some xs =>
        obtain ⟨l20, it⟩ := items xs e
        obtain ⟨a, rfl, ha⟩ := seq_of e
        have ha1 : SqL K H1 a xs ∨ SqT K H1 a xs := ha.imp (fun q => SqL.of (s1 _ _ q)) (fun q => SqT.of (s1 _ _ q))
        refine ⟨_, rfl, iteF ⟨_, rfl, a, _, rfl, ha1, 1, _, rfl, rfl, _, rfl, ?_⟩⟩
        by_cases l1 : 1 ≤ xs.length
        · rw [decide_eq_true (show (1 : Int) ≤ (xs.length : Nat) by omega)]
          refine iteT ⟨_, 6, rfl, rfl, _, rfl, ?_⟩
          by_cases l6 : xs.length ≤ 6
          · rw [decide_eq_true (show ((xs.length : Nat) : Int) ≤ 6 by omega)]
            have hh : headB H nv (.ref a) = true := by
              unfold headB
              rw [en, e]
              simp [l1, l6]
            refine iteF ?_
            rcases ha with ea | ea
            · refine ⟨_, rfl, a, rfl, .inl ⟨xs, SqL.of (s1 _ _ ea), for_it (walk_enum (xs := xs)) (fun i σ H' => ∃ v3 v4 : Option V, σ = [some (.ref o), some nv, some (.ref a), v3, v4] ∧ Same H H' ∧ ∀ j (h : j < xs.length), j < i → rowB xs.length H xs[j] = true)
                ⟨_, _, rfl, s1, fun j _ h => absurd h (Nat.not_lt_zero _)⟩ (fun i σ H' _ z => ?_) ?_ ?_⟩⟩
              · obtain ⟨_, _, _, s, _⟩ := z
                exact SqL.of (s _ _ ea)
              · rintro i x σ H2 H2' hi ⟨v3, v4, rfl, s2, ok⟩ ⟨t, y, z, rfl, nt, rfl, hy, hz⟩
                cases hy
                have hz : xs[i]? = some z := hz
                obtain ⟨_, ez⟩ := List.getElem?_eq_some_iff.mp hz
                have s3 := same_upd (o := .tup [.int (i : Nat), z]) nt
                have s23 := s2.trans s3
                obtain ⟨iz, iw⟩ := it z (List.mem_of_getElem? hz)
                refine ⟨t, _, rfl, SqT.of upd_same, rfl, _, _, rfl, _, _, rfl, ⟨rfl, _, rfl, _, rfl, a, _, rfl, .inl (SqL.of (s23 _ _ ea)), z, _, rfl, iz.same s23, (fun ys q => iw ys (by rw [iz.1.seq_same s23] at q; exact q)), fun H5 s5 => ?_⟩⟩
                rw [rowB_same s23 iz.1]
                have s25 := s23.trans s5
                cases er : rowB xs.length H z with
                | false =>
                  refine ⟨_, rfl, iteT ⟨_, rfl, _, rfl, fun d nd => ?_⟩⟩
                  exact bad xs i e hh ⟨hi, ok, by rw [ez]; exact er⟩ _ d (s25.trans (same_upd nd)) (s25.free nd) upd_same
                | true =>
                  refine ⟨_, rfl, iteF ⟨_, _, rfl, s25, fun j h hj => ?_⟩⟩
                  rcases Nat.lt_succ_iff_lt_or_eq.mp hj with y | rfl
                  · exact ok j h y
                  · rw [ez]
                    exact er
              · rintro σ H2 ⟨v3, v4, rfl, s2, ok⟩
                have deed : ∀ x, x ∈ xs → rowB xs.length H x = true := fun x hx => by
                  obtain ⟨j, hj, rfl⟩ := List.getElem_of_mem hx
                  exact ok j hj hj
                have o2 := s2 _ _ ho
                refine ⟨_, rfl, _, rfl, o, C, dx, [], rfl, o2, cl, na1, by decide, ?_⟩
                have o3 : upd H2 o (.ins C dx (putF "name" nv [])) o = some (.ins C dx [("name", nv)]) := upd_same
                have keep : ∀ b u, b ≠ o → H b = some u → upd H2 o (.ins C dx (putF "name" nv [])) b = some u := fun b u ne q => by
                  rw [upd_ne ne]
                  exact s2 _ _ q
                revert o3 keep
                generalize upd H2 o (.ins C dx (putF "name" nv [])) = HN
                intro o3 keep
                have ne_o : ∀ {b : Addr} {ys : List V}, H b = some (.lst ys) ∨ H b = some (.tup ys) → b ≠ o := fun {b ys} q => q.elim (fun q => ne_of q ho (fun z => by cases z)) (fun q => ne_of q ho (fun z => by cases z))
                have ea2 := keep a _ (ne_o (.inl ea)) ea
                refine .inl ⟨_, rfl, a, rfl, ⟨_, SqL.of ea2⟩, fun D nD => ?_⟩
                refine lc_list (xs := xs) (fun i H' => ∃ ws, Same HN H' ∧ H' D = some (.lst ws) ∧ Paired (fun w x => ∃ c, w = V.ref c ∧ H' c = some (.tup (tupOf H x))) ws (xs.take i)) ⟨[], same_upd nD, upd_same, .nil⟩ (fun i H' _ z => ?_) ?_ ?_
                · obtain ⟨_, s, _⟩ := z
                  exact SqL.of (s _ _ ea2)
                · rintro i x H3 hx ⟨ws, s3, at_D, pw⟩
                  obtain ⟨hi, rfl⟩ := List.getElem?_eq_some_iff.mp hx
                  have lw := paired_len pw
                  rw [List.length_take] at lw
                  obtain ⟨zs, hzs⟩ := row_seq (deed _ (List.getElem_mem hi))
                  obtain ⟨c, hc, ec⟩ := seq_of hzs
                  have nc := ne_o ec
                  have tz : tupOf H xs[i] = zs := by
                    unfold tupOf
                    rw [hzs]
                    rfl
                  have step : ∀ (u : Addr) (H4 : Hp), Same H3 H4 → H4 u = some (.tup zs) → ∃ acc, H4 D = some (.lst acc) ∧ acc.length < sizeLine ∧ ∃ ws', Same HN (upd H4 D (.lst (acc ++ [.ref u]))) ∧ upd H4 D (.lst (acc ++ [.ref u])) D = some (.lst ws') ∧ Paired (fun w x => ∃ c, w = V.ref c ∧ upd H4 D (.lst (acc ++ [.ref u])) c = some (.tup (tupOf H x))) ws' (xs.take (i + 1)) := by
                    intro u H4 s4 hu
                    have at_D4 := s4 _ _ at_D
                    have up : ∀ {c ys}, H4 c = some (.tup ys) → upd H4 D (.lst (ws ++ [.ref u])) c = some (.tup ys) := fun {c ys} e => by
                      rw [upd_ne (ne_of e at_D4 (fun z => by cases z))]
                      exact e
                    refine ⟨ws, at_D4, by omega, ws ++ [.ref u], fun b o' e' => ?_, upd_same, ?_⟩
                    · rw [upd_ne (ne_of_none e' nD)]
                      exact s4 _ _ (s3 _ _ e')
                    · rw [List.take_succ_eq_append_getElem hi]
                      exact paired_snoc (paired_mono (fun _ _ ⟨c, e', ec⟩ => ⟨c, e', up (s4 _ _ ec)⟩) pw) ⟨u, rfl, up (by rw [tz]; exact hu)⟩
                  refine ⟨rfl, kept ⟨_, rfl, c, zs, by rw [hc], ?_⟩⟩
                  rcases ec with ec | ec
                  · exact .inl ⟨SqL.of (s3 _ _ (keep _ _ nc ec)), fun u nu => step u _ (same_upd nu) upd_same⟩
                  · refine .inr ⟨SqT.of (s3 _ _ (keep _ _ nc ec)), ?_⟩
                    exact step c _ (Same.refl _) (s3 _ _ (keep _ _ nc ec))
                · rintro H3 ⟨ws, s3, at_D, pw⟩
                  rw [List.take_length] at pw
                  refine ⟨D, _, rfl, .inl ⟨SqL.of at_D, fun u nu => ?_⟩⟩
                  have s4 := same_upd (o := .tup ws) nu
                  have s34 := s3.trans s4
                  have o4 := s34 _ _ o3
                  refine ⟨_, rfl, o, C, dx, _, rfl, o4, cl, na2, (by show 1 < 1000; decide), ?_⟩
                  have up : ∀ {c ys fs}, upd H3 u (.tup ws) c = some (.tup ys) → upd (upd H3 u (.tup ws)) o (.ins C dx fs) c = some (.tup ys) := fun {c ys fs} e => by
                    rw [upd_ne (ne_of e o4 (fun z => by cases z))]
                    exact e
                  refine good xs e hh deed _ u ws (fun b w ne e' => ?_) upd_same (up upd_same) (paired_mono (fun _ _ ⟨c, e', ec⟩ => ⟨c, e', up (s4 _ _ ec)⟩) pw)
                  rw [upd_ne ne]
                  exact s34 _ _ (keep _ _ ne e')
            · refine ⟨_, rfl, a, rfl, .inr ⟨xs, SqT.of (s1 _ _ ea), for_it (walk_enumT (xs := xs)) (fun i σ H' => ∃ v3 v4 : Option V, σ = [some (.ref o), some nv, some (.ref a), v3, v4] ∧ Same H H' ∧ ∀ j (h : j < xs.length), j < i → rowB xs.length H xs[j] = true)
                ⟨_, _, rfl, s1, fun j _ h => absurd h (Nat.not_lt_zero _)⟩ (fun i σ H' _ z => ?_) ?_ ?_⟩⟩
              · obtain ⟨_, _, _, s, _⟩ := z
                exact SqT.of (s _ _ ea)
              · rintro i x σ H2 H2' hi ⟨v3, v4, rfl, s2, ok⟩ ⟨t, y, z, rfl, nt, rfl, hy, hz⟩
                cases hy
                have hz : xs[i]? = some z := hz
                obtain ⟨_, ez⟩ := List.getElem?_eq_some_iff.mp hz
                have s3 := same_upd (o := .tup [.int (i : Nat), z]) nt
                have s23 := s2.trans s3
                obtain ⟨iz, iw⟩ := it z (List.mem_of_getElem? hz)
                refine ⟨t, _, rfl, SqT.of upd_same, rfl, _, _, rfl, _, _, rfl, ⟨rfl, _, rfl, _, rfl, a, _, rfl, .inr (SqT.of (s23 _ _ ea)), z, _, rfl, iz.same s23, (fun ys q => iw ys (by rw [iz.1.seq_same s23] at q; exact q)), fun H5 s5 => ?_⟩⟩
                rw [rowB_same s23 iz.1]
                have s25 := s23.trans s5
                cases er : rowB xs.length H z with
                | false =>
                  refine ⟨_, rfl, iteT ⟨_, rfl, _, rfl, fun d nd => ?_⟩⟩
                  exact bad xs i e hh ⟨hi, ok, by rw [ez]; exact er⟩ _ d (s25.trans (same_upd nd)) (s25.free nd) upd_same
                | true =>
                  refine ⟨_, rfl, iteF ⟨_, _, rfl, s25, fun j h hj => ?_⟩⟩
                  rcases Nat.lt_succ_iff_lt_or_eq.mp hj with y | rfl
                  · exact ok j h y
                  · rw [ez]
                    exact er
              · rintro σ H2 ⟨v3, v4, rfl, s2, ok⟩
                have deed : ∀ x, x ∈ xs → rowB xs.length H x = true := fun x hx => by
                  obtain ⟨j, hj, rfl⟩ := List.getElem_of_mem hx
                  exact ok j hj hj
                have o2 := s2 _ _ ho
                refine ⟨_, rfl, _, rfl, o, C, dx, [], rfl, o2, cl, na1, by decide, ?_⟩
                have o3 : upd H2 o (.ins C dx (putF "name" nv [])) o = some (.ins C dx [("name", nv)]) := upd_same
                have keep : ∀ b u, b ≠ o → H b = some u → upd H2 o (.ins C dx (putF "name" nv [])) b = some u := fun b u ne q => by
                  rw [upd_ne ne]
                  exact s2 _ _ q
                revert o3 keep
                generalize upd H2 o (.ins C dx (putF "name" nv [])) = HN
                intro o3 keep
                have ne_o : ∀ {b : Addr} {ys : List V}, H b = some (.lst ys) ∨ H b = some (.tup ys) → b ≠ o := fun {b ys} q => q.elim (fun q => ne_of q ho (fun z => by cases z)) (fun q => ne_of q ho (fun z => by cases z))
                have ea2 := keep a _ (ne_o (.inr ea)) ea
                refine .inr ⟨_, rfl, a, rfl, ⟨_, SqT.of ea2⟩, fun D nD => ?_⟩
                refine lc_tup (xs := xs) (fun i H' => ∃ ws, Same HN H' ∧ H' D = some (.lst ws) ∧ Paired (fun w x => ∃ c, w = V.ref c ∧ H' c = some (.tup (tupOf H x))) ws (xs.take i)) ⟨[], same_upd nD, upd_same, .nil⟩ (fun i H' _ z => ?_) ?_ ?_
                · obtain ⟨_, s, _⟩ := z
                  exact SqT.of (s _ _ ea2)
                · rintro i x H3 hx ⟨ws, s3, at_D, pw⟩
                  obtain ⟨hi, rfl⟩ := List.getElem?_eq_some_iff.mp hx
                  have lw := paired_len pw
                  rw [List.length_take] at lw
                  obtain ⟨zs, hzs⟩ := row_seq (deed _ (List.getElem_mem hi))
                  obtain ⟨c, hc, ec⟩ := seq_of hzs
                  have nc := ne_o ec
                  have tz : tupOf H xs[i] = zs := by
                    unfold tupOf
                    rw [hzs]
                    rfl
                  have step : ∀ (u : Addr) (H4 : Hp), Same H3 H4 → H4 u = some (.tup zs) → ∃ acc, H4 D = some (.lst acc) ∧ acc.length < sizeLine ∧ ∃ ws', Same HN (upd H4 D (.lst (acc ++ [.ref u]))) ∧ upd H4 D (.lst (acc ++ [.ref u])) D = some (.lst ws') ∧ Paired (fun w x => ∃ c, w = V.ref c ∧ upd H4 D (.lst (acc ++ [.ref u])) c = some (.tup (tupOf H x))) ws' (xs.take (i + 1)) := by
                    intro u H4 s4 hu
                    have at_D4 := s4 _ _ at_D
                    have up : ∀ {c ys}, H4 c = some (.tup ys) → upd H4 D (.lst (ws ++ [.ref u])) c = some (.tup ys) := fun {c ys} e => by
                      rw [upd_ne (ne_of e at_D4 (fun z => by cases z))]
                      exact e
                    refine ⟨ws, at_D4, by omega, ws ++ [.ref u], fun b o' e' => ?_, upd_same, ?_⟩
                    · rw [upd_ne (ne_of_none e' nD)]
                      exact s4 _ _ (s3 _ _ e')
                    · rw [List.take_succ_eq_append_getElem hi]
                      exact paired_snoc (paired_mono (fun _ _ ⟨c, e', ec⟩ => ⟨c, e', up (s4 _ _ ec)⟩) pw) ⟨u, rfl, up (by rw [tz]; exact hu)⟩
                  refine ⟨rfl, kept ⟨_, rfl, c, zs, by rw [hc], ?_⟩⟩
                  rcases ec with ec | ec
                  · exact .inl ⟨SqL.of (s3 _ _ (keep _ _ nc ec)), fun u nu => step u _ (same_upd nu) upd_same⟩
                  · refine .inr ⟨SqT.of (s3 _ _ (keep _ _ nc ec)), ?_⟩
                    exact step c _ (Same.refl _) (s3 _ _ (keep _ _ nc ec))
                · rintro H3 ⟨ws, s3, at_D, pw⟩
                  rw [List.take_length] at pw
                  refine ⟨D, _, rfl, .inl ⟨SqL.of at_D, fun u nu => ?_⟩⟩
                  have s4 := same_upd (o := .tup ws) nu
                  have s34 := s3.trans s4
                  have o4 := s34 _ _ o3
                  refine ⟨_, rfl, o, C, dx, _, rfl, o4, cl, na2, (by show 1 < 1000; decide), ?_⟩
                  have up : ∀ {c ys fs}, upd H3 u (.tup ws) c = some (.tup ys) → upd (upd H3 u (.tup ws)) o (.ins C dx fs) c = some (.tup ys) := fun {c ys fs} e => by
                    rw [upd_ne (ne_of e o4 (fun z => by cases z))]
                    exact e
                  refine good xs e hh deed _ u ws (fun b w ne e' => ?_) upd_same (up upd_same) (paired_mono (fun _ _ ⟨c, e', ec⟩ => ⟨c, e', up (s4 _ _ ec)⟩) pw)
                  rw [upd_ne ne]
                  exact s34 _ _ (keep _ _ ne e')
          · rw [decide_eq_false (show ¬ ((xs.length : Nat) : Int) ≤ 6 by omega)]
            refine iteT ⟨1, rfl, ?_⟩
            exact ⟨_, rfl, fun d nd => wrong (by unfold headB; rw [en, e]; simp [l6]) _ s1 d nd⟩
        · rw [decide_eq_false (show ¬ (1 : Int) ≤ (xs.length : Nat) by omega)]
          refine iteF ⟨_, rfl, iteT ⟨1, rfl, ?_⟩⟩
          exact ⟨_, rfl, fun d nd => wrong (by unfold headB; rw [en, e]; simp [l1]) _ s1 d nd⟩
end
end K08

namespace K08
open PySem PySem.Spec PyProof.Rows L2
open Cal EnuT Exn Keys

/-- a part of a row: a text or a number -/
inductive Pt
  | s (x : Str)
  | n (k : Nat)
deriving DecidableEq
def ptV : Pt → V
  | .s x => .str x
  | .n k => .int (k : Nat)
def ptT : Pt → Str
  | .s x => x
  | .n k => Str.ofString (toString (k : Int))
def rowT (r : List Pt) : Str := Txt.join " " (r.map ptT)
def textOf (nm : Str) (rs : List (List Pt)) : Str := Txt.join "\n" (("kind " ++ nm : Str) :: rs.map rowT)
def pts : List Pt := (["go", "shut", "open", "see", "set", "wait", "tell", "use", "when", "again", "rest", "d", "gate", "c", "cell"] : List Str).map Pt.s ++ (List.range 8).map Pt.n
def knames : List Str := ["k", "reader", "abcdefgh", "other"]
def GoodRow (r : List Pt) : Prop := r.length ≤ 3 ∧ ∀ p, p ∈ r → p ∈ pts
def GoodRows (rs : List (List Pt)) : Prop := rs.length ≤ 6 ∧ ∀ r, r ∈ rs → GoodRow r
abbrev RowAt (H : Hp) (v : V) (r : List Pt) : Prop := ∃ c, v = V.ref c ∧ H c = some (.tup (r.map ptV))
/-- a kind at o that keeps this name and these rows -/
def KindIns (H : Hp) (C o : Addr) (nm : Str) (rs : List (List Pt)) : Prop := ∃ dx t ws, H o = some (.ins C dx [("name", .str nm), ("rows", .ref t)]) ∧ H t = some (.tup ws) ∧ Paired (RowAt H) ws rs
theorem KindIns.same {H H' : Hp} {C o : Addr} {nm : Str} {rs : List (List Pt)} (s : Same H H') (p : KindIns H C o nm rs) : KindIns H' C o nm rs := by
  obtain ⟨dx, t, ws, h1, h2, pw⟩ := p
  exact ⟨dx, t, ws, s _ _ h1, s _ _ h2, paired_mono (fun _ _ ⟨c, e, ec⟩ => ⟨c, e, s _ _ ec⟩) pw⟩
theorem pt_short : ∀ p, p ∈ pts → (ptT p).length ≤ 10 := by
  have h : pts.all (fun p => decide ((ptT p).length ≤ 10)) = true := by decide +kernel
  intro p hp
  exact of_decide_eq_true (List.all_eq_true.mp h p hp)
theorem kn_short : ∀ n, n ∈ knames → n.length ≤ 10 := by decide +kernel
theorem paired_get {α β : Type} {R : α → β → Prop} : ∀ {xs : List α} {ys : List β} {i : Nat} {x : α}, Paired R xs ys → xs[i]? = some x → ∃ y, ys[i]? = some y ∧ R x y
  | _, _, 0, _, .cons r _, h => ⟨_, rfl, by cases h; exact r⟩
  | _, _, i + 1, _, .cons _ t, h => paired_get (i := i) t h
  | _, _, _, _, .nil, h => nomatch h
theorem sum_le (xs : List Nat) (n : Nat) (h : ∀ x, x ∈ xs → x ≤ n) : xs.sum ≤ xs.length * n := by
  induction xs with
  | nil => simp
  | cons x xs ih =>
    have := ih fun y hy => h y (List.mem_cons_of_mem _ hy)
    have := h x (List.mem_cons_self ..)
    simp [Nat.add_mul]
    omega
theorem join_lenS (a : Str) : ∀ (xs : List Str), (Str.join a xs).length ≤ (xs.map fun x => x.length).sum + xs.length * a.length
  | [] => Nat.zero_le _
  | [x] => by
    have h : Str.join a [x] = x := rfl
    rw [h]
    simp
  | x :: y :: r => by
    have ih := join_lenS a (y :: r)
    have h : (Str.join a (x :: y :: r)).length = x.length + (a.length + (Str.join a (y :: r)).length) := by
      rw [Tx.len_L, Tx.len_L x, Tx.len_L a, Tx.len_L (Str.join a (y :: r)), Tx.L_join]
      simp
    rw [h]
    simp only [List.map_cons, List.sum_cons, List.length_cons] at ih ⊢
    have : (r.length + 1 + 1) * a.length = a.length + (r.length + 1) * a.length := by rw [Nat.add_mul (r.length + 1) 1]; omega
    omega
theorem join_len (a : Str) (xs : List Str) : (Txt.join a xs).length ≤ (xs.map fun x => x.length).sum + xs.length * a.length := by
  rw [show Txt.join a xs = Str.join a xs from StrLaws.glued_eq_join _ _]
  exact join_lenS a xs
theorem row_short {r : List Pt} (g : GoodRow r) : (rowT r).length ≤ 40 := by
  have h := join_len " " (r.map ptT)
  have := sum_le ((r.map ptT).map fun x => x.length) 10 (fun x hx => by
    obtain ⟨y, hy, rfl⟩ := List.mem_map.mp hx
    obtain ⟨p, hp, rfl⟩ := List.mem_map.mp hy
    exact pt_short p (g.2 p hp))
  have e : (" " : Str).length = 1 := rfl
  rw [e] at h
  simp only [List.length_map] at h this
  have := g.1
  show (Txt.join " " (r.map ptT)).length ≤ 40
  omega
def spText (C : Addr) : Sp := fun vs H Q _ => ∃ (o : Addr) (nm : Str) (rs : List (List Pt)), vs = [.ref o] ∧ KindIns H C o nm rs ∧ nm ∈ knames ∧ GoodRows rs ∧ ∀ H', Same H H' → Q (.str (textOf nm rs)) H'
section
variable {P : Program} {w : World} {K : W.Frag} {mg : Str → Option Value} {base : Heap}
theorem call_strB {X : Cx} : CallR X (.type "str") (fun xs H Q => (∃ i, xs = [.int i] ∧ i.natAbs.log2 < 1920 ∧ Q (.str (toString i)) H) ∨ ∃ a, xs = [.str a] ∧ Q (.str a) H) := by
  intro pins s σ H xs us Q I r h
  rcases h with h | h
  · exact call_str_int pins s σ H xs us Q I r h
  · exact SkE.call_str_str pins s σ H xs us Q I r h
abbrev sKText : Stmt := inClass sKind 3
abbrev NT : List Str := ["self", "lines", "row", "part"]
theorem scTx : FnScope NT ["self"] (defScope sKText) := ⟨rfl, rfl, rfl, by decide +kernel, rfl, by decide +kernel, by decide +kernel⟩
theorem ok_text {f C : Addr} {fd : FuncData} (F : Fun K "text" "Kind.text" sKText f fd) (B : Bl mg) (cl : Cls K C) (na1 : NoAttr K C "name") (na2 : NoAttr K C "rows") : FnOk P w K mg base CX0 1 f fd ["self"] (spText C) := by
  refine F.ok scTx (fun vs H Q E h => ?_) (fun cdv A outer s H vs Q E hr h => ?_)
  · obtain ⟨o, nm, rs, rfl, _⟩ := h
    rfl
  · obtain ⟨o, nm, rs, rfl, ⟨dx, t, ws, ho, ht, pw⟩, gn, ⟨r6, gr⟩, k⟩ := h
    refine ⟨_, pss_cons (ps_set (i := 1) scTx.nd rfl (Or.inl rfl) (pe_lst (pa_cons (pe_op op_add_str pe_str (pe_fld (pv 0) rfl)) pa_nil)))
      (pss_cons (ps_for PassesOwn.never rfl (pi_tup (pe_fld (pv 0) rfl)) (pg_name (i := 2) scTx.nd rfl (Or.inl rfl))
        (pss_one (ps_expr (pe_bm PySem.F.plainAttrs_list PySem.F.slot_list_append PySem.F.type_list_append mt_append (pv 1) (pa_cons (pe_join pe_str (pe_lc (own := [("part", 3)]) (g := gName 3) (tt := tYes) (by rfl) scTx.nd (pi_tup (pv 2))
          (blkOk_by (own := [("part", 3)]) (N := NT) (sc := defScope sKText) (by decide +kernel))
          (fun _ _ _ _ _ => pg_name (i := 3) scTx.nd rfl (Or.inl rfl)) (fun _ _ _ _ _ => pts_nil)
          (fun _ _ _ _ _ => pe_callTy call_strB (by rfl) B.str (by decide +kernel) (pa_cons (pv 3) pa_nil)))) pa_nil)))))
      (pss_one (ps_ret (pe_join pe_str (pv 1))))), ?_⟩
    have line : (1000 : Nat) ≤ sizeLine := by decide
    have lw := paired_len pw
    have ln := kn_short nm gn
    refine ⟨_, rfl, o, C, dx, _, _, rfl, ho, cl, na1, rfl, _, nm, rfl, rfl, ?_, by show 1 ≤ sizeLine; decide, fun l nl => ?_⟩
    · have : ("kind " : Str).length = 5 := rfl
      omega
    have s0 := same_upd (o := .lst [V.str ("kind " ++ nm)]) nl
    refine ⟨_, rfl, o, C, dx, _, _, rfl, s0 _ _ ho, cl, na2, rfl, t, rfl, ⟨_, SqT.of (s0 _ _ ht)⟩, for_it (walk_tup (xs := ws)) (fun i σ H' => ∃ v2 v3 : Option V, σ = [some (.ref o), some (.ref l), v2, v3] ∧ Same H H' ∧ H' l = some (.lst ((("kind " ++ nm : Str) :: (rs.take i).map rowT).map V.str)))
      ⟨_, _, rfl, s0, upd_same⟩ (fun i σ H' _ z => ?_) ?_ ?_⟩
    · obtain ⟨_, _, _, s, _⟩ := z
      exact SqT.of (s _ _ ht)
    · rintro i x σ H2' H2 hi ⟨v2, v3, rfl, s2, at_l⟩ ⟨rfl, hx⟩
      obtain ⟨r, hr', c, rfl, hc⟩ := paired_get pw hx
      obtain ⟨hi', rfl⟩ := List.getElem?_eq_some_iff.mp hr'
      have hc2 := s2 _ _ hc
      have g := gr _ (List.getElem_mem hi')
      refine ⟨_, rfl, .inl ⟨rfl, _, SqL.of at_l⟩, ⟨_, rfl⟩, _, rfl, c, rfl, ⟨_, SqT.of hc2⟩, fun D nD => ?_⟩
      refine lc_tup (xs := rs[i].map ptV) (fun j H' => Same H2 H' ∧ H' D = some (.lst (((rs[i].take j).map ptT).map V.str))) ⟨same_upd nD, upd_same⟩ (fun _ _ _ z => SqT.of (z.1 _ _ hc2)) ?_ ?_
      · rintro j x H3 hx ⟨s3, at_D⟩
        rw [List.getElem?_map] at hx
        obtain ⟨p, hp, rfl⟩ := Option.map_eq_some_iff.mp hx
        obtain ⟨hj, rfl⟩ := List.getElem?_eq_some_iff.mp hp
        have fin : ∃ acc, H3 D = some (.lst acc) ∧ acc.length < sizeLine ∧ Same H2 (upd H3 D (.lst (acc ++ [.str (ptT rs[i][j])]))) ∧ upd H3 D (.lst (acc ++ [.str (ptT rs[i][j])])) D = some (.lst (((rs[i].take (j + 1)).map ptT).map V.str)) := by
          refine ⟨_, at_D, ?_, fun b o e => ?_, ?_⟩
          · have := g.1
            rw [List.length_map, List.length_map, List.length_take]
            omega
          · rw [upd_ne (ne_of_none e nD)]
            exact s3 _ _ e
          · rw [upd_same, List.take_succ_eq_append_getElem hj, List.map_append, List.map_append]
            rfl
        have gp := g.2 _ (List.getElem_mem hj)
        refine ⟨rfl, kept ⟨_, rfl, ?_⟩⟩
        revert fin gp
        generalize rs[i][j] = p
        intro fin gp
        cases p with
        | s y => exact .inr ⟨y, rfl, fin⟩
        | n k =>
          refine .inl ⟨_, rfl, ?_, fin⟩
          have : k < 8 := by
            simp only [pts, List.mem_append, List.mem_map, List.mem_range] at gp
            rcases gp with ⟨_, _, z⟩ | ⟨_, z, e⟩
            · cases z
            · cases e
              exact z
          show (k : Int).natAbs.log2 < 1920
          rw [Int.natAbs_natCast]
          have := Nat.log2_le_self k
          omega
      · rintro H3 ⟨s3, at_D⟩
        rw [List.length_map, List.take_length] at at_D
        have at_l3 := s3 _ _ at_l
        refine ⟨" ", D, rs[i].map ptT, rfl, rfl, .inl (SqL.of at_D), ?_, l, _, _, rfl, rfl, at_l3, ?_, _, _, rfl, fun b o' e => ?_, ?_⟩
        · have := sum_le ((rs[i].map ptT).map fun x => x.length) 10 (fun x hx => by
            obtain ⟨y, hy, rfl⟩ := List.mem_map.mp hx
            obtain ⟨p, hp, rfl⟩ := List.mem_map.mp hy
            exact pt_short p (g.2 p hp))
          have e : (" " : Str).length = 1 := rfl
          rw [e]
          simp only [List.length_map] at this ⊢
          have := g.1
          omega
        · rw [List.length_map, List.length_cons, List.length_map, List.length_take]
          omega
        · rw [upd_ne (ne_of_none e nl)]
          exact s3 _ _ (s2 _ _ e)
        · rw [upd_same, List.take_succ_eq_append_getElem hi', List.map_append, ← List.cons_append, List.map_append]
          rfl
    · rintro σ H2 ⟨v2, v3, rfl, s2, at_l⟩
      rw [lw, List.take_length] at at_l
      refine ⟨⟨_, rfl⟩, _, rfl, "\n", l, _, rfl, rfl, .inl (SqL.of at_l), ?_, k _ s2⟩
      have := sum_le ((rs.map rowT).map fun x => x.length) 40 (fun x hx => by
        obtain ⟨y, hy, rfl⟩ := List.mem_map.mp hx
        obtain ⟨p, hp, rfl⟩ := List.mem_map.mp hy
        exact row_short (gr p hp))
      have e : ("\n" : Str).length = 1 := rfl
      have e5 : ("kind " ++ nm : Str).length = 5 + nm.length := by
        rw [Tx.len_L, Tx.L_append, List.length_append, Tx.len_L nm]
        rfl
      rw [e]
      simp only [List.map_cons, List.sum_cons, List.length_cons, List.length_map] at this ⊢
      omega
end
end K08

namespace K08
open PySem PySem.Spec PyProof.Rows L2
open Cal EnuT Exn Keys

def ptD : Pt → PyData
  | .s x => .str x
  | .n k => .int (k : Nat)
def rowD (r : List Pt) : PyData := .tuple (r.map ptD)
def rowsD (rs : List (List Pt)) : PyData := .tuple (rs.map rowD)
theorem eqv_pt (p q : Pt) : PyData.eqv (ptD p) (ptD q) = decide (p = q) := by
  cases p <;> cases q <;> simp [ptD, PyData.eqv]
  all_goals rw [Bool.eq_iff_iff, beq_iff_eq, decide_eq_true_iff]
  all_goals omega
theorem eqv_row (r t : List Pt) : PyData.eqv (rowD r) (rowD t) = decide (r = t) := by
  have h : PyData.eqvAll (r.map ptD) (t.map ptD) = decide (r = t) := by
    induction r generalizing t with
    | nil => cases t <;> simp [PyData.eqvAll]
    | cons d ds ih =>
      cases t with
      | nil => simp [PyData.eqvAll]
      | cons e es =>
        simp only [List.map_cons, PyData.eqvAll, eqv_pt, ih]
        by_cases h1 : d = e <;> by_cases h2 : ds = es <;> simp [h1, h2]
  simp only [rowD, PyData.eqv, h]
theorem eqv_all (r t : List (List Pt)) : PyData.eqvAll (r.map rowD) (t.map rowD) = decide (r = t) := by
  induction r generalizing t with
  | nil => cases t <;> simp [PyData.eqvAll]
  | cons d ds ih =>
    cases t with
    | nil => simp [PyData.eqvAll]
    | cons e es =>
      simp only [List.map_cons, PyData.eqvAll, eqv_row, ih]
      by_cases h1 : d = e <;> by_cases h2 : ds = es <;> simp [h1, h2]
theorem eqv_rows (r t : List (List Pt)) : PyData.eqv (rowsD r) (rowsD t) = decide (r = t) := by
  simp only [rowsD, PyData.eqv, eqv_all]
theorem dp_pt {K : W.Frag} {H : Hp} (p : Pt) : Dp K H (ptV p) (ptD p) := by
  cases p with
  | s x => exact .str x
  | n k => exact .int _
theorem dps_pts {K : W.Frag} {H : Hp} : ∀ r : List Pt, DpAll K H (r.map ptV) (r.map ptD)
  | [] => .nil
  | p :: r => .cons (dp_pt p) (dps_pts r)
theorem dps_rows {K : W.Frag} {H : Hp} : ∀ {ws : List V} {rs : List (List Pt)}, Paired (RowAt H) ws rs → DpAll K H ws (rs.map rowD)
  | _, _, .nil => .nil
  | _, _, .cons ⟨c, e, ec⟩ t => by
    subst e
    exact .cons (.tup (SqT.of ec) (dps_pts _)) (dps_rows t)
theorem dp_rows {K : W.Frag} {H : Hp} {t : Addr} {ws : List V} {rs : List (List Pt)} (ht : H t = some (.tup ws)) (pw : Paired (RowAt H) ws rs) : Dp K H (.ref t) (rowsD rs) := .tup (SqT.of ht) (dps_rows pw)
theorem lay_pt : ∀ p, p ∈ pts → (ptD p).canLay0 = true ∧ (ptD p).depth ≤ 1 := by
  have h : pts.all (fun p => (ptD p).canLay0 && decide ((ptD p).depth ≤ 1)) = true := by decide +kernel
  intro p hp
  have := List.all_eq_true.mp h p hp
  simp only [Bool.and_eq_true, decide_eq_true_eq] at this
  exact this
theorem lay_row {r : List Pt} (g : GoodRow r) : (rowD r).canLay0 = true ∧ (rowD r).depth ≤ 2 := by
  have h : ∀ r : List Pt, (∀ p, p ∈ r → p ∈ pts) → PyData.canLayAll0 (r.map ptD) = true ∧ PyData.depthAll (r.map ptD) ≤ 1 := by
    intro r
    induction r with
    | nil => exact fun _ => ⟨by simp [PyData.canLayAll0], by simp [PyData.depthAll]⟩
    | cons d ds ih =>
      intro g
      obtain ⟨i1, i2⟩ := ih fun e he => g e (List.mem_cons_of_mem _ he)
      obtain ⟨e1, e2⟩ := lay_pt d (g d (List.mem_cons_self ..))
      refine ⟨?_, ?_⟩
      · rw [List.map_cons, PyData.canLayAll0, e1, i1]
        rfl
      · rw [List.map_cons, PyData.depthAll]
        omega
  obtain ⟨h1, h2⟩ := h r g.2
  refine ⟨?_, ?_⟩
  · simp only [rowD, PyData.canLay0, h1]
  · simp only [rowD, PyData.depth]
    omega
theorem lay_all {rs : List (List Pt)} : (∀ r, r ∈ rs → GoodRow r) → PyData.canLayAll0 (rs.map rowD) = true ∧ PyData.depthAll (rs.map rowD) ≤ 2 := by
  induction rs with
  | nil => exact fun _ => ⟨by simp [PyData.canLayAll0], by simp [PyData.depthAll]⟩
  | cons d ds ih =>
    intro g
    obtain ⟨i1, i2⟩ := ih fun e he => g e (List.mem_cons_of_mem _ he)
    obtain ⟨e1, e2⟩ := lay_row (g d (List.mem_cons_self ..))
    refine ⟨?_, ?_⟩
    · rw [List.map_cons, PyData.canLayAll0, e1, i1]
      rfl
    · rw [List.map_cons, PyData.depthAll]
      omega
theorem shaped_rows {rs : List (List Pt)} (g : GoodRows rs) : SeqAt.shaped (rowsD rs) = true := by
  obtain ⟨h1, h2⟩ := lay_all g.2
  simp only [SeqAt.shaped, rowsD, PyData.canLay0, PyData.depth, h1, Bool.true_and, decide_eq_true_eq]
  omega
abbrev sEq : Stmt := inClass sKind 1
/-- == of a kind with a kind, or with something else -/
def spEq (K : W.Frag) (C : Addr) : Sp := fun vs H Q _ => ∃ (o : Addr) (y : V) (nm : Str) (rs : List (List Pt)), vs = [.ref o, y] ∧ KindIns H C o nm rs ∧ GoodRows rs ∧
  ((∃ o2 nm2 rs2, y = .ref o2 ∧ KindIns H C o2 nm2 rs2 ∧ GoodRows rs2 ∧ Q (.bl (decide (nm = nm2) && decide (rs = rs2))) H) ∨ (∃ t, TyX K H y t ∧ W.kitOne K t (.ref C) = some false ∧ Q (.bl false) H))
section
variable {P : Program} {w : World} {K : W.Frag} {mg : Str → Option Value} {base : Heap}
theorem scEq : FnScope ["self", "other"] ["self", "other"] (defScope sEq) := ⟨rfl, rfl, rfl, by decide +kernel, rfl, by decide +kernel, by decide +kernel⟩
theorem ok_eq {f C : Addr} {fd : FuncData} (F : Fun K "__eq__" "Kind.__eq__" sEq f fd) (B : Bl mg) (cl : Cls K C) (na1 : NoAttr K C "name") (na2 : NoAttr K C "rows") (mC : mg "Kind" = some (.ref C)) (ty : ∀ (H : Hp) (a dx : Addr) (fs : List (Str × V)), H a = some (.ins C dx fs) → TyX K H (.ref a) (.ref C)) (self : W.kitOne K (.ref C) (.ref C) = some true) :
    FnOk P w K mg base CX0 1 f fd ["self", "other"] (spEq K C) := by
  refine F.ok scEq (fun vs H Q E h => ?_) (fun cdv A outer s H vs Q E hr h => ?_)
  · obtain ⟨o, y, nm, rs, rfl, _⟩ := h
    rfl
  · obtain ⟨o, y, nm, rs, rfl, ⟨dx, t, ws, ho, ht, pw⟩, g, q⟩ := h
    have un := hr.units
    refine ⟨_, pss_one (ps_ret (pe_and (pe_callB call_isi (by rfl) B.isi (by decide +kernel) (pa_cons (pv 1) (pa_cons (pe_glob (v := .ref C) rfl mC rfl) pa_nil)))
      (pe_and (pe_cmpR op_eq (pe_fld (pv 0) rfl) (pe_fld (pv 1) rfl) (nomark _)) (pe_one (pe_cmpR (op_eqD un) (pe_fld (pv 0) rfl) (pe_fld (pv 1) rfl) (nomark _)))))), ?_⟩
    rcases q with ⟨o2, nm2, rs2, rfl, ⟨dx2, t2, ws2, ho2, ht2, pw2⟩, g2, q⟩ | ⟨ty2, hty, no, q⟩
    · refine ⟨_, rfl, _, _, _, _, _, rfl, .own C, ty _ _ _ _ ho2, self, _, rfl, iteT ?_⟩
      refine ⟨_, rfl, o, C, dx, _, _, rfl, ho, cl, na1, rfl, _, rfl, o2, C, dx2, _, _, rfl, ho2, cl, na1, rfl, rfl, _, rfl, ?_⟩
      have dn : decide (V.str nm = V.str nm2) = decide (nm = nm2) := by
        by_cases e : nm = nm2 <;> simp [e]
      rw [dn]
      by_cases e : nm = nm2
      · rw [decide_eq_true e] at q ⊢
        rw [Bool.true_and] at q
        refine iteT ⟨_, rfl, o, C, dx, _, _, rfl, ho, cl, na2, rfl, _, rfl, o2, C, dx2, _, _, rfl, ho2, cl, na2, rfl, rowsD rs, rowsD rs2, dp_rows ht pw, dp_rows ht2 pw2, shaped_rows g, shaped_rows g2, ?_⟩
        rw [eqv_rows]
        exact q
      · rw [decide_eq_false e] at q ⊢
        exact iteF q
    · exact ⟨_, rfl, _, _, _, _, _, rfl, .own C, hty, no, _, rfl, iteF q⟩
end
end K08

namespace K08
open PySem PySem.Spec PyProof.Rows L2
open Cal EnuT Exn Keys

def figB (s : Str) : Bool := decide (s.length = 1) && ((!decide (s.cps.toList < ("0" : Str).cps.toList)) && !decide (("9" : Str).cps.toList < s.cps.toList))
def wordP (s : Str) : Pt := if figB s then .n (s.cps.getD 0 0 - 48) else .s s
def rowP (s : Str) : List Pt := match Txt.split s " " with
  | [] => []
  | p :: ps => .s p :: ps.map wordP
theorem fig_text {s : Str} (h : figB s = true) : PySem.intText? s = some ((s.cps.getD 0 0 - 48 : Nat) : Int) := by
  obtain ⟨⟨l⟩⟩ := s
  simp only [figB, Bool.and_eq_true, decide_eq_true_eq] at h
  obtain ⟨h1, h2, h3⟩ := h
  match l, h1, h2, h3 with
  | [c], _, h2, h3 =>
    have e0 : ("0" : Str).cps.toList = [48] := rfl
    have e9 : ("9" : Str).cps.toList = [57] := rfl
    rw [e0] at h2
    rw [e9] at h3
    have h2 : ¬ ([c] < [48]) := by simpa using h2
    have h3 : ¬ ([57] < [c]) := by simpa using h3
    have l1 : 48 ≤ c := by
      apply Nat.le_of_not_lt
      intro z
      exact h2 (List.Lex.rel z)
    have l2 : c ≤ 57 := by
      apply Nat.le_of_not_lt
      intro z
      exact h3 (List.Lex.rel z)
    have all : (List.range 10).all (fun i => decide (PySem.intText? ⟨#[48 + i]⟩ = some (i : Int))) = true := by decide +kernel
    have := of_decide_eq_true (List.all_eq_true.mp all (c - 48) (List.mem_range.mpr (by omega)))
    rw [show 48 + (c - 48) = c by omega] at this
    exact this
def spWord : Sp := fun vs H Q _ => ∃ s, vs = [.str s] ∧ s.length ≤ 1000 ∧ ∀ H', Same H H' → Q (ptV (wordP s)) H'
def spRowOf : Sp := fun vs H Q _ => ∃ s, vs = [.str s] ∧ s.length ≤ 900 ∧ (Txt.split s " ").length ≤ 1000 ∧ (∀ t, t ∈ Txt.split s " " → t.length ≤ 1000) ∧ ∀ H' T, Same H H' → H T = none → H' T = some (.tup ((rowP s).map ptV)) → Q (.ref T) H'
theorem cut_tail (p : Str) (ps : List Str) : cutV ((p :: ps).map V.str) (some 1) none = ps.map V.str := by
  unfold cutV
  have e : HT.sIx ((p :: ps).map V.str).length 0 (some 1) = 1 := by
    rw [show (some (1 : Int)) = some ((1 : Nat) : Int) from rfl, HT.sIx_nat, List.length_map, List.length_cons]
    omega
  rw [e, HT.sIx_none, List.map_cons, List.drop_one, List.tail_cons]
  refine List.take_of_length_le ?_
  rw [List.length_cons]
  omega
section
variable {P : Program} {w : World} {K : W.Frag} {mg : Str → Option Value} {base : Heap}
theorem scWo : FnScope ["part"] ["part"] (defScope sWordOf) := ⟨rfl, rfl, rfl, by decide +kernel, rfl, by decide +kernel, by decide +kernel⟩
theorem ok_word {f : Addr} {fd : FuncData} (F : Fun K "_word_of" "_word_of" sWordOf f fd) (B : Bl mg) (mI : mg "int" = none) : FnOk P w K mg base CX0 1 f fd ["part"] spWord := by
  refine F.ok scWo (fun vs H Q E h => ?_) (fun cdv A outer s H vs Q E hr h => ?_)
  · obtain ⟨s, rfl, _⟩ := h
    rfl
  · obtain ⟨s, rfl, few, k⟩ := h
    refine ⟨_, pss_cons (ps_if (PW.pt (pw_and (pt_cmpR op_eq (pe_callB call_len_str (by rfl) B.len PySem.boot_len (pa_cons (pv 0) pa_nil)) pe_int (nomark _)) (pw_and1 (pt_chain op_le_str op_le_str pe_str (pv 0) pe_str)))) (pss_one (ps_ret (pe_callTy call_int_str (by rfl) mI (by decide +kernel) (pa_cons (pv 0) pa_nil)))) pss_nil)
      (pss_one (ps_ret (pv 0))), ?_⟩
    have line : (1000 : Nat) ≤ sizeLine := by decide
    have q := k H (Same.refl _)
    have yes : figB s = true → Q (.int ((s.cps.getD 0 0 - 48 : Nat) : Int)) H := fun e => by
      rw [wordP, if_pos e] at q
      exact q
    have no : figB s = false → Q (.str s) H := fun e => by
      rw [wordP, if_neg (by rw [e]; decide)] at q
      exact q
    refine ⟨_, rfl, s, rfl, by omega, rfl, _, rfl, ?_⟩
    have dn : decide (V.int (s.length : Nat) = V.int 1) = decide (s.length = 1) := by
      by_cases e : s.length = 1
      · rw [e]
        rfl
      · rw [decide_eq_false e]
        refine decide_eq_false fun z => e ?_
        injection z with z
        omega
    rw [dn]
    by_cases h1 : s.length = 1
    · rw [decide_eq_true h1]
      refine iteT ⟨_, rfl, _, _, rfl, rfl, _, rfl, ?_⟩
      cases h2 : (!decide (s.cps.toList < ("0" : Str).cps.toList)) with
      | false => exact iteF ⟨_, rfl, iteF ⟨_, rfl, no (by unfold figB; rw [h2]; simp)⟩⟩
      | true =>
        refine iteT ⟨_, _, rfl, rfl, _, rfl, ?_⟩
        cases h3 : (!decide (("9" : Str).cps.toList < s.cps.toList)) with
        | false => exact iteF ⟨_, rfl, no (by unfold figB; rw [h3]; simp)⟩
        | true =>
          have fb : figB s = true := by unfold figB; rw [h2, h3]; simp [h1]
          exact iteT ⟨_, rfl, s, _, rfl, fig_text fb, by omega, yes fb⟩
    · rw [decide_eq_false h1]
      exact iteF (iteF ⟨_, rfl, no (by unfold figB; simp [h1])⟩)
theorem scRo : FnScope ["line", "parts", "part"] ["line"] (defScope sRowOf) := ⟨rfl, rfl, rfl, by decide +kernel, rfl, by decide +kernel, by decide +kernel⟩
theorem ok_rowof {f : Addr} {fd : FuncData} (F : Fun K "_row_of" "_row_of" sRowOf f fd) (Wd : Callee P w K mg base "_word_of" 1 ["part"] spWord) : FnOk P w K mg base CX0 2 f fd ["line"] spRowOf := by
  refine F.ok scRo (fun vs H Q E h => ?_) (fun cdv A outer s H vs Q E hr h => ?_)
  · obtain ⟨s, rfl, _⟩ := h
    rfl
  · obtain ⟨s, rfl, few, many, short, k⟩ := h
    refine ⟨_, pss_cons (ps_set (i := 1) scRo.nd rfl (Or.inl rfl) (pe_split (pv 0) pe_str))
      (pss_one (ps_ret (pe_tup (pa_cons (pe_ix ix_seq (pv 1) pe_int (fun _ _ => rfl)) (StX.pa_star (pe_lc (own := [("part", 2)]) (g := gName 2) (tt := tYes) (by rfl) scRo.nd (pi_list (pe_slice sl_list (pv 1) (po_some pe_int) po_none))
        (blkOk_by (own := [("part", 2)]) (N := ["line", "parts", "part"]) (sc := defScope sRowOf) (by decide +kernel))
        (fun _ _ _ _ _ => pg_name (i := 2) scRo.nd rfl (Or.inl rfl)) (fun _ _ _ _ _ => pts_nil)
        (fun _ _ _ _ _ => pe_callee Wd hr rfl (pa_cons (pv 2) pa_nil))) pa_nil))))), ?_⟩
    have line : (2000 : Nat) ≤ sizeLine := by decide
    refine ⟨_, rfl, ⟨_, rfl⟩, _, _, rfl, rfl, rfl, by omega, fun u nu => ?_⟩
    have s0 := same_upd (o := .lst ((Txt.split s " ").map V.str)) nu
    obtain ⟨p, ps, ep⟩ : ∃ p ps, Txt.split s " " = p :: ps := by
      cases e : Txt.split s " " with
      | nil => exact absurd e (Tx.split_ne _ _)
      | cons p ps => exact ⟨p, ps, rfl⟩
    have er : rowP s = .s p :: ps.map wordP := by unfold rowP; rw [ep]
    rw [er] at k
    rw [ep] at many short s0 ⊢
    have at_u : upd H u (.lst ((p :: ps).map V.str)) u = some (.lst ((p :: ps).map V.str)) := upd_same
    revert at_u s0
    generalize upd H u (.lst ((p :: ps).map V.str)) = HU
    intro s0 at_u
    refine ⟨_, rfl, ix_of (j := 0) (.inl at_u) rfl ⟨_, rfl, 1, rfl, u, _, rfl, SqL.of at_u, fun c nc => ?_⟩⟩
    rw [cut_tail]
    have s1 := same_upd (o := .lst (ps.map V.str)) nc
    have at_c : upd HU c (.lst (ps.map V.str)) c = some (.lst (ps.map V.str)) := upd_same
    revert at_c s1
    generalize upd HU c (.lst (ps.map V.str)) = HC
    intro s1 at_c
    have s01 := s0.trans s1
    refine ⟨c, rfl, ⟨_, SqL.of at_c⟩, fun D nD => ?_⟩
    have pl : ps.length ≤ 1000 := by
      rw [List.length_cons] at many
      omega
    refine lc_list (xs := ps.map V.str) (fun i H' => Same HC H' ∧ H' D = some (.lst (((ps.take i).map wordP).map ptV))) ⟨same_upd nD, upd_same⟩ (fun i H' _ z => SqL.of (z.1 _ _ at_c)) ?_ ?_
    · rintro i x H1 hx ⟨s2, at_D⟩
      rw [List.getElem?_map] at hx
      obtain ⟨y, hy, rfl⟩ := Option.map_eq_some_iff.mp hx
      obtain ⟨hi, rfl⟩ := List.getElem?_eq_some_iff.mp hy
      refine ⟨rfl, kept ⟨_, rfl, ps[i], rfl, short _ (List.mem_cons_of_mem _ (List.getElem_mem hi)), fun H3 s3 => ?_⟩⟩
      have at_D3 := s3 _ _ at_D
      refine ⟨_, at_D3, ?_, fun b o e => ?_, ?_⟩
      · rw [List.length_map, List.length_map, List.length_take]
        omega
      · rw [upd_ne (ne_of_none e nD)]
        exact s3 _ _ (s2 _ _ e)
      · rw [upd_same, List.take_succ_eq_append_getElem hi, List.map_append, List.map_append]
        rfl
    · rintro H1 ⟨s2, at_D⟩
      rw [List.length_map, List.take_length] at at_D
      refine ⟨D, _, rfl, .inr (SqL.of at_D), ?_, fun t nt => ?_⟩
      · rw [List.length_cons, List.append_nil, List.length_map, List.length_map]
        omega
      · have s02 := s01.trans s2
        refine k _ t (s02.trans (same_upd nt)) (s02.free nt) ?_
        rw [upd_same, List.append_nil]
        rfl
end
end K08

namespace K08
open PySem PySem.Spec PyProof.Rows L2
open Cal EnuT Exn Keys

def linesOf (s : Str) : List Str := Txt.split s "\n"
def nmOf (s : Str) : Str := cutS ((linesOf s).headD "") (some 5) none
def rowsOf (s : Str) : List (List Pt) := (linesOf s).tail.map rowP
/-- a text that is short -/
def ShortT (s : Str) : Prop := s.length ≤ 900 ∧ (linesOf s).length ≤ 20 ∧ ∀ r, r ∈ linesOf s → (Txt.split r " ").length ≤ 50
def hdOk (nm : Str) (rs : List (List Pt)) : Bool := nameOk nm && (decide (1 ≤ rs.length) && decide (rs.length ≤ 6))
def rowPB (m : Int) (r : List Pt) : Bool := rowL m (r.map ptV)
def firstBad (rs : List (List Pt)) (i : Nat) : Prop := i < rs.length ∧ (∀ j (h : j < rs.length), j < i → rowPB rs.length rs[j] = true) ∧ ∀ h : i < rs.length, rowPB rs.length rs[i] = false
def readB : V → Bool
  | .str s => Txt.startswith s "kind "
  | _ => false
def spRead (C CG CT : Addr) : Sp := fun vs H Q E => ∃ v : V, vs = [v] ∧ OkV H v ∧
  (readB v = false → ∀ H' d, Same H H' → H d = none → H' d = some (.xd [("at", .int 0)]) → E (.ref CT) (some d) H') ∧
  ∀ s, v = .str s → ShortT s ∧ (readB v = true →
    (hdOk (nmOf s) (rowsOf s) = false → ∀ H' d, Same H H' → H d = none → H' d = some (.xd [("at", .int (-1))]) → E (.ref CG) (some d) H') ∧
    (hdOk (nmOf s) (rowsOf s) = true → (∀ i, firstBad (rowsOf s) i → ∀ H' d, Same H H' → H d = none → H' d = some (.xd [("at", .int (i : Nat))]) → E (.ref CG) (some d) H') ∧
      ((∀ r, r ∈ rowsOf s → rowPB (rowsOf s).length r = true) → ∀ H' o, Same H H' → H o = none → KindIns H' C o (nmOf s) (rowsOf s) → Q (.ref o) H')))
theorem words_short {s r t : Str} (h : s.length ≤ 900) (hr : r ∈ linesOf s) (ht : t ∈ Txt.split r " ") : r.length ≤ 900 ∧ t.length ≤ 900 := by
  have h1 : r.length ≤ s.length := Tx.split_len r hr
  have h2 : t.length ≤ r.length := Tx.split_len t ht
  omega
theorem rowP_ok {s r : Str} (h : s.length ≤ 900) (hr : r ∈ linesOf s) (hw : (Txt.split r " ").length ≤ 50) : (rowP r).length ≤ 100 ∧ ∀ p, p ∈ rowP r → ∀ x, p = .s x → x.length ≤ 1000 := by
  unfold rowP
  cases e : Txt.split r " " with
  | nil => exact ⟨by simp, fun p hp => nomatch hp⟩
  | cons p ps =>
    rw [e] at hw
    refine ⟨?_, fun q hq x ex => ?_⟩
    · show (Pt.s p :: ps.map wordP).length ≤ 100
      rw [List.length_cons, List.length_map]
      rw [List.length_cons] at hw
      omega
    · subst ex
      have hp : x ∈ Txt.split r " " := by
        rw [e]
        rcases List.mem_cons.mp hq with z | z
        · injection z with z
          rw [z]
          exact List.mem_cons_self ..
        · obtain ⟨y, hy, ey⟩ := List.mem_map.mp z
          unfold wordP at ey
          split at ey
          · cases ey
          · injection ey with ey
            rw [← ey]
            exact List.mem_cons_of_mem _ hy
      have := (words_short h hr hp).2
      omega
theorem rowok_of {H : Hp} {c : Addr} {r : List Pt} (e : H c = some (.tup (r.map ptV))) (l : r.length ≤ 100) (f : ∀ p, p ∈ r → ∀ x, p = .s x → x.length ≤ 1000) : RowOk H (.ref c) := by
  refine ⟨⟨.tup e, fun xs h x hx => ?_⟩, fun ys h => ?_⟩
  · rw [seqOf_tup e] at h
    obtain rfl := Option.some.inj h
    obtain ⟨p, hp, rfl⟩ := List.mem_map.mp hx
    cases hp' : p with
    | s y =>
      refine ⟨.str _, fun s es => ?_⟩
      injection es with es
      rw [← es]
      exact f p hp y hp'
    | n k => exact ⟨.int _, fun s es => nomatch es⟩
  · rw [seqOf_tup e] at h
    obtain rfl := Option.some.inj h
    rw [List.length_map]
    exact l
theorem rowB_of {H : Hp} {m : Int} {c : Addr} {r : List Pt} (e : H c = some (.tup (r.map ptV))) : rowB m H (.ref c) = rowPB m r := by
  unfold rowB rowPB
  rw [seqOf_tup e]
/-- what a kind keeps, where it was handed rows that are told so -/
theorem paired_tup {H1 H2 : Hp} : ∀ {ws ls : List V} {rs : List (List Pt)}, Paired (fun w x => ∃ c, w = V.ref c ∧ H2 c = some (.tup (tupOf H1 x))) ws ls → Paired (RowAt H1) ls rs → Paired (RowAt H2) ws rs
  | _, _, _, .nil, .nil => .nil
  | _, _, _, .cons ⟨c, e, ec⟩ t, .cons ⟨u, e2, eu⟩ t2 => by
    refine .cons ⟨c, e, ?_⟩ (paired_tup t t2)
    rw [ec, e2]
    unfold tupOf
    rw [seqOf_tup eu]
    rfl
/-- a kind made of a name and of a list of tuples -/
theorem init_of {C CG x dx l : Addr} {H : Hp} {nm : Str} {rs : List (List Pt)} {ws : List V} {Q : VK} {E : XK} (hx : H x = some (.ins C dx [])) (hl : H l = some (.lst ws)) (pw : Paired (RowAt H) ws rs) (nl : nm.length ≤ 1000) (few : rs.length ≤ 20) (ok : ∀ r, r ∈ rs → r.length ≤ 100 ∧ ∀ p, p ∈ r → ∀ x, p = .s x → x.length ≤ 1000)
    (no : hdOk nm rs = false → ∀ H' d, Same H H' → H d = none → H' d = some (.xd [("at", .int (-1))]) → E (.ref CG) (some d) H')
    (bad : hdOk nm rs = true → ∀ i, firstBad rs i → ∀ H' d, Same H H' → H d = none → H' d = some (.xd [("at", .int (i : Nat))]) → E (.ref CG) (some d) H')
    (good : hdOk nm rs = true → (∀ r, r ∈ rs → rowPB rs.length r = true) → ∀ H', (∀ b u, b ≠ x → H b = some u → H' b = some u) → KindIns H' C x nm rs → Q .non H') : spInit C CG [.ref x, .str nm, .ref l] H Q E := by
  have lw := paired_len pw
  have hh : headB H (.str nm) (.ref l) = hdOk nm rs := by
    unfold headB hdOk
    rw [seqOf_lst hl]
    show (nameOk nm && (decide (1 ≤ ws.length) && decide (ws.length ≤ 6))) = _
    rw [lw]
  have each : ∀ (i : Nat) (hi : i < ws.length) (hr : i < rs.length), ∃ c, ws[i] = .ref c ∧ H c = some (.tup (rs[i].map ptV)) := by
    intro i hi hr
    obtain ⟨r, hr', q⟩ := paired_get pw (List.getElem?_eq_getElem hi)
    rw [List.getElem?_eq_getElem hr] at hr'
    obtain rfl := Option.some.inj hr'
    exact q
  have eachB : ∀ (i : Nat) (hi : i < ws.length) (hr : i < rs.length), rowB ws.length H ws[i] = rowPB rs.length rs[i] := by
    intro i hi hr
    obtain ⟨c, e, ec⟩ := each i hi hr
    rw [e, rowB_of ec, lw]
  refine ⟨x, dx, .str nm, .ref l, rfl, hx, .str _, (fun z ez => by injection ez with ez; rw [← ez]; exact nl), .lst hl, fun xs h => ?_, fun e => no (by rw [← hh]; exact e), fun xs i h e fb => ?_, fun xs h e gd H' t us keep ex et pu => ?_⟩
  · rw [seqOf_lst hl] at h
    obtain rfl := Option.some.inj h
    refine ⟨by omega, fun y hy => ?_⟩
    obtain ⟨i, hi, rfl⟩ := List.getElem_of_mem hy
    have hr : i < rs.length := by omega
    obtain ⟨c, e, ec⟩ := each i hi hr
    obtain ⟨o1, o2⟩ := ok _ (List.getElem_mem hr)
    rw [e]
    exact rowok_of ec o1 o2
  · rw [seqOf_lst hl] at h
    obtain rfl := Option.some.inj h
    obtain ⟨hi, before, at_i⟩ := fb
    refine bad (by rw [← hh]; exact e) i ⟨by omega, fun j hj hji => ?_, fun hr => ?_⟩
    · rw [← eachB j (by omega) hj]
      exact before j (by omega) hji
    · rw [← eachB i hi hr]
      exact at_i
  · rw [seqOf_lst hl] at h
    obtain rfl := Option.some.inj h
    refine good (by rw [← hh]; exact e) (fun r hr => ?_) H' keep ⟨dx, t, us, ex, et, paired_tup pu pw⟩
    obtain ⟨i, hi, rfl⟩ := List.getElem_of_mem hr
    rw [← eachB i (by omega) hi]
    exact gd _ (List.getElem_mem _)
section
variable {P : Program} {w : World} {K : W.Frag} {mg : Str → Option Value} {base : Heap}
abbrev sRead : Stmt := inClass sKind 2
abbrev NRd : List Str := ["text", "lines", "line"]
theorem scRd : FnScope NRd ["text"] (defScope sRead) := ⟨rfl, rfl, rfl, by decide +kernel, rfl, by decide +kernel, by decide +kernel⟩
theorem ok_read {f C CT CG fI : Addr} {fd fdI : FuncData} (F : Fun K "read" "Kind.read" sRead f fd) (B : Bl mg) (cT : CE P w K mg base "InvalidText" CT "at") (Ro : Callee P w K mg base "_row_of" 2 ["line"] spRowOf)
    (mK : mg "Kind" = some (.ref C)) (mk : Mk K C fI) (bI : Binds K fdI ["self", "name", "rows"] []) (FI : FnOk P w K mg base (L2.CX P w) 6 fI fdI ["self", "name", "rows"] (spInit C CG)) :
    FnOk P w K mg base (L2.CX P w) 8 f fd ["text"] (spRead C CG CT) := by
  refine F.okX scRd (fun vs H Q E h => ?_) (fun cdv A outer s H vs Q E hr h => ?_)
  · obtain ⟨v, rfl, _⟩ := h
    rfl
  · obtain ⟨v, rfl, ov, no, yes⟩ := h
    have hr2 := hr.mono (show 2 ≤ 7 by decide)
    refine ⟨_, pss_cons (ps_if (PW.pt (pw_or (pt_not (pt_val (pe_callB call_isi (by rfl) B.isi (by decide +kernel) (pa_cons (pv 0) (pa_cons (pe_bltn (v := .ty "str") rfl B.str (by decide +kernel) rfl) pa_nil))))) (pw_or1 (pt_not (pt_val (pe_m1 PySem.F.slot_str_startswith PySem.F.type_str_startswith mt_startswith (pv 0) pe_str)))))) (pss_one (ps_raise rfl (takes_of rfl rfl rfl rfl) (pmk_exn cT hr2 rfl pe_int))) pss_nil)
      (pss_cons (ps_set (i := 1) scRd.nd rfl (Or.inl rfl) (pe_split (pv 0) pe_str))
      (pss_one (ps_ret (pe_make mk FI hr rfl mK bI .nil (passes_call (takes_of rfl rfl rfl rfl) (fun _ _ _ _ h => h))
        (pa_cons (pe_slice sl_str (pe_ix ix_seq (pv 1) pe_int (fun _ _ => rfl)) (po_some (pe_callB call_len_str (by rfl) B.len PySem.boot_len (pa_cons pe_str pa_nil))) po_none)
        (pa_cons (pe_lc (own := [("line", 2)]) (g := gName 2) (tt := tYes) (by rfl) scRd.nd (pi_list (pe_slice sl_list (pv 1) (po_some pe_int) po_none))
          (blkOk_by (own := [("line", 2)]) (N := NRd) (sc := defScope sRead) (by decide +kernel))
          (fun _ _ _ _ _ => pg_name (i := 2) scRd.nd rfl (Or.inl rfl)) (fun _ _ _ _ _ => pts_nil)
          (fun _ _ _ _ _ => pe_callee Ro hr2 rfl (pa_cons (pv 2) pa_nil))) pa_nil)))))), ?_⟩
    have line : (2000 : Nat) ≤ sizeLine := by decide
    obtain ⟨ty, h1, _, h3, _, _⟩ := ov.ty (K := K)
    refine ⟨_, rfl, _, _, _, _, _, rfl, .ty "str", h1, h3, _, rfl, ?_⟩
    cases es : isStr v with
    | false =>
      have rb : readB v = false := by cases v <;> first | rfl | cases es
      exact iteT (iteT ⟨_, rfl, fun d nd => no rb _ d (same_upd nd) nd upd_same⟩)
    | true =>
      obtain ⟨s, rfl⟩ : ∃ z, v = .str z := by cases v <;> first | exact ⟨_, rfl⟩ | (cases es)
      refine iteF ⟨_, rfl, ⟨_, rfl⟩, s, _, rfl, rfl, _, rfl, ?_⟩
      cases rb : Txt.startswith s "kind " with
      | false => exact iteT ⟨_, rfl, fun d nd => no rb _ d (same_upd nd) nd upd_same⟩
      | true =>
        obtain ⟨⟨s900, few, short⟩, q⟩ := yes s rfl
        obtain ⟨noH, q⟩ := q rb
        obtain ⟨p, ps, ep⟩ : ∃ p ps, linesOf s = p :: ps := by
          cases e : linesOf s with
          | nil => exact absurd e (Tx.split_ne _ _)
          | cons p ps => exact ⟨p, ps, rfl⟩
        have en : nmOf s = cutS p (some 5) none := by unfold nmOf; rw [ep]; rfl
        have er : rowsOf s = ps.map rowP := by unfold rowsOf; rw [ep]; rfl
        rw [en, er] at noH q
        refine iteF ⟨_, rfl, ⟨_, rfl⟩, _, _, rfl, rfl, rfl, by omega, fun u nu => ?_⟩
        have s0 := same_upd (o := .lst ((linesOf s).map V.str)) nu
        have at_u : upd H u (.lst ((linesOf s).map V.str)) u = some (.lst ((linesOf s).map V.str)) := upd_same
        revert at_u s0
        show _ → _ → _
        unfold linesOf at ep ⊢
        generalize upd H u (.lst ((Txt.split s "\n").map V.str)) = HU
        intro s0 at_u
        rw [ep] at at_u
        have pp : ∀ r, r ∈ p :: ps → r.length ≤ 900 ∧ (Txt.split r " ").length ≤ 50 ∧ ((rowP r).length ≤ 100 ∧ ∀ q, q ∈ rowP r → ∀ x, q = .s x → x.length ≤ 1000) ∧ ∀ t, t ∈ Txt.split r " " → t.length ≤ 1000 := by
          intro r hr
          have hr : r ∈ linesOf s := by unfold linesOf; rw [ep]; exact hr
          have hw := short r hr
          have h1 : r.length ≤ s.length := Tx.split_len r hr
          refine ⟨by omega, hw, rowP_ok s900 hr hw, fun t ht => ?_⟩
          have := (words_short s900 hr ht).2
          omega
        have fewp : ps.length ≤ 19 := by
          have : (linesOf s).length = ps.length + 1 := by unfold linesOf; rw [ep]; rfl
          omega
        have lp := (pp p (List.mem_cons_self ..)).1
        refine ⟨_, rfl, ix_of (j := 0) (.inl at_u) rfl ⟨_, rfl, by decide, _, rfl, p, rfl, by omega, _, rfl, 1, rfl, u, _, rfl, SqL.of at_u, fun c nc => ?_⟩⟩
        rw [cut_tail]
        have s1 := same_upd (o := .lst (ps.map V.str)) nc
        have at_c : upd HU c (.lst (ps.map V.str)) c = some (.lst (ps.map V.str)) := upd_same
        revert at_c s1
        generalize upd HU c (.lst (ps.map V.str)) = HC
        intro s1 at_c
        have s01 := s0.trans s1
        refine ⟨c, rfl, ⟨_, SqL.of at_c⟩, fun D nD => ?_⟩
        refine lc_list (xs := ps.map V.str) (fun i H' => ∃ ws, Same HC H' ∧ H' D = some (.lst ws) ∧ Paired (RowAt H') ws ((ps.take i).map rowP)) ⟨[], same_upd nD, upd_same, .nil⟩ (fun i H' _ z => ?_) ?_ ?_
        · obtain ⟨_, z, _⟩ := z
          exact SqL.of (z _ _ at_c)
        · rintro i x H1 hx ⟨ws, s2, at_D, pw⟩
          rw [List.getElem?_map] at hx
          obtain ⟨y, hy, rfl⟩ := Option.map_eq_some_iff.mp hx
          obtain ⟨hi, rfl⟩ := List.getElem?_eq_some_iff.mp hy
          obtain ⟨p1, p2, p3, p4⟩ := pp _ (List.mem_cons_of_mem _ (List.getElem_mem hi))
          have lw := paired_len pw
          rw [List.length_map, List.length_take] at lw
          refine ⟨rfl, kept ⟨_, rfl, ps[i], rfl, p1, by omega, p4, fun H3 T s3 nT eT => ?_⟩⟩
          have at_D3 := s3 _ _ at_D
          have up : ∀ {c ys}, H3 c = some (.tup ys) → upd H3 D (.lst (ws ++ [.ref T])) c = some (.tup ys) := fun {c ys} e => by
            rw [upd_ne (ne_of e at_D3 (fun z => by cases z))]
            exact e
          refine ⟨ws, at_D3, by omega, ws ++ [.ref T], fun b o e => ?_, upd_same, ?_⟩
          · rw [upd_ne (ne_of_none e nD)]
            exact s3 _ _ (s2 _ _ e)
          · rw [List.take_succ_eq_append_getElem hi, List.map_append]
            exact paired_snoc (paired_mono (fun _ _ ⟨c, e', ec⟩ => ⟨c, e', up (s3 _ _ ec)⟩) pw) ⟨T, rfl, up eT⟩
        · rintro H1 ⟨ws, s2, at_D, pw⟩
          rw [List.length_map, List.take_length] at pw
          have s02 := s01.trans s2
          intro x dx nx ndx ne
          have s3 : Same H1 (upd (upd H1 dx (.own x)) x (.ins C dx [])) := fun b o e => by
            rw [upd_ne (ne_of_none e nx), upd_ne (ne_of_none e ndx)]
            exact e
          have s03 := s02.trans s3
          refine init_of (rs := ps.map rowP) upd_same (s3 _ _ at_D) (paired_mono (fun _ _ ⟨c, e', ec⟩ => ⟨c, e', s3 _ _ ec⟩) pw) (Nat.le_trans (cutS_length _ _ _) (by omega)) (by rw [List.length_map]; omega) (fun r hr => ?_) (fun e H' d s4 nd ed => ?_) (fun e i fb H' d s4 nd ed => ?_) (fun e gd H' k4 kd => ⟨rfl, ?_⟩)
          · obtain ⟨t, ht, rfl⟩ := List.mem_map.mp hr
            exact (pp t (List.mem_cons_of_mem _ ht)).2.2.1
          · exact noH e _ d (s03.trans s4) (s03.free nd) ed
          · exact (q e).1 i fb _ d (s03.trans s4) (s03.free nd) ed
          · have nx0 := s02.free nx
            exact (q e).2 gd H' x (fun b o eb => k4 b o (ne_of_none eb nx0) (s03 _ _ eb)) nx0 kd
end
end K08

namespace K08
open PySem PySem.Spec PyProof.Rows L2
open Cal EnuT Exn Keys

def words13 : List Str := ["go", "go", "see", "see", "set", "wait", "shut", "open", "tell", "use", "when", "again", "rest"]
def W1 : List Str := ["go", "shut", "open"]
def W2 : List Str := ["see", "tell", "use"]
def W3 : List Str := ["set", "wait"]
def dnames : List Str := ["d", "gate"]
def cnames : List Str := ["c", "cell"]
def rowOf (w d c : Str) (v g : Nat) : List Pt :=
  if w ∈ W1 then [.s w, .s d] else if w ∈ W2 then [.s w, .s c] else if w ∈ W3 then [.s w, .s c, .n v] else if w = "when" then [.s w, .n v, .n g] else if w = "again" then [.s w, .n g] else [.s w]
def Legit (m : Nat) (r : List Pt) : Prop := ∃ w d c v g, w ∈ words13 ∧ d ∈ dnames ∧ c ∈ cnames ∧ v < 3 ∧ g < m + 1 ∧ r = rowOf w d c v g
def LegitRows (m : Nat) (rs : List (List Pt)) : Prop := rs.length = m ∧ ∀ r, r ∈ rs → Legit m r
def spProgram : Sp := fun vs H Q _ => ∃ (p q ld lc : Addr) (ds cs : List Str) (m : Nat), vs = [.ref p, .ref ld, .ref lc, .int (m : Nat)] ∧ Deal H p q ∧ 1 ≤ m ∧ m ≤ 6 ∧ ld ≠ p ∧ ld ≠ q ∧ lc ≠ p ∧ lc ≠ q ∧ H ld = some (.lst (ds.map V.str)) ∧ H lc = some (.lst (cs.map V.str)) ∧
  1 ≤ ds.length ∧ ds.length ≤ 10 ∧ 1 ≤ cs.length ∧ cs.length ≤ 10 ∧ (∀ d, d ∈ ds → d ∈ dnames) ∧ (∀ c, c ∈ cs → c ∈ cnames) ∧
  ∀ H' l ws rs, LegitRows m rs → But2 p q H H' → Deal H' p q → H l = none → H' l = some (.lst ws) → Paired (RowAt H') ws rs → Q (.ref l) H'
/-- a tuple is neither of the deal's lists -/
theorem Deal.tup {H H' : Hp} {p q a : Addr} {xs : List V} (d : Deal H p q) (b : But2 p q H H') (e : H a = some (.tup xs)) : H' a = some (.tup xs) := by
  obtain ⟨_, ns, b', hp, hq, _⟩ := d
  exact b _ _ (ne_of e hp (fun z => by cases z)) (ne_of e hq (fun z => by cases z)) e
theorem Deal.new {H : Hp} {p q a : Addr} (d : Deal H p q) (n : H a = none) : a ≠ p ∧ a ≠ q := by
  obtain ⟨_, ns, b', hp, hq, _⟩ := d
  exact ⟨Ne.symm (ne_of_none hp n), Ne.symm (ne_of_none hq n)⟩
theorem But2.free {p q a : Addr} {H H' : Hp} (b : But2 p q H H') (d : Deal H' p q) (n : H' a = none) : H a = none := by
  cases e : H a with
  | none => rfl
  | some o =>
    obtain ⟨n1, n2⟩ := d.new n
    have := b _ _ n1 n2 e
    rw [n] at this
    cases this
theorem prog_fin {p q l t : Addr} {H H2 HX HY : Hp} {ws : List V} {rs : List (List Pt)} (r : List Pt) (nl : H l = none) (lp : l ≠ p) (lq : l ≠ q) (b2 : But2 p q H H2) (dl2 : Deal H2 p q) (bX : But2 p q H2 HX) (dX : Deal HX p q) (at_l2 : H2 l = some (.lst ws)) (pw : Paired (RowAt H2) ws rs) (s : Same HX HY) (nt : HY t = none) :
    upd HY t (.tup (r.map ptV)) l = some (.lst ws) ∧ But2 p q H (upd (upd HY t (.tup (r.map ptV))) l (.lst (ws ++ [.ref t]))) ∧ Deal (upd (upd HY t (.tup (r.map ptV))) l (.lst (ws ++ [.ref t]))) p q ∧
      upd (upd HY t (.tup (r.map ptV))) l (.lst (ws ++ [.ref t])) l = some (.lst (ws ++ [.ref t])) ∧ Paired (RowAt (upd (upd HY t (.tup (r.map ptV))) l (.lst (ws ++ [.ref t])))) (ws ++ [.ref t]) (rs ++ [r]) := by
  have at_lX := bX _ _ lp lq at_l2
  have s5 := same_upd (o := .tup (r.map ptV)) nt
  have at_l := s5 _ _ (s _ _ at_lX)
  refine ⟨at_l, ?_, ?_, upd_same, ?_⟩
  · intro c o n1 n2 e
    rw [upd_ne (ne_of_none e nl)]
    exact s5 _ _ (s _ _ (bX _ _ n1 n2 (b2 _ _ n1 n2 e)))
  · obtain ⟨pq, ns, b', hp, hq, r'⟩ := (dX.same s).same s5
    exact ⟨pq, ns, b', (upd_ne (Ne.symm lp)).trans hp, (upd_ne (Ne.symm lq)).trans hq, r'⟩
  · have up : ∀ {v d}, RowAt (upd HY t (.tup (r.map ptV))) v d → RowAt (upd (upd HY t (.tup (r.map ptV))) l (.lst (ws ++ [.ref t]))) v d := fun {v d} ⟨c, e, ec⟩ => ⟨c, e, by
      rw [upd_ne (ne_of ec at_l (fun z => by cases z))]
      exact ec⟩
    exact paired_snoc (paired_mono (fun _ _ ⟨c, e, ec⟩ => up ⟨c, e, s5 _ _ (s _ _ (dl2.tup bX ec))⟩) pw) (up ⟨t, rfl, upd_same⟩)
theorem legit_snoc {m i : Nat} {rs : List (List Pt)} {r : List Pt} (lr : rs.length = i) (gd : ∀ r, r ∈ rs → Legit m r) (h : Legit m r) : (rs ++ [r]).length = i + 1 ∧ ∀ x, x ∈ rs ++ [r] → Legit m x := by
  refine ⟨by rw [List.length_append, lr]; rfl, fun x hx => ?_⟩
  rcases List.mem_append.mp hx with z | z
  · exact gd x z
  · obtain rfl := List.mem_singleton.mp z
    exact h
section
variable {P : Program} {w : World} {K : W.Frag} {mg : Str → Option Value} {base : Heap}
abbrev NP : List Str := ["deal", "doors", "cells", "many", "found", "at", "words", "word", "door", "cell", "value", "goal"]
theorem scPg : FnScope NP ["deal", "doors", "cells", "many"] (defScope sProgram) := ⟨rfl, rfl, rfl, by decide +kernel, rfl, by decide +kernel, by decide +kernel⟩
theorem ok_program {f : Addr} {fd : FuncData} (F : Fun K "_law_program" "_law_program" sProgram f fd) (B : Bl mg) (An : Callee P w K mg base "_law_draw" 1 ["deal", "bound"] spAny) (Of : Callee P w K mg base "_law_pick" 2 ["deal", "some"] spOf) :
    FnOk P w K mg base CX0 3 f fd ["deal", "doors", "cells", "many"] spProgram := by
  refine F.ok scPg (fun vs H Q E h => ?_) (fun cdv A outer s H vs Q E hr h => ?_)
  · obtain ⟨p, q, ld, lc, ds, cs, m, rfl, _⟩ := h
    rfl
  · obtain ⟨p, q, ld, lc, ds, cs, m, rfl, dl, m1, m6, ldp, ldq, lcp, lcq, hld, hlc, d1, d10, c1, c10, gds, gcs, k⟩ := h
    have hr1 := hr.mono (show 1 ≤ 2 by decide)
    refine ⟨_, pss_cons (ps_set (i := 4) scPg.nd rfl (Or.inl rfl) (pe_lst pa_nil))
      (pss_cons (ps_for PassesOwn.never rfl (pi_range1 rfl B.range (pa_cons (pv 3) pa_nil)) (pg_name (i := 5) scPg.nd rfl (Or.inl rfl))
        (pss_cons (ps_set (i := 6) scPg.nd rfl (Or.inl rfl) (pe_lst (pa_cons pe_str (pa_cons pe_str (pa_cons pe_str (pa_cons pe_str (pa_cons pe_str (pa_cons pe_str (pa_cons pe_str (pa_cons pe_str (pa_cons pe_str (pa_cons pe_str (pa_cons pe_str (pa_cons pe_str (pa_cons pe_str pa_nil)))))))))))))))
        (pss_cons (ps_par3 (i := 7) (j := 8) (l := 9) rfl scPg.nd rfl rfl rfl (by decide) (by decide) (by decide) rfl rfl rfl (pa_cons (pe_callee Of hr rfl (pa_cons (pv 0) (pa_cons (pv 6) pa_nil))) (pa_cons (pe_callee Of hr rfl (pa_cons (pv 0) (pa_cons (pv 1) pa_nil))) (pa_cons (pe_callee Of hr rfl (pa_cons (pv 0) (pa_cons (pv 2) pa_nil))) pa_nil))) rfl)
        (pss_cons (ps_par (i := 10) (j := 11) rfl scPg.nd rfl rfl (by decide) rfl rfl (pa_cons (pe_callee An hr1 rfl (pa_cons (pv 0) (pa_cons pe_int pa_nil))) (pa_cons (pe_callee An hr1 rfl (pa_cons (pv 0) (pa_cons (pe_op op_add (pv 3) pe_int) pa_nil))) pa_nil)) rfl)
        (pss_cons (ps_if (PW.pt (pw_and (pt_cmpR op_eq (pv 5) pe_int (nomark _)) (pw_and1 (pt_cmpR op_gt (pe_callee An hr1 rfl (pa_cons (pv 0) (pa_cons pe_int pa_nil))) pe_int (nomark _)))))
          (pss_one (ps_par (i := 7) (j := 8) rfl scPg.nd rfl rfl (by decide) rfl rfl (pa_cons pe_str (pa_cons (pe_ix ix_list (pv 1) pe_int (fun _ _ => rfl)) pa_nil)) rfl)) pss_nil)
        (pss_one (ps_if (pt_cmpR op_in_seq (pv 7) (pe_tup (pa_cons pe_str (pa_cons pe_str (pa_cons pe_str pa_nil)))) (by rfl))
          (pss_one (ps_expr (pe_bm PySem.F.plainAttrs_list PySem.F.slot_list_append PySem.F.type_list_append mt_append (pv 4) (pa_cons (pe_tup (pa_cons (pv 7) (pa_cons (pv 8) pa_nil))) pa_nil))))
          (pss_one (ps_if (pt_cmpR op_in_seq (pv 7) (pe_tup (pa_cons pe_str (pa_cons pe_str (pa_cons pe_str pa_nil)))) (by rfl))
            (pss_one (ps_expr (pe_bm PySem.F.plainAttrs_list PySem.F.slot_list_append PySem.F.type_list_append mt_append (pv 4) (pa_cons (pe_tup (pa_cons (pv 7) (pa_cons (pv 9) pa_nil))) pa_nil))))
            (pss_one (ps_if (pt_cmpR op_in_seq (pv 7) (pe_tup (pa_cons pe_str (pa_cons pe_str pa_nil))) (by rfl))
              (pss_one (ps_expr (pe_bm PySem.F.plainAttrs_list PySem.F.slot_list_append PySem.F.type_list_append mt_append (pv 4) (pa_cons (pe_tup (pa_cons (pv 7) (pa_cons (pv 9) (pa_cons (pv 10) pa_nil)))) pa_nil))))
              (pss_one (ps_if (pt_cmpR op_eq (pv 7) pe_str (nomark _))
                (pss_one (ps_expr (pe_bm PySem.F.plainAttrs_list PySem.F.slot_list_append PySem.F.type_list_append mt_append (pv 4) (pa_cons (pe_tup (pa_cons (pv 7) (pa_cons (pv 10) (pa_cons (pv 11) pa_nil)))) pa_nil))))
                (pss_one (ps_expr (pe_bm PySem.F.plainAttrs_list PySem.F.slot_list_append PySem.F.type_list_append mt_append (pv 4) (pa_cons (pe_ifExp (pt_cmpR op_eq (pv 7) pe_str (nomark _)) (pe_tup (pa_cons (pv 7) (pa_cons (pv 11) pa_nil))) (pe_tup (pa_cons (pv 7) pa_nil))) pa_nil)))))))))))))))))
      (pss_one (ps_ret (pv 4)))), ?_⟩
    have line : (100 : Nat) ≤ sizeLine := by decide
    refine ⟨Nat.zero_le _, fun l nl => ?_⟩
    have s0 := same_upd (o := .lst []) nl
    obtain ⟨lp, lq⟩ := dl.new nl
    refine ⟨_, rfl, _, rfl, by omega, by omega, for_range (n := m) (fun i σ H' => ∃ (v5 v6 v7 v8 v9 v10 v11 : Option V) (ws : List V) (rs : List (List Pt)), σ = [some (.ref p), some (.ref ld), some (.ref lc), some (.int (m : Nat)), some (.ref l), v5, v6, v7, v8, v9, v10, v11] ∧ rs.length = i ∧ (∀ r, r ∈ rs → Legit m r) ∧ But2 p q H H' ∧ Deal H' p q ∧ H' l = some (.lst ws) ∧ Paired (RowAt H') ws rs)
      ⟨_, _, _, _, _, _, _, [], [], rfl, rfl, fun _ z => (nomatch z), fun c o n1 n2 e => s0 _ _ e, dl.same s0, upd_same, .nil⟩ ?_ ?_⟩
    · rintro i σ H2 hi ⟨v5, v6, v7, v8, v9, v10, v11, ws, rs, rfl, lr, gd, b2, dl2, at_l2, pw⟩
      have lw := paired_len pw
      refine ⟨by show 13 ≤ sizeLine; decide, fun m2 nm2 => ?_⟩
      have s3 := same_upd (o := .lst (words13.map V.str)) nm2
      obtain ⟨mp, mq⟩ := dl2.new nm2
      have hld2 := b2 _ _ ldp ldq hld
      have hlc2 := b2 _ _ lcp lcq hlc
      refine ⟨_, rfl, _, rfl, p, q, m2, _, rfl, dl2.same s3, mp, mq, upd_same, by show 1 ≤ 13; decide, by show 13 ≤ 1000; decide, fun x H3 hx but3 dl3 => ?_⟩
      obtain ⟨a, ha, rfl⟩ := List.mem_map.mp (show x ∈ words13.map V.str from hx)
      have b3 : But2 p q H2 H3 := fun c o n1 n2 e => but3 c o n1 n2 (s3 _ _ e)
      refine ⟨_, rfl, _, rfl, p, q, ld, _, rfl, dl3, ldp, ldq, b3 _ _ ldp ldq hld2, by rw [List.length_map]; omega, by rw [List.length_map]; omega, fun x H4 hx but4 dl4 => ?_⟩
      obtain ⟨d, hd, rfl⟩ := List.mem_map.mp hx
      have b4 := b3.trans but4
      refine ⟨_, rfl, _, rfl, p, q, lc, _, rfl, dl4, lcp, lcq, b4 _ _ lcp lcq hlc2, by rw [List.length_map]; omega, by rw [List.length_map]; omega, fun x H5 hx but5 dl5 => ?_⟩
      obtain ⟨c, hc, rfl⟩ := List.mem_map.mp hx
      have hcn := gcs c hc
      have b5 := b4.trans but5
      refine ⟨_, _, _, rfl, ?_⟩
      refine ⟨_, rfl, p, q, _, rfl, dl5, by decide, by decide, fun r H6 r0 r3 but6 dl6 => ?_⟩
      obtain ⟨v, rfl⟩ : ∃ j : Nat, r = (j : Int) := ⟨r.toNat, by omega⟩
      have v3 : v < 3 := by
        have : (v : Int) < 3 := r3
        omega
      have b6 := b5.trans but6
      refine ⟨_, rfl, _, rfl, _, _, rfl, rfl, p, q, _, rfl, dl6, by omega, by omega, fun r H7 r0 rg but7 dl7 => ?_⟩
      obtain ⟨g, rfl⟩ : ∃ j : Nat, r = (j : Int) := ⟨r.toNat, by omega⟩
      have gm : g < m + 1 := by omega
      have b7 := b6.trans but7
      refine ⟨_, _, rfl, ?_⟩
      refine ⟨_, rfl, rfl, _, rfl, ?_⟩
      by_cases i0 : i = 0
      · rw [decide_eq_true (show V.int (0 + (i : Nat)) = V.int 0 by rw [i0]; rfl)]
        refine iteT ⟨_, rfl, p, q, _, rfl, dl7, by decide, by decide, fun r HX r0 r4 but8 dX => ?_⟩
        have bX := b7.trans but8
        refine ⟨_, _, rfl, rfl, _, rfl, ?_⟩
        by_cases rp : 0 < r
        · rw [decide_eq_true rp]
          have hd0 : (ds.map V.str)[0]? = some (V.str ds[0]) := by simp
          refine iteT ⟨_, rfl, ld, _, _, _, rfl, rfl, SqL.of (bX _ _ ldp ldq hld2), atI_nat (j := 0) hd0, _, _, rfl, ?_⟩
          have hw : ("go" : Str) ∈ words13 := List.mem_cons_self ..
          have h1 : ("go" : Str) ∈ W1 := List.mem_cons_self ..
          have hdr := gds _ (List.getElem_mem (l := ds) (n := 0) (by omega))
          generalize ds[0] = dr at hdr
          have at_lX := bX _ _ lp lq at_l2
          refine ⟨_, rfl, by show 3 ≤ sizeLine; decide, fun t1 n1 => ?_⟩
          have x1 := same_upd (o := .tup (W1.map V.str)) n1
          refine ⟨t1, W1.map V.str, rfl, .inr (SqT.of upd_same), rfl, flat_strs _, _, rfl, ?_⟩
          rw [inV_strs, decide_eq_true h1]
          refine iteT ?_
          refine ⟨_, rfl, .inl ⟨rfl, _, SqL.of (x1 _ _ at_lX)⟩, _, rfl, _, rfl, by show 2 ≤ sizeLine; decide, fun t nt => ?_⟩
          obtain ⟨f1, f2, f3, f4, f5⟩ := prog_fin [.s "go", .s dr] nl lp lq b2 dl2 bX dX at_l2 pw x1 nt
          obtain ⟨g1, g2⟩ := legit_snoc lr gd (r := [.s "go", .s dr]) ⟨_, dr, c, v, g, hw, hdr, hcn, v3, gm, by unfold rowOf; rw [if_pos h1]⟩
          exact ⟨l, ws, _, rfl, rfl, f1, by omega, _, _, _, _, _, _, _, _, _, rfl, g1, g2, f2, f3, f4, f5⟩
        · rw [decide_eq_false rp]
          have hw := ha
          have hdr := gds d hd
          revert hw hdr
          generalize a = wd
          generalize d = dr
          intro hw hdr
          refine iteF ?_
          have at_lX := bX _ _ lp lq at_l2
          refine ⟨_, rfl, by show 3 ≤ sizeLine; decide, fun t1 n1 => ?_⟩
          have x1 := same_upd (o := .tup (W1.map V.str)) n1
          refine ⟨t1, W1.map V.str, rfl, .inr (SqT.of upd_same), rfl, flat_strs _, _, rfl, ?_⟩
          rw [inV_strs]
          refine ite2 (fun h1 => ?_) (fun h1 => ?_)
          · have h1 : wd ∈ W1 := by simpa using h1
            refine ⟨_, rfl, .inl ⟨rfl, _, SqL.of (x1 _ _ at_lX)⟩, _, rfl, _, rfl, by show 2 ≤ sizeLine; decide, fun t nt => ?_⟩
            obtain ⟨f1, f2, f3, f4, f5⟩ := prog_fin [.s wd, .s dr] nl lp lq b2 dl2 bX dX at_l2 pw x1 nt
            obtain ⟨g1, g2⟩ := legit_snoc lr gd (r := [.s wd, .s dr]) ⟨wd, dr, c, v, g, hw, hdr, hcn, v3, gm, by unfold rowOf; rw [if_pos h1]⟩
            exact ⟨l, ws, _, rfl, rfl, f1, by omega, _, _, _, _, _, _, _, _, _, rfl, g1, g2, f2, f3, f4, f5⟩
          · have h1 : ¬ wd ∈ W1 := by simpa using h1
            refine ⟨_, rfl, by show 3 ≤ sizeLine; decide, fun t2 n2 => ?_⟩
            have x2 := x1.trans (same_upd (o := .tup (W2.map V.str)) n2)
            refine ⟨t2, W2.map V.str, rfl, .inr (SqT.of upd_same), rfl, flat_strs _, _, rfl, ?_⟩
            rw [inV_strs]
            refine ite2 (fun h2 => ?_) (fun h2 => ?_)
            · have h2 : wd ∈ W2 := by simpa using h2
              refine ⟨_, rfl, .inl ⟨rfl, _, SqL.of (x2 _ _ at_lX)⟩, _, rfl, _, rfl, by show 2 ≤ sizeLine; decide, fun t nt => ?_⟩
              obtain ⟨f1, f2, f3, f4, f5⟩ := prog_fin [.s wd, .s c] nl lp lq b2 dl2 bX dX at_l2 pw x2 nt
              obtain ⟨g1, g2⟩ := legit_snoc lr gd (r := [.s wd, .s c]) ⟨wd, dr, c, v, g, hw, hdr, hcn, v3, gm, by unfold rowOf; rw [if_neg h1, if_pos h2]⟩
              exact ⟨l, ws, _, rfl, rfl, f1, by omega, _, _, _, _, _, _, _, _, _, rfl, g1, g2, f2, f3, f4, f5⟩
            · have h2 : ¬ wd ∈ W2 := by simpa using h2
              refine ⟨_, rfl, by show 2 ≤ sizeLine; decide, fun t3 n3 => ?_⟩
              have x3 := x2.trans (same_upd (o := .tup (W3.map V.str)) n3)
              refine ⟨t3, W3.map V.str, rfl, .inr (SqT.of upd_same), rfl, flat_strs _, _, rfl, ?_⟩
              rw [inV_strs]
              refine ite2 (fun h3 => ?_) (fun h3 => ?_)
              · have h3 : wd ∈ W3 := by simpa using h3
                refine ⟨_, rfl, .inl ⟨rfl, _, SqL.of (x3 _ _ at_lX)⟩, _, rfl, _, rfl, _, rfl, by show 3 ≤ sizeLine; decide, fun t nt => ?_⟩
                obtain ⟨f1, f2, f3, f4, f5⟩ := prog_fin [.s wd, .s c, .n v] nl lp lq b2 dl2 bX dX at_l2 pw x3 nt
                obtain ⟨g1, g2⟩ := legit_snoc lr gd (r := [.s wd, .s c, .n v]) ⟨wd, dr, c, v, g, hw, hdr, hcn, v3, gm, by unfold rowOf; rw [if_neg h1, if_neg h2, if_pos h3]⟩
                exact ⟨l, ws, _, rfl, rfl, f1, by omega, _, _, _, _, _, _, _, _, _, rfl, g1, g2, f2, f3, f4, f5⟩
              · have h3 : ¬ wd ∈ W3 := by simpa using h3
                refine ⟨_, rfl, rfl, _, rfl, ?_⟩
                by_cases h4 : wd = "when"
                · rw [decide_eq_true (show V.str wd = V.str "when" by rw [h4])]
                  refine iteT ?_
                  refine ⟨_, rfl, .inl ⟨rfl, _, SqL.of (x3 _ _ at_lX)⟩, _, rfl, _, rfl, _, rfl, by show 3 ≤ sizeLine; decide, fun t nt => ?_⟩
                  obtain ⟨f1, f2, f3, f4, f5⟩ := prog_fin [.s wd, .n v, .n g] nl lp lq b2 dl2 bX dX at_l2 pw x3 nt
                  obtain ⟨g1, g2⟩ := legit_snoc lr gd (r := [.s wd, .n v, .n g]) ⟨wd, dr, c, v, g, hw, hdr, hcn, v3, gm, by unfold rowOf; rw [if_neg h1, if_neg h2, if_neg h3, if_pos h4]⟩
                  exact ⟨l, ws, _, rfl, rfl, f1, by omega, _, _, _, _, _, _, _, _, _, rfl, g1, g2, f2, f3, f4, f5⟩
                · rw [decide_eq_false (show ¬ V.str wd = V.str "when" from fun z => h4 (by injection z))]
                  refine iteF ?_
                  refine ⟨_, rfl, .inl ⟨rfl, _, SqL.of (x3 _ _ at_lX)⟩, _, rfl, rfl, _, rfl, ?_⟩
                  by_cases h5 : wd = "again"
                  · rw [decide_eq_true (show V.str wd = V.str "again" by rw [h5])]
                    refine iteT ⟨_, rfl, _, rfl, by show 2 ≤ sizeLine; decide, fun t nt => ?_⟩
                    obtain ⟨f1, f2, f3, f4, f5⟩ := prog_fin [.s wd, .n g] nl lp lq b2 dl2 bX dX at_l2 pw x3 nt
                    obtain ⟨g1, g2⟩ := legit_snoc lr gd (r := [.s wd, .n g]) ⟨wd, dr, c, v, g, hw, hdr, hcn, v3, gm, by unfold rowOf; rw [if_neg h1, if_neg h2, if_neg h3, if_neg h4, if_pos h5]⟩
                    exact ⟨l, ws, _, rfl, rfl, f1, by omega, _, _, _, _, _, _, _, _, _, rfl, g1, g2, f2, f3, f4, f5⟩
                  · rw [decide_eq_false (show ¬ V.str wd = V.str "again" from fun z => h5 (by injection z))]
                    refine iteF ⟨_, rfl, by show 1 ≤ sizeLine; decide, fun t nt => ?_⟩
                    obtain ⟨f1, f2, f3, f4, f5⟩ := prog_fin [.s wd] nl lp lq b2 dl2 bX dX at_l2 pw x3 nt
                    obtain ⟨g1, g2⟩ := legit_snoc lr gd (r := [.s wd]) ⟨wd, dr, c, v, g, hw, hdr, hcn, v3, gm, by unfold rowOf; rw [if_neg h1, if_neg h2, if_neg h3, if_neg h4, if_neg h5]⟩
                    exact ⟨l, ws, _, rfl, rfl, f1, by omega, _, _, _, _, _, _, _, _, _, rfl, g1, g2, f2, f3, f4, f5⟩
      · rw [decide_eq_false (show ¬ V.int (0 + (i : Nat)) = V.int 0 from fun z => i0 (by injection z with z; omega))]
        have bX := b7
        have dX := dl7
        have hw := ha
        have hdr := gds d hd
        revert hw hdr
        generalize a = wd
        generalize d = dr
        intro hw hdr
        refine iteF (iteF ?_)
        have at_lX := bX _ _ lp lq at_l2
        refine ⟨_, rfl, by show 3 ≤ sizeLine; decide, fun t1 n1 => ?_⟩
        have x1 := same_upd (o := .tup (W1.map V.str)) n1
        refine ⟨t1, W1.map V.str, rfl, .inr (SqT.of upd_same), rfl, flat_strs _, _, rfl, ?_⟩
        rw [inV_strs]
        refine ite2 (fun h1 => ?_) (fun h1 => ?_)
        · have h1 : wd ∈ W1 := by simpa using h1
          refine ⟨_, rfl, .inl ⟨rfl, _, SqL.of (x1 _ _ at_lX)⟩, _, rfl, _, rfl, by show 2 ≤ sizeLine; decide, fun t nt => ?_⟩
          obtain ⟨f1, f2, f3, f4, f5⟩ := prog_fin [.s wd, .s dr] nl lp lq b2 dl2 bX dX at_l2 pw x1 nt
          obtain ⟨g1, g2⟩ := legit_snoc lr gd (r := [.s wd, .s dr]) ⟨wd, dr, c, v, g, hw, hdr, hcn, v3, gm, by unfold rowOf; rw [if_pos h1]⟩
          exact ⟨l, ws, _, rfl, rfl, f1, by omega, _, _, _, _, _, _, _, _, _, rfl, g1, g2, f2, f3, f4, f5⟩
        · have h1 : ¬ wd ∈ W1 := by simpa using h1
          refine ⟨_, rfl, by show 3 ≤ sizeLine; decide, fun t2 n2 => ?_⟩
          have x2 := x1.trans (same_upd (o := .tup (W2.map V.str)) n2)
          refine ⟨t2, W2.map V.str, rfl, .inr (SqT.of upd_same), rfl, flat_strs _, _, rfl, ?_⟩
          rw [inV_strs]
          refine ite2 (fun h2 => ?_) (fun h2 => ?_)
          · have h2 : wd ∈ W2 := by simpa using h2
            refine ⟨_, rfl, .inl ⟨rfl, _, SqL.of (x2 _ _ at_lX)⟩, _, rfl, _, rfl, by show 2 ≤ sizeLine; decide, fun t nt => ?_⟩
            obtain ⟨f1, f2, f3, f4, f5⟩ := prog_fin [.s wd, .s c] nl lp lq b2 dl2 bX dX at_l2 pw x2 nt
            obtain ⟨g1, g2⟩ := legit_snoc lr gd (r := [.s wd, .s c]) ⟨wd, dr, c, v, g, hw, hdr, hcn, v3, gm, by unfold rowOf; rw [if_neg h1, if_pos h2]⟩
            exact ⟨l, ws, _, rfl, rfl, f1, by omega, _, _, _, _, _, _, _, _, _, rfl, g1, g2, f2, f3, f4, f5⟩
          · have h2 : ¬ wd ∈ W2 := by simpa using h2
            refine ⟨_, rfl, by show 2 ≤ sizeLine; decide, fun t3 n3 => ?_⟩
            have x3 := x2.trans (same_upd (o := .tup (W3.map V.str)) n3)
            refine ⟨t3, W3.map V.str, rfl, .inr (SqT.of upd_same), rfl, flat_strs _, _, rfl, ?_⟩
            rw [inV_strs]
            refine ite2 (fun h3 => ?_) (fun h3 => ?_)
            · have h3 : wd ∈ W3 := by simpa using h3
              refine ⟨_, rfl, .inl ⟨rfl, _, SqL.of (x3 _ _ at_lX)⟩, _, rfl, _, rfl, _, rfl, by show 3 ≤ sizeLine; decide, fun t nt => ?_⟩
              obtain ⟨f1, f2, f3, f4, f5⟩ := prog_fin [.s wd, .s c, .n v] nl lp lq b2 dl2 bX dX at_l2 pw x3 nt
              obtain ⟨g1, g2⟩ := legit_snoc lr gd (r := [.s wd, .s c, .n v]) ⟨wd, dr, c, v, g, hw, hdr, hcn, v3, gm, by unfold rowOf; rw [if_neg h1, if_neg h2, if_pos h3]⟩
              exact ⟨l, ws, _, rfl, rfl, f1, by omega, _, _, _, _, _, _, _, _, _, rfl, g1, g2, f2, f3, f4, f5⟩
            · have h3 : ¬ wd ∈ W3 := by simpa using h3
              refine ⟨_, rfl, rfl, _, rfl, ?_⟩
              by_cases h4 : wd = "when"
              · rw [decide_eq_true (show V.str wd = V.str "when" by rw [h4])]
                refine iteT ?_
                refine ⟨_, rfl, .inl ⟨rfl, _, SqL.of (x3 _ _ at_lX)⟩, _, rfl, _, rfl, _, rfl, by show 3 ≤ sizeLine; decide, fun t nt => ?_⟩
                obtain ⟨f1, f2, f3, f4, f5⟩ := prog_fin [.s wd, .n v, .n g] nl lp lq b2 dl2 bX dX at_l2 pw x3 nt
                obtain ⟨g1, g2⟩ := legit_snoc lr gd (r := [.s wd, .n v, .n g]) ⟨wd, dr, c, v, g, hw, hdr, hcn, v3, gm, by unfold rowOf; rw [if_neg h1, if_neg h2, if_neg h3, if_pos h4]⟩
                exact ⟨l, ws, _, rfl, rfl, f1, by omega, _, _, _, _, _, _, _, _, _, rfl, g1, g2, f2, f3, f4, f5⟩
              · rw [decide_eq_false (show ¬ V.str wd = V.str "when" from fun z => h4 (by injection z))]
                refine iteF ?_
                refine ⟨_, rfl, .inl ⟨rfl, _, SqL.of (x3 _ _ at_lX)⟩, _, rfl, rfl, _, rfl, ?_⟩
                by_cases h5 : wd = "again"
                · rw [decide_eq_true (show V.str wd = V.str "again" by rw [h5])]
                  refine iteT ⟨_, rfl, _, rfl, by show 2 ≤ sizeLine; decide, fun t nt => ?_⟩
                  obtain ⟨f1, f2, f3, f4, f5⟩ := prog_fin [.s wd, .n g] nl lp lq b2 dl2 bX dX at_l2 pw x3 nt
                  obtain ⟨g1, g2⟩ := legit_snoc lr gd (r := [.s wd, .n g]) ⟨wd, dr, c, v, g, hw, hdr, hcn, v3, gm, by unfold rowOf; rw [if_neg h1, if_neg h2, if_neg h3, if_neg h4, if_pos h5]⟩
                  exact ⟨l, ws, _, rfl, rfl, f1, by omega, _, _, _, _, _, _, _, _, _, rfl, g1, g2, f2, f3, f4, f5⟩
                · rw [decide_eq_false (show ¬ V.str wd = V.str "again" from fun z => h5 (by injection z))]
                  refine iteF ⟨_, rfl, by show 1 ≤ sizeLine; decide, fun t nt => ?_⟩
                  obtain ⟨f1, f2, f3, f4, f5⟩ := prog_fin [.s wd] nl lp lq b2 dl2 bX dX at_l2 pw x3 nt
                  obtain ⟨g1, g2⟩ := legit_snoc lr gd (r := [.s wd]) ⟨wd, dr, c, v, g, hw, hdr, hcn, v3, gm, by unfold rowOf; rw [if_neg h1, if_neg h2, if_neg h3, if_neg h4, if_neg h5]⟩
                  exact ⟨l, ws, _, rfl, rfl, f1, by omega, _, _, _, _, _, _, _, _, _, rfl, g1, g2, f2, f3, f4, f5⟩
    · rintro σ H2 ⟨v5, v6, v7, v8, v9, v10, v11, ws, rs, rfl, lr, gd, b2, dl2, at_l2, pw⟩
      exact ⟨_, rfl, k H2 l ws rs ⟨lr, gd⟩ b2 dl2 nl at_l2 pw⟩
end
end K08

namespace K08
open PySem PySem.Spec PyProof.Rows L2
open Cal EnuT Exn Keys

/-! ### what is known of the rows drawn -/
def headS : List Pt → Bool
  | .s x :: _ => decide (x ∈ words13)
  | _ => false
def fineRow (m : Nat) (r : List Pt) : Bool := decide (r.length ≤ 3) && (r.all (fun p => decide (p ∈ pts)) && (headS r && (rowPB m r && (decide (rowP (rowT r) = r) && ((!decide (10 ∈ (rowT r).cps.toList)) && decide ((Txt.split (rowT r) " ").length ≤ 50))))))
def rows1 : List (List Pt) := W1.flatMap fun w => dnames.map fun d => [.s w, .s d]
def rows2 : List (List Pt) := W2.flatMap fun w => cnames.map fun c => [.s w, .s c]
def rows3 : List (List Pt) := W3.flatMap fun w => cnames.flatMap fun c => (List.range 3).map fun v => [.s w, .s c, .n v]
def rows4 (m : Nat) : List (List Pt) := (List.range 3).flatMap fun v => (List.range (m + 1)).map fun g => [.s "when", .n v, .n g]
def rows5 (m : Nat) : List (List Pt) := (List.range (m + 1)).map fun g => [.s "again", .n g]
def allRows (m : Nat) : List (List Pt) := rows1 ++ (rows2 ++ (rows3 ++ (rows4 m ++ (rows5 m ++ [[.s "rest"]]))))
theorem rest_word : ∀ w, w ∈ words13 → ¬ w ∈ W1 → ¬ w ∈ W2 → ¬ w ∈ W3 → ¬ w = "when" → ¬ w = "again" → w = "rest" := by decide +kernel
theorem legit_mem {m : Nat} {r : List Pt} (h : Legit m r) : r ∈ allRows m := by
  obtain ⟨w, d, c, v, g, hw, hd, hc, hv, hg, rfl⟩ := h
  unfold allRows rowOf
  simp only [List.mem_append]
  by_cases h1 : w ∈ W1
  · rw [if_pos h1]
    exact .inl (List.mem_flatMap.mpr ⟨w, h1, List.mem_map.mpr ⟨d, hd, rfl⟩⟩)
  · rw [if_neg h1]
    refine .inr ?_
    by_cases h2 : w ∈ W2
    · rw [if_pos h2]
      exact .inl (List.mem_flatMap.mpr ⟨w, h2, List.mem_map.mpr ⟨c, hc, rfl⟩⟩)
    · rw [if_neg h2]
      refine .inr ?_
      by_cases h3 : w ∈ W3
      · rw [if_pos h3]
        exact .inl (List.mem_flatMap.mpr ⟨w, h3, List.mem_flatMap.mpr ⟨c, hc, List.mem_map.mpr ⟨v, List.mem_range.mpr hv, rfl⟩⟩⟩)
      · rw [if_neg h3]
        refine .inr ?_
        by_cases h4 : w = "when"
        · rw [if_pos h4, h4]
          exact .inl (List.mem_flatMap.mpr ⟨v, List.mem_range.mpr hv, List.mem_map.mpr ⟨g, List.mem_range.mpr hg, rfl⟩⟩)
        · rw [if_neg h4]
          refine .inr ?_
          by_cases h5 : w = "again"
          · rw [if_pos h5, h5]
            exact .inl (List.mem_map.mpr ⟨g, List.mem_range.mpr hg, rfl⟩)
          · rw [if_neg h5, rest_word w hw h1 h2 h3 h4 h5]
            exact .inr (List.mem_cons_self ..)
theorem all_fine : ((List.range 6).all fun m => (allRows (m + 1)).all fun r => fineRow (m + 1) r) = true := by decide +kernel
theorem legit_fine {m : Nat} {r : List Pt} (m1 : 1 ≤ m) (m6 : m ≤ 6) (h : Legit m r) : fineRow m r = true := by
  have h1 := List.all_eq_true.mp all_fine (m - 1) (List.mem_range.mpr (by omega))
  rw [show m - 1 + 1 = m by omega] at h1
  exact List.all_eq_true.mp h1 r (legit_mem h)
structure Fine (m : Nat) (r : List Pt) : Prop where
  good : GoodRow r
  head : ∃ x ps, r = .s x :: ps ∧ x ∈ words13
  isrow : rowPB m r = true
  back : rowP (rowT r) = r
  line : ¬ 10 ∈ (rowT r).cps.toList
  few : (Txt.split (rowT r) " ").length ≤ 50
theorem legit_all {m : Nat} {r : List Pt} (m1 : 1 ≤ m) (m6 : m ≤ 6) (h : Legit m r) : Fine m r := by
  have f := legit_fine m1 m6 h
  unfold fineRow at f
  simp only [Bool.and_eq_true, decide_eq_true_eq, Bool.not_eq_true', decide_eq_false_iff_not] at f
  obtain ⟨f1, f2, f3, f4, f5, f6, f7⟩ := f
  refine ⟨⟨f1, fun p hp => of_decide_eq_true (List.all_eq_true.mp f2 p hp)⟩, ?_, f4, f5, f6, f7⟩
  match r, f3 with
  | .s x :: ps, f3 => exact ⟨x, ps, rfl, of_decide_eq_true f3⟩
theorem legit_rows {m : Nat} {rs : List (List Pt)} (m1 : 1 ≤ m) (m6 : m ≤ 6) (h : LegitRows m rs) : GoodRows rs ∧ ∀ r, r ∈ rs → Fine m r :=
  ⟨⟨by rw [h.1]; exact m6, fun r hr => (legit_all m1 m6 (h.2 r hr)).good⟩, fun r hr => legit_all m1 m6 (h.2 r hr)⟩

/-! ### the law's own text -/
theorem sjoin_snoc (s : Str) (y : Str) : ∀ (xs : List Str) (x : Str), Str.join s (x :: xs ++ [y]) = Str.join s (x :: xs) ++ s ++ y
  | [], x => rfl
  | z :: xs, x => by
    have ih := sjoin_snoc s y xs z
    show x ++ s ++ Str.join s (z :: xs ++ [y]) = x ++ s ++ Str.join s (z :: xs) ++ s ++ y
    rw [ih]
    simp only [Str.append_assoc]
theorem tjoin_snoc (s y x : Str) (xs : List Str) : Txt.join s (x :: (xs ++ [y])) = Txt.join s (x :: xs) ++ s ++ y := by
  rw [show Txt.join s (x :: (xs ++ [y])) = Str.join s (x :: (xs ++ [y])) from StrLaws.glued_eq_join _ _, show Txt.join s (x :: xs) = Str.join s (x :: xs) from StrLaws.glued_eq_join _ _]
  exact sjoin_snoc s y xs x
theorem join_short {r : List Pt} (g : GoodRow r) (j : Nat) : (Txt.join " " ((r.take j).map ptT)).length ≤ 40 :=
  row_short ⟨by rw [List.length_take]; have := g.1; omega, fun p hp => g.2 p (List.mem_of_mem_take hp)⟩
def spLawText : Sp := fun vs H Q _ => ∃ (nm : Str) (l : Addr) (ws : List V) (rs : List (List Pt)), vs = [.str nm, .ref l] ∧ H l = some (.lst ws) ∧ Paired (RowAt H) ws rs ∧ nm ∈ knames ∧ GoodRows rs ∧ (∀ r, r ∈ rs → ∃ x ps, r = .s x :: ps) ∧ ∀ H', Same H H' → Q (.str (textOf nm rs)) H'
theorem cut_tailV (x : V) (xs : List V) : cutV (x :: xs) (some 1) none = xs := by
  unfold cutV
  have e : HT.sIx (x :: xs).length 0 (some 1) = 1 := by
    rw [show (some (1 : Int)) = some ((1 : Nat) : Int) from rfl, HT.sIx_nat, List.length_cons]
    omega
  rw [e, HT.sIx_none, List.drop_one, List.tail_cons]
  refine List.take_of_length_le ?_
  rw [List.length_cons]
  omega
section
variable {P : Program} {w : World} {K : W.Frag} {mg : Str → Option Value} {base : Heap}
abbrev NL : List Str := ["name", "rows", "lines", "row", "line", "part"]
theorem scLt : FnScope NL ["name", "rows"] (defScope sText) := ⟨rfl, rfl, rfl, by decide +kernel, rfl, by decide +kernel, by decide +kernel⟩
theorem ok_lawtext {f : Addr} {fd : FuncData} (F : Fun K "_law_text" "_law_text" sText f fd) (B : Bl mg) : FnOk P w K mg base CX0 1 f fd ["name", "rows"] spLawText := by
  refine F.ok scLt (fun vs H Q E h => ?_) (fun cdv A outer s H vs Q E hr h => ?_)
  · obtain ⟨nm, l, ws, rs, rfl, _⟩ := h
    rfl
  · obtain ⟨nm, l, ws, rs, rfl, hl, pw, gn, ⟨r6, gr⟩, hd, k⟩ := h
    refine ⟨_, pss_cons (ps_set (i := 2) scLt.nd rfl (Or.inl rfl) (pe_lst (pa_cons (pe_op op_add_str pe_str (pv 0)) pa_nil)))
      (pss_cons (ps_for PassesOwn.never rfl (pi_list (pv 1)) (pg_name (i := 3) scLt.nd rfl (Or.inl rfl))
        (pss_cons (ps_set (i := 4) scLt.nd rfl (Or.inl rfl) (pe_ix ix_tup (pv 3) pe_int (fun _ _ => rfl)))
        (pss_cons (ps_for PassesOwn.never rfl (pi_tup (pe_slice sl_tup (pv 3) (po_some pe_int) po_none)) (pg_name (i := 5) scLt.nd rfl (Or.inl rfl))
          (pss_one (ps_set (i := 4) scLt.nd rfl (Or.inl rfl) (pe_op op_add_str (pe_op op_add_str (pv 4) pe_str) (pe_callTy call_strB (by rfl) B.str (by decide +kernel) (pa_cons (pv 5) pa_nil))))))
        (pss_one (ps_expr (pe_bm PySem.F.plainAttrs_list PySem.F.slot_list_append PySem.F.type_list_append mt_append (pv 2) (pa_cons (pv 4) pa_nil)))))))
      (pss_one (ps_ret (pe_join pe_str (pv 2))))), ?_⟩
    have line : (1000 : Nat) ≤ sizeLine := by decide
    have lw := paired_len pw
    have ln := kn_short nm gn
    have e1 : (" " : Str).length = 1 := rfl
    refine ⟨_, rfl, _, nm, rfl, rfl, ?_, by show 1 ≤ sizeLine; decide, fun u nu => ?_⟩
    · have : ("kind " : Str).length = 5 := rfl
      omega
    have s0 := same_upd (o := .lst [V.str ("kind " ++ nm)]) nu
    refine ⟨_, rfl, l, rfl, ⟨_, SqL.of (s0 _ _ hl)⟩, for_it (walk_list (xs := ws)) (fun i σ H' => ∃ v3 v4 v5 : Option V, σ = [some (.str nm), some (.ref l), some (.ref u), v3, v4, v5] ∧ Same H H' ∧ H' u = some (.lst ((("kind " ++ nm : Str) :: (rs.take i).map rowT).map V.str)))
      ⟨_, _, _, rfl, s0, upd_same⟩ (fun i σ H' _ z => ?_) ?_ ?_⟩
    · obtain ⟨_, _, _, _, s, _⟩ := z
      exact SqL.of (s _ _ hl)
    · rintro i x σ H2' H2 hi ⟨v3, v4, v5, rfl, s2, at_u⟩ ⟨rfl, hx⟩
      obtain ⟨r, hr', c, rfl, hc⟩ := paired_get pw hx
      obtain ⟨hi', rfl⟩ := List.getElem?_eq_some_iff.mp hr'
      obtain ⟨y, ps, er⟩ := hd _ (List.getElem_mem hi')
      have g := gr _ (List.getElem_mem hi')
      have hc2 := s2 _ _ hc
      rw [er] at hc2
      have hc2 : H2 c = some (.tup (V.str y :: ps.map ptV)) := hc2
      have jl : ∀ j, (Txt.join " " (y :: (ps.take j).map ptT)).length ≤ 40 := fun j => by
        have := join_short g (j + 1)
        rw [er] at this
        exact this
      have p2 : ps.length ≤ 2 := by
        have := g.1
        rw [er, List.length_cons] at this
        omega
      refine ⟨_, rfl, c, _, _, .str y, rfl, rfl, SqT.of hc2, atI_nat (j := 0) rfl, ?_⟩
      refine ⟨_, rfl, 1, rfl, c, _, rfl, SqT.of hc2, ?_, fun t nt => ?_⟩
      · rintro ⟨z, _⟩
        rw [show (some (1 : Int)) = some ((1 : Nat) : Int) from rfl, HT.sIx_nat, List.length_cons] at z
        omega
      rw [cut_tailV]
      have s3 := same_upd (o := .tup (ps.map ptV)) nt
      have at_t : upd H2 t (.tup (ps.map ptV)) t = some (.tup (ps.map ptV)) := upd_same
      revert s3 at_t
      generalize upd H2 t (.tup (ps.map ptV)) = HT
      intro s3 at_t
      refine ⟨t, rfl, ⟨_, SqT.of at_t⟩, for_it (walk_tup (xs := ps.map ptV)) (fun j σ H' => ∃ v5 : Option V, σ = [some (.str nm), some (.ref l), some (.ref u), some (.ref c), some (.str (Txt.join " " (y :: (ps.take j).map ptT))), v5] ∧ Same HT H')
        ⟨_, rfl, Same.refl _⟩ (fun j σ H' _ z => ?_) ?_ ?_⟩
      · obtain ⟨_, _, s⟩ := z
        exact SqT.of (s _ _ at_t)
      · rintro j x σ H3' H3 hj ⟨v5, rfl, s4⟩ ⟨rfl, hx⟩
        rw [List.getElem?_map] at hx
        obtain ⟨p, hp, rfl⟩ := Option.map_eq_some_iff.mp hx
        obtain ⟨hj', rfl⟩ := List.getElem?_eq_some_iff.mp hp
        have gp : ps[j] ∈ pts := g.2 _ (by rw [er]; exact List.mem_cons_of_mem _ (List.getElem_mem hj'))
        have sh := pt_short _ gp
        have jj := jl j
        have nx : Txt.join " " (y :: (ps.take (j + 1)).map ptT) = Txt.join " " (y :: (ps.take j).map ptT) ++ " " ++ ptT ps[j] := by
          rw [List.take_succ_eq_append_getElem hj', List.map_append]
          exact tjoin_snoc _ _ _ _
        have l1 : (Txt.join " " (y :: (ps.take j).map ptT) ++ " ").length = (Txt.join " " (y :: (ps.take j).map ptT)).length + 1 := by
          rw [Tx.len_L, Tx.L_append, List.length_append, ← Tx.len_L]
          rfl
        refine ⟨_, rfl, _, _, rfl, rfl, by rw [e1]; omega, _, rfl, ?_⟩
        have fin : ∃ a b, V.str (Txt.join " " (y :: (ps.take j).map ptT) ++ " ") = .str a ∧ V.str (ptT ps[j]) = .str b ∧ a.length + b.length ≤ sizeLine ∧ ∃ v5 : Option V, [some (V.str nm), some (V.ref l), some (V.ref u), some (V.ref c), some (V.str (a ++ b)), some (ptV ps[j])] = [some (.str nm), some (.ref l), some (.ref u), some (.ref c), some (.str (Txt.join " " (y :: (ps.take (j + 1)).map ptT))), v5] ∧ Same HT H3 :=
          ⟨_, _, rfl, rfl, by rw [l1]; omega, _, by rw [nx], s4⟩
        revert fin gp
        generalize ps[j] = p
        intro gp fin
        cases p with
        | s z => exact .inr ⟨z, rfl, fin⟩
        | n k =>
          refine .inl ⟨_, rfl, ?_, fin⟩
          have : k < 8 := by
            simp only [pts, List.mem_append, List.mem_map, List.mem_range] at gp
            rcases gp with ⟨_, _, z⟩ | ⟨_, z, e⟩
            · cases z
            · cases e
              exact z
          show (k : Int).natAbs.log2 < 1920
          rw [Int.natAbs_natCast]
          have := Nat.log2_le_self k
          omega
      · rintro σ H3 ⟨v5, rfl, s4⟩
        rw [List.length_map, List.take_length]
        have s23 := s3.trans s4
        have at_u3 := s23 _ _ at_u
        refine ⟨_, rfl, .inl ⟨rfl, _, SqL.of at_u3⟩, _, rfl, u, _, _, rfl, rfl, at_u3, ?_, _, _, _, rfl, fun b o e => ?_, ?_⟩
        · rw [List.length_map, List.length_cons, List.length_map, List.length_take]
          omega
        · rw [upd_ne (ne_of_none e nu)]
          exact s23 _ _ (s2 _ _ e)
        · have et : Txt.join " " (y :: ps.map ptT) = rowT rs[i] := by
            rw [er]
            rfl
          rw [upd_same, List.take_succ_eq_append_getElem hi', List.map_append, ← List.cons_append, List.map_append, et]
          rfl
    · rintro σ H2 ⟨v3, v4, v5, rfl, s2, at_u⟩
      rw [lw, List.take_length] at at_u
      refine ⟨⟨_, rfl⟩, _, rfl, "\n", u, _, rfl, rfl, .inl (SqL.of at_u), ?_, k _ s2⟩
      have := sum_le ((rs.map rowT).map fun x => x.length) 40 (fun x hx => by
        obtain ⟨y, hy, rfl⟩ := List.mem_map.mp hx
        obtain ⟨p, hp, rfl⟩ := List.mem_map.mp hy
        exact row_short (gr p hp))
      have e : ("\n" : Str).length = 1 := rfl
      have e5 : ("kind " ++ nm : Str).length = 5 + nm.length := by
        rw [Tx.len_L, Tx.L_append, List.length_append, Tx.len_L nm]
        rfl
      rw [e]
      simp only [List.map_cons, List.sum_cons, List.length_cons, List.length_map] at this ⊢
      omega
end
end K08

namespace K08
open PySem PySem.Spec PyProof.Rows L2
open Cal EnuT Exn Keys

def flatOk : V → Bool
  | .non => true
  | .bl _ => true
  | .int _ => true
  | .str s => decide (s.length ≤ 1000)
  | _ => false
theorem flat_okv {H : Hp} {x : V} (h : flatOk x = true) : OkV H x ∧ ∀ s, x = .str s → s.length ≤ 1000 := by
  cases x with
  | non => exact ⟨.non, fun s e => nomatch e⟩
  | bl b => exact ⟨.bl b, fun s e => nomatch e⟩
  | int i => exact ⟨.int i, fun s e => nomatch e⟩
  | str z => exact ⟨.str z, fun s e => by cases e; exact of_decide_eq_true h⟩
  | _ => cases h
theorem flat_seq {H : Hp} {x : V} (h : flatOk x = true) : seqOf H x = none := by
  cases x <;> first | rfl | cases h
/-- a value that is no row of a program of m rows -/
def Bent (m : Nat) (H : Hp) (x : V) : Prop := RowOk H x ∧ rowB (m : Nat) H x = false
theorem RowOk.same {H H' : Hp} (s : Same H H') {x : V} (o : RowOk H x) : RowOk H' x := ⟨o.1.same s, fun ys e => o.2 ys (by rw [o.1.1.seq_same s] at e; exact e)⟩
theorem Bent.same {m : Nat} {H H' : Hp} (s : Same H H') {x : V} (b : Bent m H x) : Bent m H' x := ⟨b.1.same s, by rw [rowB_same s b.1.1.1]; exact b.2⟩
def AllBent (m : Nat) (H0 H : Hp) (xs : List V) : Prop := ∀ x, x ∈ xs → Bent m H x ∧ ∀ t, x = .ref t → H0 t = none
theorem all_same {m : Nat} {H0 H H' : Hp} {xs : List V} (s : Same H H') (h : AllBent m H0 H xs) : AllBent m H0 H' xs := fun x hx => ⟨(h x hx).1.same s, (h x hx).2⟩
theorem all_snoc {m : Nat} {H0 H : Hp} {xs : List V} {x : V} (h : AllBent m H0 H xs) (b : Bent m H x) (f : ∀ t, x = .ref t → H0 t = none) : AllBent m H0 H (xs ++ [x]) := fun y hy => by
  rcases List.mem_append.mp hy with z | z
  · exact h y z
  · obtain rfl := List.mem_singleton.mp z
    exact ⟨b, f⟩
theorem OkV.but {H H' : Hp} {p q : Addr} {x : V} (d : Deal H' p q) (s : But2 p q H H') (o : OkV H x) : OkV H' x := by
  obtain ⟨_, ns, b', hp, hq, _⟩ := d
  have at_ : ∀ a, (∃ xs, H a = some (.lst xs)) ∨ (∃ xs, H a = some (.tup xs)) → OkV H' (.ref a) := fun a h => by
    by_cases ap : a = p
    · rw [ap]; exact .lst hp
    · by_cases aq : a = q
      · rw [aq]; exact .lst hq
      · rcases h with ⟨xs, h⟩ | ⟨xs, h⟩
        · exact .lst (s _ _ ap aq h)
        · exact .tup (s _ _ ap aq h)
  cases o with
  | non => exact .non
  | bl b => exact .bl b
  | int i => exact .int i
  | str x => exact .str x
  | lst h => exact at_ _ (.inl ⟨_, h⟩)
  | tup h => exact at_ _ (.inr ⟨_, h⟩)
theorem seq_but {H H' : Hp} {p q : Addr} {x : V} (s : But2 p q H H') (np : x ≠ .ref p) (nq : x ≠ .ref q) (o : OkV H x) : seqOf H' x = seqOf H x := by
  cases o with
  | non => rfl
  | bl b => rfl
  | int i => rfl
  | str x => rfl
  | lst h => rw [seqOf_lst h, seqOf_lst (s _ _ (fun e => np (by rw [e])) (fun e => nq (by rw [e])) h)]
  | tup h => rw [seqOf_tup h, seqOf_tup (s _ _ (fun e => np (by rw [e])) (fun e => nq (by rw [e])) h)]
theorem Bent.but {m : Nat} {H H' : Hp} {p q : Addr} {x : V} (d : Deal H' p q) (s : But2 p q H H') (np : x ≠ .ref p) (nq : x ≠ .ref q) (b : Bent m H x) : Bent m H' x := by
  obtain ⟨⟨⟨o, items⟩, few⟩, r⟩ := b
  have e := seq_but s np nq o
  refine ⟨⟨⟨o.but d s, fun xs h y hy => ?_⟩, fun ys h => few ys (by rw [← e]; exact h)⟩, ?_⟩
  · rw [e] at h
    exact ⟨(items xs h y hy).1.but d s, (items xs h y hy).2⟩
  · unfold rowB at r ⊢
    rw [e]
    exact r
theorem all_flat {H : Hp} {xs : List V} (h : xs.all flatOk = true) : ∀ x, x ∈ xs → OkV H x ∧ ∀ s, x = .str s → s.length ≤ 1000 := fun x hx => flat_okv (List.all_eq_true.mp h x hx)
theorem bent_flat {m : Nat} {H : Hp} {x : V} (h : flatOk x = true) : Bent m H x := by
  refine ⟨⟨⟨(flat_okv h).1, fun xs e => ?_⟩, fun ys e => ?_⟩, ?_⟩
  · rw [flat_seq h] at e
    cases e
  · rw [flat_seq h] at e
    cases e
  · unfold rowB
    rw [flat_seq h]
theorem bent_tup {m : Nat} {H : Hp} {t : Addr} {xs : List V} (e : H t = some (.tup xs)) (ok : ∀ x, x ∈ xs → OkV H x ∧ ∀ s, x = .str s → s.length ≤ 1000) (few : xs.length ≤ 100) (r : rowL (m : Nat) xs = false) : Bent m H (.ref t) := by
  refine ⟨⟨⟨.tup e, fun ys h => ?_⟩, fun ys h => ?_⟩, ?_⟩
  · rw [seqOf_tup e] at h
    obtain rfl := Option.some.inj h
    exact ok
  · rw [seqOf_tup e] at h
    obtain rfl := Option.some.inj h
    exact few
  · unfold rowB
    rw [seqOf_tup e]
    exact r
theorem bent_lst {m : Nat} {H : Hp} {t : Addr} {xs : List V} (e : H t = some (.lst xs)) (ok : ∀ x, x ∈ xs → OkV H x ∧ ∀ s, x = .str s → s.length ≤ 1000) (few : xs.length ≤ 100) (r : rowL (m : Nat) xs = false) : Bent m H (.ref t) := by
  refine ⟨⟨⟨.lst e, fun ys h => ?_⟩, fun ys h => ?_⟩, ?_⟩
  · rw [seqOf_lst e] at h
    obtain rfl := Option.some.inj h
    exact ok
  · rw [seqOf_lst e] at h
    obtain rfl := Option.some.inj h
    exact few
  · unfold rowB
    rw [seqOf_lst e]
    exact r
theorem bad_m3 (m : Nat) : rowL (m : Nat) [.str "when", .int 1, .int ((m : Nat) + 1)] = false := by
  have h : belowB ((m : Nat) + 1 : Int) (.int ((m : Nat) + 1)) = false := by simp [belowB]
  show (belowB 3 (.int 1) && (belowB ((m : Nat) + 1 : Int) (.int ((m : Nat) + 1)) && true)) = false
  rw [h]
  simp
theorem bad_m2 (m : Nat) : rowL (m : Nat) [.str "again", .int ((m : Nat) + 1)] = false := by
  have h : belowB ((m : Nat) + 1 : Int) (.int ((m : Nat) + 1)) = false := by simp [belowB]
  show (belowB ((m : Nat) + 1 : Int) (.int ((m : Nat) + 1)) && true) = false
  rw [h]
  simp
def spBent : Sp := fun vs H Q _ => ∃ (p q : Addr) (m : Nat), vs = [.ref p, .int (m : Nat)] ∧ Deal H p q ∧ ∀ H' x, But2 p q H H' → Deal H' p q → Bent m H' x → x ≠ .ref p → x ≠ .ref q → Q x H'
section
variable {P : Program} {w : World} {K : W.Frag} {mg : Str → Option Value} {base : Heap}
theorem scBe : FnScope ["deal", "many", "some"] ["deal", "many"] (defScope sBent) := ⟨rfl, rfl, rfl, by decide +kernel, rfl, by decide +kernel, by decide +kernel⟩
theorem ok_bent {f : Addr} {fd : FuncData} (F : Fun K "_law_bent" "_law_bent" sBent f fd) (B : Bl mg) (Of : Callee P w K mg base "_law_pick" 2 ["deal", "some"] spOf) :
    FnOk P w K mg base CX0 3 f fd ["deal", "many"] spBent := by
  refine F.ok scBe (fun vs H Q E h => ?_) (fun cdv A outer s H vs Q E hr h => ?_)
  · obtain ⟨p, q, m, rfl, _⟩ := h
    rfl
  · obtain ⟨p, q, m, rfl, dl, k⟩ := h
    refine ⟨_, pss_cons (ps_set (i := 2) scBe.nd rfl (Or.inl rfl) (pe_lst (pa_cons (pe_tup (pa_cons pe_str pa_nil)) (pa_cons (pe_tup (pa_cons pe_str (pa_cons pe_str pa_nil))) (pa_cons (pe_tup (pa_cons pe_str (pa_cons pe_str pa_nil))) (pa_cons (pe_tup (pa_cons pe_str (pa_cons pe_str pa_nil))) (pa_cons (pe_tup (pa_cons pe_str (pa_cons pe_str (pa_cons pe_str pa_nil)))) (pa_cons (pe_tup (pa_cons pe_str (pa_cons pe_int pa_nil))) (pa_cons (pe_tup (pa_cons pe_str (pa_cons pe_str pa_nil))) pa_nil)))))))))
      (pss_cons (ps_set (i := 2) scBe.nd rfl (Or.inl rfl) (pe_op op_cat (pv 2) (pe_lst (pa_cons (pe_tup (pa_cons pe_str (pa_cons pe_str (pa_cons pe_int pa_nil)))) (pa_cons (pe_tup (pa_cons pe_str (pa_cons pe_str (pa_cons pe_bl pa_nil)))) (pa_cons (pe_tup (pa_cons pe_str (pa_cons pe_str (pa_cons (pe_un un_neg pe_int) pa_nil)))) (pa_cons (pe_tup (pa_cons pe_str (pa_cons pe_str pa_nil))) (pa_cons (pe_tup (pa_cons pe_str (pa_cons pe_str (pa_cons pe_str pa_nil)))) (pa_cons (pe_tup (pa_cons pe_str (pa_cons pe_int pa_nil))) pa_nil)))))))))
      (pss_cons (ps_set (i := 2) scBe.nd rfl (Or.inl rfl) (pe_op op_cat (pv 2) (pe_lst (pa_cons (pe_tup (pa_cons pe_str (pa_cons pe_int (pa_cons (pe_op op_add (pv 1) pe_int) pa_nil)))) (pa_cons (pe_tup (pa_cons pe_str (pa_cons pe_int (pa_cons pe_int pa_nil)))) (pa_cons (pe_tup (pa_cons pe_str (pa_cons (pe_un un_neg pe_int) pa_nil))) (pa_cons (pe_tup (pa_cons pe_str (pa_cons (pe_op op_add (pv 1) pe_int) pa_nil))) (pa_cons (pe_tup (pa_cons pe_str (pa_cons pe_bl pa_nil))) pa_nil))))))))
      (pss_cons (ps_set (i := 2) scBe.nd rfl (Or.inl rfl) (pe_op op_cat (pv 2) (pe_lst (pa_cons (pe_tup (pa_cons pe_str pa_nil)) (pa_cons (pe_tup (pa_cons pe_str (pa_cons pe_int pa_nil))) (pa_cons (pe_tup (pa_cons pe_str pa_nil)) (pa_cons (pe_tup (pa_cons pe_str (pa_cons pe_str pa_nil))) (pa_cons (pe_tup pa_nil) (pa_cons (pe_lst pa_nil) (pa_cons pe_str (pa_cons pe_str (pa_cons pe_non (pa_cons pe_int (pa_cons (pe_tup (pa_cons pe_non (pa_cons pe_str pa_nil))) pa_nil))))))))))))))
      (pss_cons (ps_set (i := 2) scBe.nd rfl (Or.inl rfl) (pe_op op_cat (pv 2) (pe_lst (pa_cons (pe_tup (pa_cons (pe_lst (pa_cons pe_str pa_nil)) (pa_cons pe_str pa_nil))) (pa_cons (pe_tup (pa_cons pe_str (pa_cons pe_non pa_nil))) (pa_cons (pe_tup (pa_cons pe_str (pa_cons (pe_tup (pa_cons pe_str pa_nil)) pa_nil))) pa_nil))))))
      (pss_one (ps_ret (pe_callee Of hr rfl (pa_cons (pv 0) (pa_cons (pv 2) pa_nil))))))))), ?_⟩
    have all0 : AllBent m H H [] := fun x hx => nomatch hx
    have sG0 : Same H H := Same.refl _
    refine ⟨by show 1 ≤ sizeLine; decide, fun t1 n1 => ?_⟩
    generalize hG : upd _ t1 _ = G1
    have s : Same H G1 := by rw [← hG]; exact same_upd n1
    have at1 : G1 t1 = some (.tup [.str "go"]) := by rw [← hG]; exact upd_same
    have sG1 := sG0.trans s
    have all1 : AllBent m H G1 [] := all_same s all0
    clear hG s all0
    have all1 : AllBent m H G1 [.ref t1] := all_snoc (xs := []) all1 (bent_tup (m := m) at1 (all_flat (by decide +kernel)) (by show 1 ≤ 100; decide) (by kernel_rfl)) (fun t e => by cases e; exact sG0.free n1)
    refine ⟨by show 2 ≤ sizeLine; decide, fun t2 n2 => ?_⟩
    generalize hG : upd _ t2 _ = G2
    have s : Same G1 G2 := by rw [← hG]; exact same_upd n2
    have at2 : G2 t2 = some (.tup [.str "go", .str "D"]) := by rw [← hG]; exact upd_same
    have sG2 := sG1.trans s
    have all2 : AllBent m H G2 [.ref t1] := all_same s all1
    clear hG s all1
    have all2 : AllBent m H G2 [.ref t1, .ref t2] := all_snoc (xs := [.ref t1]) all2 (bent_tup (m := m) at2 (all_flat (by decide +kernel)) (by show 2 ≤ 100; decide) (by kernel_rfl)) (fun t e => by cases e; exact sG1.free n2)
    refine ⟨by show 2 ≤ sizeLine; decide, fun t3 n3 => ?_⟩
    generalize hG : upd _ t3 _ = G3
    have s : Same G2 G3 := by rw [← hG]; exact same_upd n3
    have at3 : G3 t3 = some (.tup [.str "go", .str "out"]) := by rw [← hG]; exact upd_same
    have sG3 := sG2.trans s
    have all3 : AllBent m H G3 [.ref t1, .ref t2] := all_same s all2
    clear hG s all2
    have all3 : AllBent m H G3 [.ref t1, .ref t2, .ref t3] := all_snoc (xs := [.ref t1, .ref t2]) all3 (bent_tup (m := m) at3 (all_flat (by decide +kernel)) (by show 2 ≤ 100; decide) (by kernel_rfl)) (fun t e => by cases e; exact sG2.free n3)
    refine ⟨by show 2 ≤ sizeLine; decide, fun t4 n4 => ?_⟩
    generalize hG : upd _ t4 _ = G4
    have s : Same G3 G4 := by rw [← hG]; exact same_upd n4
    have at4 : G4 t4 = some (.tup [.str "go", .str ""]) := by rw [← hG]; exact upd_same
    have sG4 := sG3.trans s
    have all4 : AllBent m H G4 [.ref t1, .ref t2, .ref t3] := all_same s all3
    clear hG s all3
    have all4 : AllBent m H G4 [.ref t1, .ref t2, .ref t3, .ref t4] := all_snoc (xs := [.ref t1, .ref t2, .ref t3]) all4 (bent_tup (m := m) at4 (all_flat (by decide +kernel)) (by show 2 ≤ 100; decide) (by kernel_rfl)) (fun t e => by cases e; exact sG3.free n4)
    refine ⟨by show 3 ≤ sizeLine; decide, fun t5 n5 => ?_⟩
    generalize hG : upd _ t5 _ = G5
    have s : Same G4 G5 := by rw [← hG]; exact same_upd n5
    have at5 : G5 t5 = some (.tup [.str "go", .str "d", .str "e"]) := by rw [← hG]; exact upd_same
    have sG5 := sG4.trans s
    have all5 : AllBent m H G5 [.ref t1, .ref t2, .ref t3, .ref t4] := all_same s all4
    clear hG s all4
    have all5 : AllBent m H G5 [.ref t1, .ref t2, .ref t3, .ref t4, .ref t5] := all_snoc (xs := [.ref t1, .ref t2, .ref t3, .ref t4]) all5 (bent_tup (m := m) at5 (all_flat (by decide +kernel)) (by show 3 ≤ 100; decide) (by kernel_rfl)) (fun t e => by cases e; exact sG4.free n5)
    refine ⟨by show 2 ≤ sizeLine; decide, fun t6 n6 => ?_⟩
    generalize hG : upd _ t6 _ = G6
    have s : Same G5 G6 := by rw [← hG]; exact same_upd n6
    have at6 : G6 t6 = some (.tup [.str "see", .int 1]) := by rw [← hG]; exact upd_same
    have sG6 := sG5.trans s
    have all6 : AllBent m H G6 [.ref t1, .ref t2, .ref t3, .ref t4, .ref t5] := all_same s all5
    clear hG s all5
    have all6 : AllBent m H G6 [.ref t1, .ref t2, .ref t3, .ref t4, .ref t5, .ref t6] := all_snoc (xs := [.ref t1, .ref t2, .ref t3, .ref t4, .ref t5]) all6 (bent_tup (m := m) at6 (all_flat (by decide +kernel)) (by show 2 ≤ 100; decide) (by kernel_rfl)) (fun t e => by cases e; exact sG5.free n6)
    refine ⟨by show 2 ≤ sizeLine; decide, fun t7 n7 => ?_⟩
    generalize hG : upd _ t7 _ = G7
    have s : Same G6 G7 := by rw [← hG]; exact same_upd n7
    have at7 : G7 t7 = some (.tup [.str "see", .str "toolongnm"]) := by rw [← hG]; exact upd_same
    have sG7 := sG6.trans s
    have all7 : AllBent m H G7 [.ref t1, .ref t2, .ref t3, .ref t4, .ref t5, .ref t6] := all_same s all6
    clear hG s all6
    have all7 : AllBent m H G7 [.ref t1, .ref t2, .ref t3, .ref t4, .ref t5, .ref t6, .ref t7] := all_snoc (xs := [.ref t1, .ref t2, .ref t3, .ref t4, .ref t5, .ref t6]) all7 (bent_tup (m := m) at7 (all_flat (by decide +kernel)) (by show 2 ≤ 100; decide) (by kernel_rfl)) (fun t e => by cases e; exact sG6.free n7)
    refine ⟨by show 7 ≤ sizeLine; decide, fun t8 n8 => ?_⟩
    generalize hG : upd _ t8 _ = G8
    have s : Same G7 G8 := by rw [← hG]; exact same_upd n8
    have at8 : G8 t8 = some (.lst [.ref t1, .ref t2, .ref t3, .ref t4, .ref t5, .ref t6, .ref t7]) := by rw [← hG]; exact upd_same
    have sG8 := sG7.trans s
    have all8 : AllBent m H G8 [.ref t1, .ref t2, .ref t3, .ref t4, .ref t5, .ref t6, .ref t7] := all_same s all7
    clear hG s all7
    obtain ⟨L0, hL0, len0, at8⟩ : ∃ L : List V, L = [.ref t1, .ref t2, .ref t3, .ref t4, .ref t5, .ref t6, .ref t7] ∧ L.length = 7 ∧ G8 t8 = some (.lst L) := ⟨_, rfl, rfl, at8⟩
    refine ⟨_, rfl, by show 3 ≤ sizeLine; decide, fun t9 n9 => ?_⟩
    generalize hG : upd _ t9 _ = G9
    have s : Same G8 G9 := by rw [← hG]; exact same_upd n9
    have at9 : G9 t9 = some (.tup [.str "set", .str "c", .int 3]) := by rw [← hG]; exact upd_same
    have sG9 := sG8.trans s
    have at8 := s _ _ at8
    have all9 : AllBent m H G9 [.ref t1, .ref t2, .ref t3, .ref t4, .ref t5, .ref t6, .ref t7] := all_same s all8
    clear hG s all8
    have all9 : AllBent m H G9 [.ref t1, .ref t2, .ref t3, .ref t4, .ref t5, .ref t6, .ref t7, .ref t9] := all_snoc (xs := [.ref t1, .ref t2, .ref t3, .ref t4, .ref t5, .ref t6, .ref t7]) all9 (bent_tup (m := m) at9 (all_flat (by decide +kernel)) (by show 3 ≤ 100; decide) (by kernel_rfl)) (fun t e => by cases e; exact sG8.free n9)
    refine ⟨by show 3 ≤ sizeLine; decide, fun t10 n10 => ?_⟩
    generalize hG : upd _ t10 _ = G10
    have s : Same G9 G10 := by rw [← hG]; exact same_upd n10
    have at10 : G10 t10 = some (.tup [.str "set", .str "c", .bl true]) := by rw [← hG]; exact upd_same
    have sG10 := sG9.trans s
    have at8 := s _ _ at8
    have all10 : AllBent m H G10 [.ref t1, .ref t2, .ref t3, .ref t4, .ref t5, .ref t6, .ref t7, .ref t9] := all_same s all9
    clear hG s all9
    have all10 : AllBent m H G10 [.ref t1, .ref t2, .ref t3, .ref t4, .ref t5, .ref t6, .ref t7, .ref t9, .ref t10] := all_snoc (xs := [.ref t1, .ref t2, .ref t3, .ref t4, .ref t5, .ref t6, .ref t7, .ref t9]) all10 (bent_tup (m := m) at10 (all_flat (by decide +kernel)) (by show 3 ≤ 100; decide) (by kernel_rfl)) (fun t e => by cases e; exact sG9.free n10)
    refine ⟨_, rfl, by show 3 ≤ sizeLine; decide, fun t11 n11 => ?_⟩
    generalize hG : upd _ t11 _ = G11
    have s : Same G10 G11 := by rw [← hG]; exact same_upd n11
    have at11 : G11 t11 = some (.tup [.str "set", .str "c", .int (-1)]) := by rw [← hG]; exact upd_same
    have sG11 := sG10.trans s
    have at8 := s _ _ at8
    have all11 : AllBent m H G11 [.ref t1, .ref t2, .ref t3, .ref t4, .ref t5, .ref t6, .ref t7, .ref t9, .ref t10] := all_same s all10
    clear hG s all10
    have all11 : AllBent m H G11 [.ref t1, .ref t2, .ref t3, .ref t4, .ref t5, .ref t6, .ref t7, .ref t9, .ref t10, .ref t11] := all_snoc (xs := [.ref t1, .ref t2, .ref t3, .ref t4, .ref t5, .ref t6, .ref t7, .ref t9, .ref t10]) all11 (bent_tup (m := m) at11 (all_flat (by decide +kernel)) (by show 3 ≤ 100; decide) (by kernel_rfl)) (fun t e => by cases e; exact sG10.free n11)
    refine ⟨by show 2 ≤ sizeLine; decide, fun t12 n12 => ?_⟩
    generalize hG : upd _ t12 _ = G12
    have s : Same G11 G12 := by rw [← hG]; exact same_upd n12
    have at12 : G12 t12 = some (.tup [.str "set", .str "c"]) := by rw [← hG]; exact upd_same
    have sG12 := sG11.trans s
    have at8 := s _ _ at8
    have all12 : AllBent m H G12 [.ref t1, .ref t2, .ref t3, .ref t4, .ref t5, .ref t6, .ref t7, .ref t9, .ref t10, .ref t11] := all_same s all11
    clear hG s all11
    have all12 : AllBent m H G12 [.ref t1, .ref t2, .ref t3, .ref t4, .ref t5, .ref t6, .ref t7, .ref t9, .ref t10, .ref t11, .ref t12] := all_snoc (xs := [.ref t1, .ref t2, .ref t3, .ref t4, .ref t5, .ref t6, .ref t7, .ref t9, .ref t10, .ref t11]) all12 (bent_tup (m := m) at12 (all_flat (by decide +kernel)) (by show 2 ≤ 100; decide) (by kernel_rfl)) (fun t e => by cases e; exact sG11.free n12)
    refine ⟨by show 3 ≤ sizeLine; decide, fun t13 n13 => ?_⟩
    generalize hG : upd _ t13 _ = G13
    have s : Same G12 G13 := by rw [← hG]; exact same_upd n13
    have at13 : G13 t13 = some (.tup [.str "wait", .str "c", .str "1"]) := by rw [← hG]; exact upd_same
    have sG13 := sG12.trans s
    have at8 := s _ _ at8
    have all13 : AllBent m H G13 [.ref t1, .ref t2, .ref t3, .ref t4, .ref t5, .ref t6, .ref t7, .ref t9, .ref t10, .ref t11, .ref t12] := all_same s all12
    clear hG s all12
    have all13 : AllBent m H G13 [.ref t1, .ref t2, .ref t3, .ref t4, .ref t5, .ref t6, .ref t7, .ref t9, .ref t10, .ref t11, .ref t12, .ref t13] := all_snoc (xs := [.ref t1, .ref t2, .ref t3, .ref t4, .ref t5, .ref t6, .ref t7, .ref t9, .ref t10, .ref t11, .ref t12]) all13 (bent_tup (m := m) at13 (all_flat (by decide +kernel)) (by show 3 ≤ 100; decide) (by kernel_rfl)) (fun t e => by cases e; exact sG12.free n13)
    refine ⟨by show 2 ≤ sizeLine; decide, fun t14 n14 => ?_⟩
    generalize hG : upd _ t14 _ = G14
    have s : Same G13 G14 := by rw [← hG]; exact same_upd n14
    have at14 : G14 t14 = some (.tup [.str "when", .int 1]) := by rw [← hG]; exact upd_same
    have sG14 := sG13.trans s
    have at8 := s _ _ at8
    have all14 : AllBent m H G14 [.ref t1, .ref t2, .ref t3, .ref t4, .ref t5, .ref t6, .ref t7, .ref t9, .ref t10, .ref t11, .ref t12, .ref t13] := all_same s all13
    clear hG s all13
    have all14 : AllBent m H G14 [.ref t1, .ref t2, .ref t3, .ref t4, .ref t5, .ref t6, .ref t7, .ref t9, .ref t10, .ref t11, .ref t12, .ref t13, .ref t14] := all_snoc (xs := [.ref t1, .ref t2, .ref t3, .ref t4, .ref t5, .ref t6, .ref t7, .ref t9, .ref t10, .ref t11, .ref t12, .ref t13]) all14 (bent_tup (m := m) at14 (all_flat (by decide +kernel)) (by show 2 ≤ 100; decide) (by kernel_rfl)) (fun t e => by cases e; exact sG13.free n14)
    refine ⟨by show 6 ≤ sizeLine; decide, fun t15 n15 => ?_⟩
    generalize hG : upd _ t15 _ = G15
    have s : Same G14 G15 := by rw [← hG]; exact same_upd n15
    have at15 : G15 t15 = some (.lst [.ref t9, .ref t10, .ref t11, .ref t12, .ref t13, .ref t14]) := by rw [← hG]; exact upd_same
    have sG15 := sG14.trans s
    have at8 := s _ _ at8
    have all15 : AllBent m H G15 [.ref t1, .ref t2, .ref t3, .ref t4, .ref t5, .ref t6, .ref t7, .ref t9, .ref t10, .ref t11, .ref t12, .ref t13, .ref t14] := all_same s all14
    clear hG s all14
    obtain ⟨L1, hL1, len1, at15⟩ : ∃ L : List V, L = [.ref t9, .ref t10, .ref t11, .ref t12, .ref t13, .ref t14] ∧ L.length = 6 ∧ G15 t15 = some (.lst L) := ⟨_, rfl, rfl, at15⟩
    refine ⟨_, _, _, _, rfl, rfl, at8, at15, (by simp only [List.length_append, len0, len1]; decide), fun t16 n16 => ?_⟩
    generalize hG : upd _ t16 _ = G16
    have s : Same G15 G16 := by rw [← hG]; exact same_upd n16
    have at16 : G16 t16 = some (.lst (L0 ++ L1)) := by rw [← hG]; exact upd_same
    have sG16 := sG15.trans s
    have all16 : AllBent m H G16 [.ref t1, .ref t2, .ref t3, .ref t4, .ref t5, .ref t6, .ref t7, .ref t9, .ref t10, .ref t11, .ref t12, .ref t13, .ref t14] := all_same s all15
    clear hG s all15
    refine ⟨_, rfl, _, rfl, _, _, rfl, rfl, by show 3 ≤ sizeLine; decide, fun t17 n17 => ?_⟩
    generalize hG : upd _ t17 _ = G17
    have s : Same G16 G17 := by rw [← hG]; exact same_upd n17
    have at17 : G17 t17 = some (.tup [.str "when", .int 1, .int ((m : Nat) + 1)]) := by rw [← hG]; exact upd_same
    have sG17 := sG16.trans s
    have at16 := s _ _ at16
    have all17 : AllBent m H G17 [.ref t1, .ref t2, .ref t3, .ref t4, .ref t5, .ref t6, .ref t7, .ref t9, .ref t10, .ref t11, .ref t12, .ref t13, .ref t14] := all_same s all16
    clear hG s all16
    have all17 : AllBent m H G17 [.ref t1, .ref t2, .ref t3, .ref t4, .ref t5, .ref t6, .ref t7, .ref t9, .ref t10, .ref t11, .ref t12, .ref t13, .ref t14, .ref t17] := all_snoc (xs := [.ref t1, .ref t2, .ref t3, .ref t4, .ref t5, .ref t6, .ref t7, .ref t9, .ref t10, .ref t11, .ref t12, .ref t13, .ref t14]) all17 (bent_tup (m := m) at17 (all_flat (by rfl)) (by show 3 ≤ 100; decide) (bad_m3 m)) (fun t e => by cases e; exact sG16.free n17)
    refine ⟨by show 3 ≤ sizeLine; decide, fun t18 n18 => ?_⟩
    generalize hG : upd _ t18 _ = G18
    have s : Same G17 G18 := by rw [← hG]; exact same_upd n18
    have at18 : G18 t18 = some (.tup [.str "when", .int 3, .int 0]) := by rw [← hG]; exact upd_same
    have sG18 := sG17.trans s
    have at16 := s _ _ at16
    have all18 : AllBent m H G18 [.ref t1, .ref t2, .ref t3, .ref t4, .ref t5, .ref t6, .ref t7, .ref t9, .ref t10, .ref t11, .ref t12, .ref t13, .ref t14, .ref t17] := all_same s all17
    clear hG s all17
    have all18 : AllBent m H G18 [.ref t1, .ref t2, .ref t3, .ref t4, .ref t5, .ref t6, .ref t7, .ref t9, .ref t10, .ref t11, .ref t12, .ref t13, .ref t14, .ref t17, .ref t18] := all_snoc (xs := [.ref t1, .ref t2, .ref t3, .ref t4, .ref t5, .ref t6, .ref t7, .ref t9, .ref t10, .ref t11, .ref t12, .ref t13, .ref t14, .ref t17]) all18 (bent_tup (m := m) at18 (all_flat (by decide +kernel)) (by show 3 ≤ 100; decide) (by kernel_rfl)) (fun t e => by cases e; exact sG17.free n18)
    refine ⟨_, rfl, by show 2 ≤ sizeLine; decide, fun t19 n19 => ?_⟩
    generalize hG : upd _ t19 _ = G19
    have s : Same G18 G19 := by rw [← hG]; exact same_upd n19
    have at19 : G19 t19 = some (.tup [.str "again", .int (-1)]) := by rw [← hG]; exact upd_same
    have sG19 := sG18.trans s
    have at16 := s _ _ at16
    have all19 : AllBent m H G19 [.ref t1, .ref t2, .ref t3, .ref t4, .ref t5, .ref t6, .ref t7, .ref t9, .ref t10, .ref t11, .ref t12, .ref t13, .ref t14, .ref t17, .ref t18] := all_same s all18
    clear hG s all18
    have all19 : AllBent m H G19 [.ref t1, .ref t2, .ref t3, .ref t4, .ref t5, .ref t6, .ref t7, .ref t9, .ref t10, .ref t11, .ref t12, .ref t13, .ref t14, .ref t17, .ref t18, .ref t19] := all_snoc (xs := [.ref t1, .ref t2, .ref t3, .ref t4, .ref t5, .ref t6, .ref t7, .ref t9, .ref t10, .ref t11, .ref t12, .ref t13, .ref t14, .ref t17, .ref t18]) all19 (bent_tup (m := m) at19 (all_flat (by decide +kernel)) (by show 2 ≤ 100; decide) (by kernel_rfl)) (fun t e => by cases e; exact sG18.free n19)
    refine ⟨_, rfl, _, _, rfl, rfl, by show 2 ≤ sizeLine; decide, fun t20 n20 => ?_⟩
    generalize hG : upd _ t20 _ = G20
    have s : Same G19 G20 := by rw [← hG]; exact same_upd n20
    have at20 : G20 t20 = some (.tup [.str "again", .int ((m : Nat) + 1)]) := by rw [← hG]; exact upd_same
    have sG20 := sG19.trans s
    have at16 := s _ _ at16
    have all20 : AllBent m H G20 [.ref t1, .ref t2, .ref t3, .ref t4, .ref t5, .ref t6, .ref t7, .ref t9, .ref t10, .ref t11, .ref t12, .ref t13, .ref t14, .ref t17, .ref t18, .ref t19] := all_same s all19
    clear hG s all19
    have all20 : AllBent m H G20 [.ref t1, .ref t2, .ref t3, .ref t4, .ref t5, .ref t6, .ref t7, .ref t9, .ref t10, .ref t11, .ref t12, .ref t13, .ref t14, .ref t17, .ref t18, .ref t19, .ref t20] := all_snoc (xs := [.ref t1, .ref t2, .ref t3, .ref t4, .ref t5, .ref t6, .ref t7, .ref t9, .ref t10, .ref t11, .ref t12, .ref t13, .ref t14, .ref t17, .ref t18, .ref t19]) all20 (bent_tup (m := m) at20 (all_flat (by rfl)) (by show 2 ≤ 100; decide) (bad_m2 m)) (fun t e => by cases e; exact sG19.free n20)
    refine ⟨by show 2 ≤ sizeLine; decide, fun t21 n21 => ?_⟩
    generalize hG : upd _ t21 _ = G21
    have s : Same G20 G21 := by rw [← hG]; exact same_upd n21
    have at21 : G21 t21 = some (.tup [.str "again", .bl false]) := by rw [← hG]; exact upd_same
    have sG21 := sG20.trans s
    have at16 := s _ _ at16
    have all21 : AllBent m H G21 [.ref t1, .ref t2, .ref t3, .ref t4, .ref t5, .ref t6, .ref t7, .ref t9, .ref t10, .ref t11, .ref t12, .ref t13, .ref t14, .ref t17, .ref t18, .ref t19, .ref t20] := all_same s all20
    clear hG s all20
    have all21 : AllBent m H G21 [.ref t1, .ref t2, .ref t3, .ref t4, .ref t5, .ref t6, .ref t7, .ref t9, .ref t10, .ref t11, .ref t12, .ref t13, .ref t14, .ref t17, .ref t18, .ref t19, .ref t20, .ref t21] := all_snoc (xs := [.ref t1, .ref t2, .ref t3, .ref t4, .ref t5, .ref t6, .ref t7, .ref t9, .ref t10, .ref t11, .ref t12, .ref t13, .ref t14, .ref t17, .ref t18, .ref t19, .ref t20]) all21 (bent_tup (m := m) at21 (all_flat (by decide +kernel)) (by show 2 ≤ 100; decide) (by kernel_rfl)) (fun t e => by cases e; exact sG20.free n21)
    refine ⟨by show 5 ≤ sizeLine; decide, fun t22 n22 => ?_⟩
    generalize hG : upd _ t22 _ = G22
    have s : Same G21 G22 := by rw [← hG]; exact same_upd n22
    have at22 : G22 t22 = some (.lst [.ref t17, .ref t18, .ref t19, .ref t20, .ref t21]) := by rw [← hG]; exact upd_same
    have sG22 := sG21.trans s
    have at16 := s _ _ at16
    have all22 : AllBent m H G22 [.ref t1, .ref t2, .ref t3, .ref t4, .ref t5, .ref t6, .ref t7, .ref t9, .ref t10, .ref t11, .ref t12, .ref t13, .ref t14, .ref t17, .ref t18, .ref t19, .ref t20, .ref t21] := all_same s all21
    clear hG s all21
    obtain ⟨L2, hL2, len2, at22⟩ : ∃ L : List V, L = [.ref t17, .ref t18, .ref t19, .ref t20, .ref t21] ∧ L.length = 5 ∧ G22 t22 = some (.lst L) := ⟨_, rfl, rfl, at22⟩
    refine ⟨_, _, _, _, rfl, rfl, at16, at22, (by simp only [List.length_append, len0, len1, len2]; decide), fun t23 n23 => ?_⟩
    generalize hG : upd _ t23 _ = G23
    have s : Same G22 G23 := by rw [← hG]; exact same_upd n23
    have at23 : G23 t23 = some (.lst ((L0 ++ L1) ++ L2)) := by rw [← hG]; exact upd_same
    have sG23 := sG22.trans s
    have all23 : AllBent m H G23 [.ref t1, .ref t2, .ref t3, .ref t4, .ref t5, .ref t6, .ref t7, .ref t9, .ref t10, .ref t11, .ref t12, .ref t13, .ref t14, .ref t17, .ref t18, .ref t19, .ref t20, .ref t21] := all_same s all22
    clear hG s all22
    refine ⟨_, rfl, by show 1 ≤ sizeLine; decide, fun t24 n24 => ?_⟩
    generalize hG : upd _ t24 _ = G24
    have s : Same G23 G24 := by rw [← hG]; exact same_upd n24
    have at24 : G24 t24 = some (.tup [.str "again"]) := by rw [← hG]; exact upd_same
    have sG24 := sG23.trans s
    have at23 := s _ _ at23
    have all24 : AllBent m H G24 [.ref t1, .ref t2, .ref t3, .ref t4, .ref t5, .ref t6, .ref t7, .ref t9, .ref t10, .ref t11, .ref t12, .ref t13, .ref t14, .ref t17, .ref t18, .ref t19, .ref t20, .ref t21] := all_same s all23
    clear hG s all23
    have all24 : AllBent m H G24 [.ref t1, .ref t2, .ref t3, .ref t4, .ref t5, .ref t6, .ref t7, .ref t9, .ref t10, .ref t11, .ref t12, .ref t13, .ref t14, .ref t17, .ref t18, .ref t19, .ref t20, .ref t21, .ref t24] := all_snoc (xs := [.ref t1, .ref t2, .ref t3, .ref t4, .ref t5, .ref t6, .ref t7, .ref t9, .ref t10, .ref t11, .ref t12, .ref t13, .ref t14, .ref t17, .ref t18, .ref t19, .ref t20, .ref t21]) all24 (bent_tup (m := m) at24 (all_flat (by decide +kernel)) (by show 1 ≤ 100; decide) (by kernel_rfl)) (fun t e => by cases e; exact sG23.free n24)
    refine ⟨by show 2 ≤ sizeLine; decide, fun t25 n25 => ?_⟩
    generalize hG : upd _ t25 _ = G25
    have s : Same G24 G25 := by rw [← hG]; exact same_upd n25
    have at25 : G25 t25 = some (.tup [.str "rest", .int 0]) := by rw [← hG]; exact upd_same
    have sG25 := sG24.trans s
    have at23 := s _ _ at23
    have all25 : AllBent m H G25 [.ref t1, .ref t2, .ref t3, .ref t4, .ref t5, .ref t6, .ref t7, .ref t9, .ref t10, .ref t11, .ref t12, .ref t13, .ref t14, .ref t17, .ref t18, .ref t19, .ref t20, .ref t21, .ref t24] := all_same s all24
    clear hG s all24
    have all25 : AllBent m H G25 [.ref t1, .ref t2, .ref t3, .ref t4, .ref t5, .ref t6, .ref t7, .ref t9, .ref t10, .ref t11, .ref t12, .ref t13, .ref t14, .ref t17, .ref t18, .ref t19, .ref t20, .ref t21, .ref t24, .ref t25] := all_snoc (xs := [.ref t1, .ref t2, .ref t3, .ref t4, .ref t5, .ref t6, .ref t7, .ref t9, .ref t10, .ref t11, .ref t12, .ref t13, .ref t14, .ref t17, .ref t18, .ref t19, .ref t20, .ref t21, .ref t24]) all25 (bent_tup (m := m) at25 (all_flat (by decide +kernel)) (by show 2 ≤ 100; decide) (by kernel_rfl)) (fun t e => by cases e; exact sG24.free n25)
    refine ⟨by show 1 ≤ sizeLine; decide, fun t26 n26 => ?_⟩
    generalize hG : upd _ t26 _ = G26
    have s : Same G25 G26 := by rw [← hG]; exact same_upd n26
    have at26 : G26 t26 = some (.tup [.str "stay"]) := by rw [← hG]; exact upd_same
    have sG26 := sG25.trans s
    have at23 := s _ _ at23
    have all26 : AllBent m H G26 [.ref t1, .ref t2, .ref t3, .ref t4, .ref t5, .ref t6, .ref t7, .ref t9, .ref t10, .ref t11, .ref t12, .ref t13, .ref t14, .ref t17, .ref t18, .ref t19, .ref t20, .ref t21, .ref t24, .ref t25] := all_same s all25
    clear hG s all25
    have all26 : AllBent m H G26 [.ref t1, .ref t2, .ref t3, .ref t4, .ref t5, .ref t6, .ref t7, .ref t9, .ref t10, .ref t11, .ref t12, .ref t13, .ref t14, .ref t17, .ref t18, .ref t19, .ref t20, .ref t21, .ref t24, .ref t25, .ref t26] := all_snoc (xs := [.ref t1, .ref t2, .ref t3, .ref t4, .ref t5, .ref t6, .ref t7, .ref t9, .ref t10, .ref t11, .ref t12, .ref t13, .ref t14, .ref t17, .ref t18, .ref t19, .ref t20, .ref t21, .ref t24, .ref t25]) all26 (bent_tup (m := m) at26 (all_flat (by decide +kernel)) (by show 1 ≤ 100; decide) (by kernel_rfl)) (fun t e => by cases e; exact sG25.free n26)
    refine ⟨by show 2 ≤ sizeLine; decide, fun t27 n27 => ?_⟩
    generalize hG : upd _ t27 _ = G27
    have s : Same G26 G27 := by rw [← hG]; exact same_upd n27
    have at27 : G27 t27 = some (.tup [.str "Go", .str "d"]) := by rw [← hG]; exact upd_same
    have sG27 := sG26.trans s
    have at23 := s _ _ at23
    have all27 : AllBent m H G27 [.ref t1, .ref t2, .ref t3, .ref t4, .ref t5, .ref t6, .ref t7, .ref t9, .ref t10, .ref t11, .ref t12, .ref t13, .ref t14, .ref t17, .ref t18, .ref t19, .ref t20, .ref t21, .ref t24, .ref t25, .ref t26] := all_same s all26
    clear hG s all26
    have all27 : AllBent m H G27 [.ref t1, .ref t2, .ref t3, .ref t4, .ref t5, .ref t6, .ref t7, .ref t9, .ref t10, .ref t11, .ref t12, .ref t13, .ref t14, .ref t17, .ref t18, .ref t19, .ref t20, .ref t21, .ref t24, .ref t25, .ref t26, .ref t27] := all_snoc (xs := [.ref t1, .ref t2, .ref t3, .ref t4, .ref t5, .ref t6, .ref t7, .ref t9, .ref t10, .ref t11, .ref t12, .ref t13, .ref t14, .ref t17, .ref t18, .ref t19, .ref t20, .ref t21, .ref t24, .ref t25, .ref t26]) all27 (bent_tup (m := m) at27 (all_flat (by decide +kernel)) (by show 2 ≤ 100; decide) (by kernel_rfl)) (fun t e => by cases e; exact sG26.free n27)
    refine ⟨by show 0 ≤ sizeLine; decide, fun t28 n28 => ?_⟩
    generalize hG : upd _ t28 _ = G28
    have s : Same G27 G28 := by rw [← hG]; exact same_upd n28
    have at28 : G28 t28 = some (.tup []) := by rw [← hG]; exact upd_same
    have sG28 := sG27.trans s
    have at23 := s _ _ at23
    have all28 : AllBent m H G28 [.ref t1, .ref t2, .ref t3, .ref t4, .ref t5, .ref t6, .ref t7, .ref t9, .ref t10, .ref t11, .ref t12, .ref t13, .ref t14, .ref t17, .ref t18, .ref t19, .ref t20, .ref t21, .ref t24, .ref t25, .ref t26, .ref t27] := all_same s all27
    clear hG s all27
    have all28 : AllBent m H G28 [.ref t1, .ref t2, .ref t3, .ref t4, .ref t5, .ref t6, .ref t7, .ref t9, .ref t10, .ref t11, .ref t12, .ref t13, .ref t14, .ref t17, .ref t18, .ref t19, .ref t20, .ref t21, .ref t24, .ref t25, .ref t26, .ref t27, .ref t28] := all_snoc (xs := [.ref t1, .ref t2, .ref t3, .ref t4, .ref t5, .ref t6, .ref t7, .ref t9, .ref t10, .ref t11, .ref t12, .ref t13, .ref t14, .ref t17, .ref t18, .ref t19, .ref t20, .ref t21, .ref t24, .ref t25, .ref t26, .ref t27]) all28 (bent_tup (m := m) at28 (all_flat (by decide +kernel)) (by show 0 ≤ 100; decide) (by kernel_rfl)) (fun t e => by cases e; exact sG27.free n28)
    refine ⟨by show 0 ≤ sizeLine; decide, fun t29 n29 => ?_⟩
    generalize hG : upd _ t29 _ = G29
    have s : Same G28 G29 := by rw [← hG]; exact same_upd n29
    have at29 : G29 t29 = some (.lst []) := by rw [← hG]; exact upd_same
    have sG29 := sG28.trans s
    have at23 := s _ _ at23
    have all29 : AllBent m H G29 [.ref t1, .ref t2, .ref t3, .ref t4, .ref t5, .ref t6, .ref t7, .ref t9, .ref t10, .ref t11, .ref t12, .ref t13, .ref t14, .ref t17, .ref t18, .ref t19, .ref t20, .ref t21, .ref t24, .ref t25, .ref t26, .ref t27, .ref t28] := all_same s all28
    clear hG s all28
    have all29 : AllBent m H G29 [.ref t1, .ref t2, .ref t3, .ref t4, .ref t5, .ref t6, .ref t7, .ref t9, .ref t10, .ref t11, .ref t12, .ref t13, .ref t14, .ref t17, .ref t18, .ref t19, .ref t20, .ref t21, .ref t24, .ref t25, .ref t26, .ref t27, .ref t28, .ref t29] := all_snoc (xs := [.ref t1, .ref t2, .ref t3, .ref t4, .ref t5, .ref t6, .ref t7, .ref t9, .ref t10, .ref t11, .ref t12, .ref t13, .ref t14, .ref t17, .ref t18, .ref t19, .ref t20, .ref t21, .ref t24, .ref t25, .ref t26, .ref t27, .ref t28]) all29 (bent_lst (m := m) at29 (all_flat (by decide +kernel)) (by show 0 ≤ 100; decide) (by kernel_rfl)) (fun t e => by cases e; exact sG28.free n29)
    have all29 : AllBent m H G29 [.ref t1, .ref t2, .ref t3, .ref t4, .ref t5, .ref t6, .ref t7, .ref t9, .ref t10, .ref t11, .ref t12, .ref t13, .ref t14, .ref t17, .ref t18, .ref t19, .ref t20, .ref t21, .ref t24, .ref t25, .ref t26, .ref t27, .ref t28, .ref t29, .str "go d"] := all_snoc (xs := [.ref t1, .ref t2, .ref t3, .ref t4, .ref t5, .ref t6, .ref t7, .ref t9, .ref t10, .ref t11, .ref t12, .ref t13, .ref t14, .ref t17, .ref t18, .ref t19, .ref t20, .ref t21, .ref t24, .ref t25, .ref t26, .ref t27, .ref t28, .ref t29]) all29 (bent_flat (m := m) (H := G29) (x := .str "go d") (by decide +kernel)) (fun t e => nomatch e)
    have all29 : AllBent m H G29 [.ref t1, .ref t2, .ref t3, .ref t4, .ref t5, .ref t6, .ref t7, .ref t9, .ref t10, .ref t11, .ref t12, .ref t13, .ref t14, .ref t17, .ref t18, .ref t19, .ref t20, .ref t21, .ref t24, .ref t25, .ref t26, .ref t27, .ref t28, .ref t29, .str "go d", .str "rest"] := all_snoc (xs := [.ref t1, .ref t2, .ref t3, .ref t4, .ref t5, .ref t6, .ref t7, .ref t9, .ref t10, .ref t11, .ref t12, .ref t13, .ref t14, .ref t17, .ref t18, .ref t19, .ref t20, .ref t21, .ref t24, .ref t25, .ref t26, .ref t27, .ref t28, .ref t29, .str "go d"]) all29 (bent_flat (m := m) (H := G29) (x := .str "rest") (by decide +kernel)) (fun t e => nomatch e)
    have all29 : AllBent m H G29 [.ref t1, .ref t2, .ref t3, .ref t4, .ref t5, .ref t6, .ref t7, .ref t9, .ref t10, .ref t11, .ref t12, .ref t13, .ref t14, .ref t17, .ref t18, .ref t19, .ref t20, .ref t21, .ref t24, .ref t25, .ref t26, .ref t27, .ref t28, .ref t29, .str "go d", .str "rest", .non] := all_snoc (xs := [.ref t1, .ref t2, .ref t3, .ref t4, .ref t5, .ref t6, .ref t7, .ref t9, .ref t10, .ref t11, .ref t12, .ref t13, .ref t14, .ref t17, .ref t18, .ref t19, .ref t20, .ref t21, .ref t24, .ref t25, .ref t26, .ref t27, .ref t28, .ref t29, .str "go d", .str "rest"]) all29 (bent_flat (m := m) (H := G29) (x := .non) (by decide +kernel)) (fun t e => nomatch e)
    have all29 : AllBent m H G29 [.ref t1, .ref t2, .ref t3, .ref t4, .ref t5, .ref t6, .ref t7, .ref t9, .ref t10, .ref t11, .ref t12, .ref t13, .ref t14, .ref t17, .ref t18, .ref t19, .ref t20, .ref t21, .ref t24, .ref t25, .ref t26, .ref t27, .ref t28, .ref t29, .str "go d", .str "rest", .non, .int 5] := all_snoc (xs := [.ref t1, .ref t2, .ref t3, .ref t4, .ref t5, .ref t6, .ref t7, .ref t9, .ref t10, .ref t11, .ref t12, .ref t13, .ref t14, .ref t17, .ref t18, .ref t19, .ref t20, .ref t21, .ref t24, .ref t25, .ref t26, .ref t27, .ref t28, .ref t29, .str "go d", .str "rest", .non]) all29 (bent_flat (m := m) (H := G29) (x := .int 5) (by decide +kernel)) (fun t e => nomatch e)
    refine ⟨by show 2 ≤ sizeLine; decide, fun t30 n30 => ?_⟩
    generalize hG : upd _ t30 _ = G30
    have s : Same G29 G30 := by rw [← hG]; exact same_upd n30
    have at30 : G30 t30 = some (.tup [.non, .str "d"]) := by rw [← hG]; exact upd_same
    have sG30 := sG29.trans s
    have at23 := s _ _ at23
    have all30 : AllBent m H G30 [.ref t1, .ref t2, .ref t3, .ref t4, .ref t5, .ref t6, .ref t7, .ref t9, .ref t10, .ref t11, .ref t12, .ref t13, .ref t14, .ref t17, .ref t18, .ref t19, .ref t20, .ref t21, .ref t24, .ref t25, .ref t26, .ref t27, .ref t28, .ref t29, .str "go d", .str "rest", .non, .int 5] := all_same s all29
    clear hG s all29
    have all30 : AllBent m H G30 [.ref t1, .ref t2, .ref t3, .ref t4, .ref t5, .ref t6, .ref t7, .ref t9, .ref t10, .ref t11, .ref t12, .ref t13, .ref t14, .ref t17, .ref t18, .ref t19, .ref t20, .ref t21, .ref t24, .ref t25, .ref t26, .ref t27, .ref t28, .ref t29, .str "go d", .str "rest", .non, .int 5, .ref t30] := all_snoc (xs := [.ref t1, .ref t2, .ref t3, .ref t4, .ref t5, .ref t6, .ref t7, .ref t9, .ref t10, .ref t11, .ref t12, .ref t13, .ref t14, .ref t17, .ref t18, .ref t19, .ref t20, .ref t21, .ref t24, .ref t25, .ref t26, .ref t27, .ref t28, .ref t29, .str "go d", .str "rest", .non, .int 5]) all30 (bent_tup (m := m) at30 (all_flat (by decide +kernel)) (by show 2 ≤ 100; decide) (by kernel_rfl)) (fun t e => by cases e; exact sG29.free n30)
    refine ⟨by show 11 ≤ sizeLine; decide, fun t31 n31 => ?_⟩
    generalize hG : upd _ t31 _ = G31
    have s : Same G30 G31 := by rw [← hG]; exact same_upd n31
    have at31 : G31 t31 = some (.lst [.ref t24, .ref t25, .ref t26, .ref t27, .ref t28, .ref t29, .str "go d", .str "rest", .non, .int 5, .ref t30]) := by rw [← hG]; exact upd_same
    have sG31 := sG30.trans s
    have at23 := s _ _ at23
    have all31 : AllBent m H G31 [.ref t1, .ref t2, .ref t3, .ref t4, .ref t5, .ref t6, .ref t7, .ref t9, .ref t10, .ref t11, .ref t12, .ref t13, .ref t14, .ref t17, .ref t18, .ref t19, .ref t20, .ref t21, .ref t24, .ref t25, .ref t26, .ref t27, .ref t28, .ref t29, .str "go d", .str "rest", .non, .int 5, .ref t30] := all_same s all30
    clear hG s all30
    obtain ⟨L3, hL3, len3, at31⟩ : ∃ L : List V, L = [.ref t24, .ref t25, .ref t26, .ref t27, .ref t28, .ref t29, .str "go d", .str "rest", .non, .int 5, .ref t30] ∧ L.length = 11 ∧ G31 t31 = some (.lst L) := ⟨_, rfl, rfl, at31⟩
    refine ⟨_, _, _, _, rfl, rfl, at23, at31, (by simp only [List.length_append, len0, len1, len2, len3]; decide), fun t32 n32 => ?_⟩
    generalize hG : upd _ t32 _ = G32
    have s : Same G31 G32 := by rw [← hG]; exact same_upd n32
    have at32 : G32 t32 = some (.lst (((L0 ++ L1) ++ L2) ++ L3)) := by rw [← hG]; exact upd_same
    have sG32 := sG31.trans s
    have all32 : AllBent m H G32 [.ref t1, .ref t2, .ref t3, .ref t4, .ref t5, .ref t6, .ref t7, .ref t9, .ref t10, .ref t11, .ref t12, .ref t13, .ref t14, .ref t17, .ref t18, .ref t19, .ref t20, .ref t21, .ref t24, .ref t25, .ref t26, .ref t27, .ref t28, .ref t29, .str "go d", .str "rest", .non, .int 5, .ref t30] := all_same s all31
    clear hG s all31
    refine ⟨_, rfl, by show 1 ≤ sizeLine; decide, fun t33 n33 => ?_⟩
    generalize hG : upd _ t33 _ = G33
    have s : Same G32 G33 := by rw [← hG]; exact same_upd n33
    have at33 : G33 t33 = some (.lst [.str "go"]) := by rw [← hG]; exact upd_same
    have sG33 := sG32.trans s
    have at32 := s _ _ at32
    have all33 : AllBent m H G33 [.ref t1, .ref t2, .ref t3, .ref t4, .ref t5, .ref t6, .ref t7, .ref t9, .ref t10, .ref t11, .ref t12, .ref t13, .ref t14, .ref t17, .ref t18, .ref t19, .ref t20, .ref t21, .ref t24, .ref t25, .ref t26, .ref t27, .ref t28, .ref t29, .str "go d", .str "rest", .non, .int 5, .ref t30] := all_same s all32
    clear hG s all32
    refine ⟨by show 2 ≤ sizeLine; decide, fun t34 n34 => ?_⟩
    generalize hG : upd _ t34 _ = G34
    have s : Same G33 G34 := by rw [← hG]; exact same_upd n34
    have at34 : G34 t34 = some (.tup [.ref t33, .str "d"]) := by rw [← hG]; exact upd_same
    have sG34 := sG33.trans s
    have at32 := s _ _ at32
    have at33 := s _ _ at33
    have all34 : AllBent m H G34 [.ref t1, .ref t2, .ref t3, .ref t4, .ref t5, .ref t6, .ref t7, .ref t9, .ref t10, .ref t11, .ref t12, .ref t13, .ref t14, .ref t17, .ref t18, .ref t19, .ref t20, .ref t21, .ref t24, .ref t25, .ref t26, .ref t27, .ref t28, .ref t29, .str "go d", .str "rest", .non, .int 5, .ref t30] := all_same s all33
    clear hG s all33
    have all34 : AllBent m H G34 [.ref t1, .ref t2, .ref t3, .ref t4, .ref t5, .ref t6, .ref t7, .ref t9, .ref t10, .ref t11, .ref t12, .ref t13, .ref t14, .ref t17, .ref t18, .ref t19, .ref t20, .ref t21, .ref t24, .ref t25, .ref t26, .ref t27, .ref t28, .ref t29, .str "go d", .str "rest", .non, .int 5, .ref t30, .ref t34] := all_snoc (xs := [.ref t1, .ref t2, .ref t3, .ref t4, .ref t5, .ref t6, .ref t7, .ref t9, .ref t10, .ref t11, .ref t12, .ref t13, .ref t14, .ref t17, .ref t18, .ref t19, .ref t20, .ref t21, .ref t24, .ref t25, .ref t26, .ref t27, .ref t28, .ref t29, .str "go d", .str "rest", .non, .int 5, .ref t30]) all34 (bent_tup (m := m) at34 (by intro x hx; simp only [List.mem_cons, List.not_mem_nil, or_false] at hx; rcases hx with rfl | rfl <;> first | exact ⟨OkV.lst at33, fun s e => nomatch e⟩ | exact flat_okv (by decide +kernel)) (by show 2 ≤ 100; decide) (by kernel_rfl)) (fun t e => by cases e; exact sG33.free n34)
    refine ⟨by show 2 ≤ sizeLine; decide, fun t35 n35 => ?_⟩
    generalize hG : upd _ t35 _ = G35
    have s : Same G34 G35 := by rw [← hG]; exact same_upd n35
    have at35 : G35 t35 = some (.tup [.str "use", .non]) := by rw [← hG]; exact upd_same
    have sG35 := sG34.trans s
    have at32 := s _ _ at32
    have all35 : AllBent m H G35 [.ref t1, .ref t2, .ref t3, .ref t4, .ref t5, .ref t6, .ref t7, .ref t9, .ref t10, .ref t11, .ref t12, .ref t13, .ref t14, .ref t17, .ref t18, .ref t19, .ref t20, .ref t21, .ref t24, .ref t25, .ref t26, .ref t27, .ref t28, .ref t29, .str "go d", .str "rest", .non, .int 5, .ref t30, .ref t34] := all_same s all34
    clear hG s all34
    have all35 : AllBent m H G35 [.ref t1, .ref t2, .ref t3, .ref t4, .ref t5, .ref t6, .ref t7, .ref t9, .ref t10, .ref t11, .ref t12, .ref t13, .ref t14, .ref t17, .ref t18, .ref t19, .ref t20, .ref t21, .ref t24, .ref t25, .ref t26, .ref t27, .ref t28, .ref t29, .str "go d", .str "rest", .non, .int 5, .ref t30, .ref t34, .ref t35] := all_snoc (xs := [.ref t1, .ref t2, .ref t3, .ref t4, .ref t5, .ref t6, .ref t7, .ref t9, .ref t10, .ref t11, .ref t12, .ref t13, .ref t14, .ref t17, .ref t18, .ref t19, .ref t20, .ref t21, .ref t24, .ref t25, .ref t26, .ref t27, .ref t28, .ref t29, .str "go d", .str "rest", .non, .int 5, .ref t30, .ref t34]) all35 (bent_tup (m := m) at35 (all_flat (by decide +kernel)) (by show 2 ≤ 100; decide) (by kernel_rfl)) (fun t e => by cases e; exact sG34.free n35)
    refine ⟨by show 1 ≤ sizeLine; decide, fun t36 n36 => ?_⟩
    generalize hG : upd _ t36 _ = G36
    have s : Same G35 G36 := by rw [← hG]; exact same_upd n36
    have at36 : G36 t36 = some (.tup [.str "c"]) := by rw [← hG]; exact upd_same
    have sG36 := sG35.trans s
    have at32 := s _ _ at32
    have all36 : AllBent m H G36 [.ref t1, .ref t2, .ref t3, .ref t4, .ref t5, .ref t6, .ref t7, .ref t9, .ref t10, .ref t11, .ref t12, .ref t13, .ref t14, .ref t17, .ref t18, .ref t19, .ref t20, .ref t21, .ref t24, .ref t25, .ref t26, .ref t27, .ref t28, .ref t29, .str "go d", .str "rest", .non, .int 5, .ref t30, .ref t34, .ref t35] := all_same s all35
    clear hG s all35
    refine ⟨by show 2 ≤ sizeLine; decide, fun t37 n37 => ?_⟩
    generalize hG : upd _ t37 _ = G37
    have s : Same G36 G37 := by rw [← hG]; exact same_upd n37
    have at37 : G37 t37 = some (.tup [.str "tell", .ref t36]) := by rw [← hG]; exact upd_same
    have sG37 := sG36.trans s
    have at32 := s _ _ at32
    have at36 := s _ _ at36
    have all37 : AllBent m H G37 [.ref t1, .ref t2, .ref t3, .ref t4, .ref t5, .ref t6, .ref t7, .ref t9, .ref t10, .ref t11, .ref t12, .ref t13, .ref t14, .ref t17, .ref t18, .ref t19, .ref t20, .ref t21, .ref t24, .ref t25, .ref t26, .ref t27, .ref t28, .ref t29, .str "go d", .str "rest", .non, .int 5, .ref t30, .ref t34, .ref t35] := all_same s all36
    clear hG s all36
    have all37 : AllBent m H G37 [.ref t1, .ref t2, .ref t3, .ref t4, .ref t5, .ref t6, .ref t7, .ref t9, .ref t10, .ref t11, .ref t12, .ref t13, .ref t14, .ref t17, .ref t18, .ref t19, .ref t20, .ref t21, .ref t24, .ref t25, .ref t26, .ref t27, .ref t28, .ref t29, .str "go d", .str "rest", .non, .int 5, .ref t30, .ref t34, .ref t35, .ref t37] := all_snoc (xs := [.ref t1, .ref t2, .ref t3, .ref t4, .ref t5, .ref t6, .ref t7, .ref t9, .ref t10, .ref t11, .ref t12, .ref t13, .ref t14, .ref t17, .ref t18, .ref t19, .ref t20, .ref t21, .ref t24, .ref t25, .ref t26, .ref t27, .ref t28, .ref t29, .str "go d", .str "rest", .non, .int 5, .ref t30, .ref t34, .ref t35]) all37 (bent_tup (m := m) at37 (by intro x hx; simp only [List.mem_cons, List.not_mem_nil, or_false] at hx; rcases hx with rfl | rfl <;> first | exact ⟨OkV.tup at36, fun s e => nomatch e⟩ | exact flat_okv (by decide +kernel)) (by show 2 ≤ 100; decide) (by kernel_rfl)) (fun t e => by cases e; exact sG36.free n37)
    refine ⟨by show 3 ≤ sizeLine; decide, fun t38 n38 => ?_⟩
    generalize hG : upd _ t38 _ = G38
    have s : Same G37 G38 := by rw [← hG]; exact same_upd n38
    have at38 : G38 t38 = some (.lst [.ref t34, .ref t35, .ref t37]) := by rw [← hG]; exact upd_same
    have sG38 := sG37.trans s
    have at32 := s _ _ at32
    have all38 : AllBent m H G38 [.ref t1, .ref t2, .ref t3, .ref t4, .ref t5, .ref t6, .ref t7, .ref t9, .ref t10, .ref t11, .ref t12, .ref t13, .ref t14, .ref t17, .ref t18, .ref t19, .ref t20, .ref t21, .ref t24, .ref t25, .ref t26, .ref t27, .ref t28, .ref t29, .str "go d", .str "rest", .non, .int 5, .ref t30, .ref t34, .ref t35, .ref t37] := all_same s all37
    clear hG s all37
    obtain ⟨L4, hL4, len4, at38⟩ : ∃ L : List V, L = [.ref t34, .ref t35, .ref t37] ∧ L.length = 3 ∧ G38 t38 = some (.lst L) := ⟨_, rfl, rfl, at38⟩
    refine ⟨_, _, _, _, rfl, rfl, at32, at38, (by simp only [List.length_append, len0, len1, len2, len3, len4]; decide), fun t39 n39 => ?_⟩
    generalize hG : upd _ t39 _ = G39
    have s : Same G38 G39 := by rw [← hG]; exact same_upd n39
    have at39 : G39 t39 = some (.lst ((((L0 ++ L1) ++ L2) ++ L3) ++ L4)) := by rw [← hG]; exact upd_same
    have sG39 := sG38.trans s
    have all39 : AllBent m H G39 [.ref t1, .ref t2, .ref t3, .ref t4, .ref t5, .ref t6, .ref t7, .ref t9, .ref t10, .ref t11, .ref t12, .ref t13, .ref t14, .ref t17, .ref t18, .ref t19, .ref t20, .ref t21, .ref t24, .ref t25, .ref t26, .ref t27, .ref t28, .ref t29, .str "go d", .str "rest", .non, .int 5, .ref t30, .ref t34, .ref t35, .ref t37] := all_same s all38
    clear hG s all38
    have last : AllBent m H G39 (((((L0 ++ L1) ++ L2) ++ L3) ++ L4)) := by
      rw [hL0, hL1, hL2, hL3, hL4]
      exact all39
    obtain ⟨tp, tq⟩ := (dl.same sG38).new n39
    refine ⟨_, rfl, _, rfl, p, q, t39, _, rfl, dl.same sG39, tp, tq, at39, (by simp only [List.length_append, len0, len1, len2, len3, len4]; decide), (by simp only [List.length_append, len0, len1, len2, len3, len4]; decide), fun x H' hx but dl' => ?_⟩
    obtain ⟨b, fr⟩ := last x hx
    obtain ⟨_, ns, b', hp, hq, _⟩ := dl
    have np : x ≠ .ref p := fun e => by
      have := fr _ e
      rw [hp] at this
      cases this
    have nq : x ≠ .ref q := fun e => by
      have := fr _ e
      rw [hq] at this
      cases this
    exact k H' x (fun c o n1 n2 e => but c o n1 n2 (sG39 _ _ e)) dl' (b.but dl' but np nq) np nq
end
end K08

namespace K08
open PySem PySem.Spec PyProof.Rows L2
open Cal EnuT Exn Keys LamX Trt
/-- what _law_wrong makes of the work it is given -/
def TTwrong (CG CT : Addr) : (XK → Hp → VK → Prop) → Hp → VK → Prop := fun tl H Q =>
  tl (fun cls d H' => ∃ dd v, d = some dd ∧ H' dd = some (.xd [("at", v)]) ∧ ((cls = .ref CG ∧ ∀ p, H' p = none → Q (.ref p) (upd H' p (.tup [.str "guest", v]))) ∨ (cls = .ref CT ∧ ∀ p, H' p = none → Q (.ref p) (upd H' p (.tup [.str "text", v]))))) H (fun _ H' => Q .non H')
/-- what of the classes is known -/
structure Two (P : Program) (w : World) (K : W.Frag) (mg : Str → Option Value) (base : Heap) (CG CT CL : Addr) : Prop where
  p : CE P w K mg base "InvalidGuest" CG "at"
  t : CE P w K mg base "InvalidText" CT "at"
  g : ClsGet K
  ep : W.exmAny K (.ref CG) [.ref CG] = some true
  en : W.exmAny K (.ref CT) [.ref CG] = some false
  et : W.exmAny K (.ref CT) [.ref CT] = some true
  l : mg "LightError" = some (.ref CL)
  kp : W.kitOne K (.ref CG) (.ref CL) = some true
  kt : W.kitOne K (.ref CT) (.ref CL) = some true
abbrev NW : List Str := ["work", "e"]
theorem scWg : FnScope NW ["work"] (defScope sWrong) := ⟨rfl, rfl, rfl, by decide +kernel, rfl, by decide +kernel, by decide +kernel⟩
theorem wrong_gives {X : Cx} {q : Str} {g CG CT CL : Addr} {cdg : Value} (W2 : Two X.prog X.w X.K X.mg X.base CG CT CL) (B : Bl X.mg) :
    GivesTo X NW "_law_wrong" (defScope sWrong) g cdg (defBody sWrong) "work" q (TTwrong CG CT) := by
  intro f c' s H Q tl act hc h
  refine ⟨_, pss_cons (ps_try_manyA (X := (cxOf C8.CX0 X.prog X.w X.K X.mg X.base NW "_law_wrong" (defScope sWrong) g cdg X.A X.stack s H C8.E0).nox)
      (tb := fun W D σ H => ∃ Ech : XK, (∀ cls d σ' H', σ'.length = 2 → Ech cls d H' → W cls d σ' H') ∧ σ[0]? = some (some (.ref f)) ∧ H c' = some (CodeO c' q) ∧ tl Ech H (fun _ H1 => D.nx σ H1))
      rfl rfl scWg.nd LamX.takes0 (fun W pn xe tk _ => ?_)
      (.cons (tst_one ⟨rfl, by decide, .inl W2.p.m⟩) (i := 1) rfl rfl (fun a oe cls d pn hz hf => pss_one (ps_ret (pe_ifExp (pt_val (pe_callB (call_isF W2.g hz hf) (by rfl) B.isi (by decide +kernel) (pa_cons (pv 1) (pa_cons (pe_glob (v := .ref CL) rfl W2.l rfl) pa_nil))))
        (pe_tup (pa_cons pe_str (pa_cons (pe_errF hz hf (pv 1)) pa_nil))) pe_non)))
      (.cons (tst_one ⟨rfl, by decide, .inl W2.t.m⟩) (i := 1) rfl rfl (fun a oe cls d pn hz hf => pss_one (ps_ret (pe_ifExp (pt_val (pe_callB (call_isF W2.g hz hf) (by rfl) B.isi (by decide +kernel) (pa_cons (pv 1) (pa_cons (pe_glob (v := .ref CL) rfl W2.l rfl) pa_nil))))
        (pe_tup (pa_cons pe_str (pa_cons (pe_errF hz hf (pv 1)) pa_nil))) pe_non))) .nil))) (pss_one (ps_ret pe_non)), ?_⟩
  · refine ⟨fun pins s' σ H' D I h' => ?_⟩
    obtain ⟨Ech, hW, h1, h2, h3⟩ := h'
    exact (pss_one (ps_expr (act _ pn xe Ech _ _ (takes_len tk) (fun cls d σ' H' e l => hW cls d σ' H' l e)))).run pins s' σ H' D I ⟨h1, h2, h3⟩
  · refine ⟨_, fun cls d σ' H' hl z => ?_, rfl, hc, h⟩
    obtain ⟨dd, v, rfl, hd, z⟩ := z
    match σ', hl with
    | [w0, w1], _ =>
      rcases z with ⟨rfl, z⟩ | ⟨rfl, z⟩
      · refine ⟨true, W2.ep, fun _ a na => ?_, fun z => nomatch z⟩
        refine ⟨_, rfl, _, _, _, _, _, W2.p.T, _, _, _, dd, _, rfl, .own CL, rfl, rfl, hd, W2.kp, _, rfl, iteT ?_⟩
        exact ⟨⟨CG, rfl, W2.p.T.xf, W2.p.no⟩, _, rfl, rfl, dd, _, v, rfl, hd, rfl, by show 2 ≤ sizeLine; decide, z⟩
      · refine ⟨false, W2.en, (fun z => nomatch z), fun _ => ⟨true, W2.et, fun _ a na => ?_, fun z => nomatch z⟩⟩
        refine ⟨_, rfl, _, _, _, _, _, W2.t.T, _, _, _, dd, _, rfl, .own CL, rfl, rfl, hd, W2.kt, _, rfl, iteT ?_⟩
        exact ⟨⟨CT, rfl, W2.t.T.xf, W2.t.no⟩, _, rfl, rfl, dd, _, v, rfl, hd, rfl, by show 2 ≤ sizeLine; decide, z⟩
end K08

namespace K08
open PySem PySem.Spec PyProof.Rows L2
open Cal EnuT Exn Keys LamX Stc

/-- _law_wrong, by its name in the module -/
structure Refd (P : Program) (w : World) (K : W.Frag) (mg : Str → Option Value) (base : Heap) (CG CT CL : Addr) : Prop where
  two : Two P w K mg base CG CT CL
  bl : Bl mg
  ex : ∃ (g : Addr) (oc : Value) (od : Option Addr) (kV doc pm : Value) (an : Option Addr) (cdv ct : Value) (osl : Array (Option Value)), mg "_law_wrong" = some (.ref g) ∧ W.keepIn K (.ref g) = true ∧
    K.lookup g = some ⟨oc, od, .func (W.fnOf "_law_wrong" "_law_wrong" (defArgs sWrong) (defBody sWrong) (defScope sWrong) .none kV doc pm an cdv ct), osl⟩ ∧ W.codeIn K cdv "_law_wrong" = true
theorem pe_wrong {X : Cx} {CG CT CL c P : Addr} {T : List (Addr × Str)} {k : Nat} {params : Arguments} {body : Expr} {scope : Scope} {t : XK → TE} {p lpos pos : Pos} (R : Refd X.prog X.w X.K X.mg X.base CG CT CL) (hg : Gl X "_law_wrong")
    (TB : TabB X.base X.mg c P) (hcode : X.env.code = .ref c) (hmT : (P, X.env.qual ++ "<lambda>") ∈ T) (hu : ∀ p ∈ T, p.1 = P → p.2 = X.env.qual ++ "<lambda>") (hr : Room (k + 2) X.A) (L : LamS X.env.scope scope) (hdef : defaultsOf params X.env = ([], []))
    (hbind : ∀ (q : Str) (cl : List (Str × Addr)) (pm cv ctv : Value), bindArgs (W.kla_fn "<lambda>" q params body scope cl pm cv ctv) ⟨[], []⟩ = pure [])
    (hbody : ∀ (A : Around) (outer : List Env) (s : Shared) (H : Hp) (E : XK) (f c' : Addr), Room k (A.deeper (lamEnv X scope s.heap.objs.size f c')) → PE (lamCx X A outer s H E scope f c') body (t E)) :
    PE X (.Call (.Name "_law_wrong" p) [.Lambda params body scope lpos] [] pos) (tLam T (TTwrong CG CT) t) := by
  obtain ⟨g, oc, od, kV, doc, pm, an, cdv, ct, osl, m, kp, lk, hcd⟩ := R.ex
  exact pe_lamcall (a := "work") hg m kp lk hcd (.all fun us hl => match us, hl with | [_], _ => rfl) scWg rfl (.inl rfl) (wrong_gives R.two R.bl) TB hcode hmT hu hr L hdef hbind hbody (by decide) (by decide) (by decide)
theorem tabs_but {p q : Addr} {H H' : Hp} {T : List (Addr × Str)} (d : Deal H p q) (s : But2 p q H H') (t : Tabs T H) : Tabs T H' := fun x hx => by
  obtain ⟨ps, h1, h2, h3⟩ := t x hx
  obtain ⟨_, ns, b', hp, hq, _⟩ := d
  refine ⟨ps, s _ _ (ne_of h1 hp (fun z => by cases z)) (ne_of h1 hq (fun z => by cases z)) h1, h2, fun pos cv hc => ?_⟩
  obtain ⟨c, e1, e2⟩ := h3 pos cv hc
  refine ⟨c, e1, s _ _ (ne_of e2 hp (fun z => by cases z)) (ne_of e2 hq (fun z => by cases z)) e2⟩
theorem Deal.ext {H H' : Hp} {p q : Addr} (d : Deal H p q) (s : ExtN H H') : Deal H' p q := by
  obtain ⟨ne, ns, b, hp, hq, r⟩ := d
  exact ⟨ne, ns, b, s _ _ hp (fun _ z => nomatch z), s _ _ hq (fun _ z => nomatch z), r⟩
structure KindC (P : Program) (w : World) (K : W.Frag) (mg : Str → Option Value) (base : Heap) (C CG CT : Addr) : Prop where
  m : mg "Kind" = some (.ref C)
  init : ∃ fI fdI, Mk K C fI ∧ Binds K fdI ["self", "name", "rows"] [] ∧ FnOk P w K mg base (L2.CX P w) 6 fI fdI ["self", "name", "rows"] (spInit C CG)
  read : ∃ mc r g fd, ClX.CRead K C mc ∧ SMet K C mc "read" r g ∧ Binds K fd ["text"] [] ∧ FnOk P w K mg base (L2.CX P w) 8 g fd ["text"] (spRead C CG CT)
def g1 : List Value → List Value → List Value := fun us ws => match us, ws with
  | [], [a] => [a]
  | _, _ => []
def gV1 : List V → List V → List V := fun us ws => match us, ws with
  | [], [a] => [a]
  | _, _ => []
theorem passX {X : Cx} : Passes (L2.CX X.prog X.w) X E0 := passes_call LamX.takes0 (fun _ _ _ _ h => h)
structure Defs (P : Program) (w : World) (K : W.Frag) (mg : Str → Option Value) (base : Heap) (C CG CT CL : Addr) (T : List (Addr × Str)) : Prop where
  dealt : Callee P w K mg base "_law_deal" 1 ["script", "base"] (spDealt K)
  any : Callee P w K mg base "_law_draw" 1 ["deal", "bound"] spAny
  of : Callee P w K mg base "_law_pick" 2 ["deal", "some"] spOf
  program : Callee P w K mg base "_law_program" 3 ["deal", "doors", "cells", "many"] spProgram
  bent : Callee P w K mg base "_law_bent" 3 ["deal", "many"] spBent
  ltext : Callee P w K mg base "_law_text" 1 ["name", "rows"] spLawText
  refd : Refd P w K mg base CG CT CL
  kc : KindC P w K mg base C CG CT
  initK : ∃ fI fdI, Mk K C fI ∧ KBn K fdI ["self", "name", "rows"] 1 ["name", "rows"] (fun us ws => us ++ ws) (fun us ws => us ++ ws) ∧ FnOk P w K mg base (L2.CX P w) 6 fI fdI ["self", "name", "rows"] (spInit C CG)
  readK : ∃ mc r g fd, ClX.CRead K C mc ∧ SMet K C mc "read" r g ∧ KBinds K fd ["text"] ["text"] g1 gV1 ∧ FnOk P w K mg base (L2.CX P w) 8 g fd ["text"] (spRead C CG CT)
  text : ∃ fT fd, Meth K C "text" fT ∧ Binds K fd ["self"] [] ∧ FnOk P w K mg base CX0 1 fT fd ["self"] (spText C)
  eq : ∃ fE fd, W.findIn K (.ref C) "__eq__" = some (some (.ref fE)) ∧ W.isFn K (.ref fE) = true ∧ Binds K fd ["self", "other"] [] ∧ FnOk P w K mg base CX0 1 fE fd ["self", "other"] (spEq K C)
  ne : W.findIn K (.ref C) "__ne__" = some (some (.builtin "object.__ne__"))
  ob : W.mroIn K C (.type "object") = some true
  cl : Cls K C
  na1 : NoAttr K C "name"
  na2 : NoAttr K C "rows"
  ns : W.notFirst K C (.type "list") = true
  ks : W.kitOne K (.type "list") (.ref C) = some false
abbrev NLw : List Str := ["script", "deal", "turn", "many", "name", "rows", "row", "handed", "kind", "back", "other", "at", "bent", "wrong", "none", "word", "beside", "some", "text", "lines", "line"]
theorem scL : FnScope NLw ["script"] (defScope sLaw) := ⟨rfl, rfl, rfl, by decide +kernel, rfl, by decide +kernel, by decide +kernel⟩
abbrev qL : Str := "law.<locals>.<lambda>"
end K08

namespace K08
open PySem PySem.Spec PyProof.Rows L2
open Cal EnuT Exn Keys LamX Stc Oeq

/-! ### what the law holds at each step -/
theorem tabs_same {T : List (Addr × Str)} {H H' : Hp} (t : Tabs T H) (s : Same H H') : Tabs T H' := t.ext s
theorem seq_asg {te : TE} {g : TG} {T : TS} {D : Ends} {σ : L2.St} {H : Hp} (h : te σ H fun v H1 => g v σ H1 fun σ2 H2 => T D σ2 H2) : tSeq (tAsg te g) T D σ H := h
structure Bag (T : List (Addr × Str)) (C p q l o : Addr) (nm : Str) (rs : List (List Pt)) (ws : List V) (H : Hp) : Prop where
  dl : Deal H p q
  tb : Tabs T H
  hl : H l = some (.lst ws)
  pw : Paired (RowAt H) ws rs
  kd : KindIns H C o nm rs
theorem rows_same {H H' : Hp} {ws : List V} {rs : List (List Pt)} (s : Same H H') (pw : Paired (RowAt H) ws rs) : Paired (RowAt H') ws rs := paired_mono (fun _ _ ⟨c, e, ec⟩ => ⟨c, e, s _ _ ec⟩) pw
theorem rows_but {H H' : Hp} {p q : Addr} {ws : List V} {rs : List (List Pt)} (d : Deal H p q) (s : But2 p q H H') (pw : Paired (RowAt H) ws rs) : Paired (RowAt H') ws rs := paired_mono (fun _ _ ⟨c, e, ec⟩ => ⟨c, e, d.tup s ec⟩) pw
theorem rows_ext {H H' : Hp} {ws : List V} {rs : List (List Pt)} (s : ExtN H H') (pw : Paired (RowAt H) ws rs) : Paired (RowAt H') ws rs := paired_mono (fun _ _ ⟨c, e, ec⟩ => ⟨c, e, s _ _ ec (fun _ z => nomatch z)⟩) pw
theorem Bag.same {T : List (Addr × Str)} {C p q l o : Addr} {nm : Str} {rs : List (List Pt)} {ws : List V} {H H' : Hp} (b : Bag T C p q l o nm rs ws H) (s : Same H H') : Bag T C p q l o nm rs ws H' :=
  ⟨b.dl.same s, tabs_same b.tb s, s _ _ b.hl, rows_same s b.pw, b.kd.same s⟩
theorem kind_but {H H' : Hp} {p q C o : Addr} {nm : Str} {rs : List (List Pt)} (d : Deal H p q) (s : But2 p q H H') (k : KindIns H C o nm rs) : KindIns H' C o nm rs := by
  obtain ⟨dx, t, w, e1, e2, e3⟩ := k
  obtain ⟨_, ns1, b1, hp1, hq1, _⟩ := id d
  exact ⟨dx, t, w, s _ _ (ne_of e1 hp1 (fun z => by cases z)) (ne_of e1 hq1 (fun z => by cases z)) e1, s _ _ (ne_of e2 hp1 (fun z => by cases z)) (ne_of e2 hq1 (fun z => by cases z)) e2, rows_but d s e3⟩
theorem Bag.but {T : List (Addr × Str)} {C p q l o : Addr} {nm : Str} {rs : List (List Pt)} {ws : List V} {H H' : Hp} (b : Bag T C p q l o nm rs ws H) (s : But2 p q H H') (d : Deal H' p q) (lp : l ≠ p) (lq : l ≠ q) : Bag T C p q l o nm rs ws H' :=
  ⟨d, tabs_but b.dl s b.tb, s _ _ lp lq b.hl, rows_but b.dl s b.pw, kind_but b.dl s b.kd⟩
theorem Bag.ext {T : List (Addr × Str)} {C p q l o : Addr} {nm : Str} {rs : List (List Pt)} {ws : List V} {H H' : Hp} (b : Bag T C p q l o nm rs ws H) (s : ExtN H H') (t : Tabs T H') : Bag T C p q l o nm rs ws H' := by
  refine ⟨b.dl.ext s, t, s _ _ b.hl (fun _ z => nomatch z), rows_ext s b.pw, ?_⟩
  obtain ⟨dx, t, w, e1, e2, e3⟩ := b.kd
  exact ⟨dx, t, w, s _ _ e1 (fun _ z => nomatch z), s _ _ e2 (fun _ z => nomatch z), rows_ext s e3⟩
/-- all but one list is as it was -/
theorem Bag.but1 {T : List (Addr × Str)} {C p q l o h : Addr} {nm : Str} {rs : List (List Pt)} {ws xs : List V} {H H' : Hp} (b : Bag T C p q l o nm rs ws H) (e : H h = some (.lst xs)) (hp : h ≠ p) (hq : h ≠ q) (hl : h ≠ l) (k : ∀ b u, b ≠ h → H b = some u → H' b = some u) : Bag T C p q l o nm rs ws H' := by
  have rw1 : ∀ {ws : List V}, Paired (RowAt H) ws rs → Paired (RowAt H') ws rs := fun pw => paired_mono (fun _ _ ⟨c, e1, ec⟩ => ⟨c, e1, k _ _ (ne_of ec e (fun z => by cases z)) ec⟩) pw
  refine ⟨?_, fun x hx => ?_, k _ _ (Ne.symm hl) b.hl, rw1 b.pw, ?_⟩
  · obtain ⟨ne, ns, b', e1, e2, r⟩ := b.dl
    exact ⟨ne, ns, b', k _ _ (Ne.symm hp) e1, k _ _ (Ne.symm hq) e2, r⟩
  · obtain ⟨ps, h1, h2, h3⟩ := b.tb x hx
    refine ⟨ps, k _ _ (ne_of h1 e (fun z => by cases z)) h1, h2, fun pos cv hc => ?_⟩
    obtain ⟨c, e1, e2⟩ := h3 pos cv hc
    exact ⟨c, e1, k _ _ (ne_of e2 e (fun z => by cases z)) e2⟩
  · obtain ⟨dx, t, w, e1, e2, e3⟩ := b.kd
    exact ⟨dx, t, w, k _ _ (ne_of e1 e (fun z => by cases z)) e1, k _ _ (ne_of e2 e (fun z => by cases z)) e2, rw1 e3⟩
/-- a row handed in, as a list or a tuple -/
def RowSq (H : Hp) (v : V) (r : List Pt) : Prop := OkV H v ∧ seqOf H v = some (r.map ptV)
theorem rowsq_of {H : Hp} {v : V} {r : List Pt} (h : RowAt H v r) : RowSq H v r := by
  obtain ⟨c, rfl, e⟩ := h
  exact ⟨.tup e, seqOf_tup e⟩
theorem RowSq.same {H H' : Hp} {v : V} {r : List Pt} (s : Same H H') (h : RowSq H v r) : RowSq H' v r := ⟨h.1.same s, by rw [h.1.seq_same s]; exact h.2⟩
theorem good_ok {r : List Pt} (g : GoodRow r) : r.length ≤ 100 ∧ ∀ p, p ∈ r → ∀ x, p = .s x → x.length ≤ 1000 := by
  refine ⟨by have := g.1; omega, fun p hp x e => ?_⟩
  have := pt_short p (g.2 p hp)
  rw [e] at this
  have : x.length ≤ 10 := this
  omega
theorem rowsq_ok {H : Hp} {v : V} {r : List Pt} (h : RowSq H v r) (g : GoodRow r) : RowOk H v := by
  obtain ⟨o, e⟩ := h
  obtain ⟨l, f⟩ := good_ok g
  refine ⟨⟨o, fun xs h x hx => ?_⟩, fun ys h => ?_⟩
  · rw [e] at h
    obtain rfl := Option.some.inj h
    obtain ⟨p, hp, rfl⟩ := List.mem_map.mp hx
    cases hp' : p with
    | s y =>
      refine ⟨.str _, fun s es => ?_⟩
      injection es with es
      rw [← es]
      exact f p hp y hp'
    | n k => exact ⟨.int _, fun s es => nomatch es⟩
  · rw [e] at h
    obtain rfl := Option.some.inj h
    rw [List.length_map]
    exact l
theorem rowsq_B {H : Hp} {v : V} {r : List Pt} {m : Int} (h : RowSq H v r) : rowB m H v = rowPB m r := by
  unfold rowB rowPB
  rw [h.2]
theorem kn_name : ∀ n, n ∈ knames → nameOk n = true := by decide +kernel
theorem paired_at {α β : Type} {R : α → β → Prop} {xs : List α} {ys : List β} (pw : Paired R xs ys) {i : Nat} (hi : i < xs.length) : ∃ h : i < ys.length, R xs[i] ys[i] := by
  obtain ⟨y, hy, r⟩ := paired_get pw (List.getElem?_eq_getElem hi)
  obtain ⟨h, rfl⟩ := List.getElem?_eq_some_iff.mp hy
  exact ⟨h, r⟩
theorem paired_tupQ {H1 H2 : Hp} : ∀ {ws ls : List V} {rs : List (List Pt)}, Paired (fun w x => ∃ c, w = V.ref c ∧ H2 c = some (.tup (tupOf H1 x))) ws ls → Paired (RowSq H1) ls rs → Paired (RowAt H2) ws rs
  | _, _, _, .nil, .nil => .nil
  | _, _, _, .cons ⟨c, e, ec⟩ t, .cons q t2 => by
    refine .cons ⟨c, e, ?_⟩ (paired_tupQ t t2)
    rw [ec]
    unfold tupOf
    rw [q.2]
    rfl
/-- a kind of a name and of rows that are right -/
theorem init_good {C CG x dx : Addr} {H : Hp} {nm : Str} {rv : V} {rs : List (List Pt)} {ws : List V} {Q : VK} {E : XK} (hx : H x = some (.ins C dx [])) (ov : OkV H rv) (hl : seqOf H rv = some ws) (pw : Paired (RowSq H) ws rs) (gn : nm ∈ knames) (gr : GoodRows rs) (m1 : 1 ≤ rs.length)
    (ok : ∀ r, r ∈ rs → rowPB rs.length r = true)
    (good : ∀ H', (∀ b u, b ≠ x → H b = some u → H' b = some u) → KindIns H' C x nm rs → Q .non H') : spInit C CG [.ref x, .str nm, rv] H Q E := by
  have lw := paired_len pw
  have hh : headB H (.str nm) rv = true := by
    unfold headB
    rw [hl]
    show (nameOk nm && (decide (1 ≤ ws.length) && decide (ws.length ≤ 6))) = true
    rw [kn_name nm gn, lw]
    have := gr.1
    simp [m1, this]
  have allB : ∀ y, y ∈ ws → rowB ws.length H y = true ∧ RowOk H y := fun y hy => by
    obtain ⟨i, hi, rfl⟩ := List.getElem_of_mem hy
    obtain ⟨hr, q⟩ := paired_at pw hi
    rw [rowsq_B q, lw]
    exact ⟨ok _ (List.getElem_mem hr), rowsq_ok q (gr.2 _ (List.getElem_mem hr))⟩
  have six := gr.1
  refine ⟨x, dx, .str nm, rv, rfl, hx, .str _, (fun z ez => by injection ez with ez; rw [← ez]; have := kn_short nm gn; omega), ov, fun xs h => ?_, fun e => ?_, fun xs i h e fb => ?_, fun xs h e gd H' t us keep ex et pu => ?_⟩
  · rw [hl] at h
    obtain rfl := Option.some.inj h
    exact ⟨by omega, fun y hy => (allB y hy).2⟩
  · rw [hh] at e
    cases e
  · rw [hl] at h
    obtain rfl := Option.some.inj h
    obtain ⟨hi, before, at_i⟩ := fb
    rw [(allB _ (List.getElem_mem hi)).1] at at_i
    cases at_i
  · rw [hl] at h
    obtain rfl := Option.some.inj h
    exact good H' keep ⟨dx, t, us, ex, et, paired_tupQ pu pw⟩
/-- the first wrong row is told -/
theorem init_bad {C CG x dx : Addr} {H : Hp} {nm : Str} {rv : V} {ws : List V} {i : Nat} {Q : VK} {E : XK} (hx : H x = some (.ins C dx [])) (ov : OkV H rv) (hl : seqOf H rv = some ws) (gn : nm ∈ knames) (m1 : 1 ≤ ws.length) (m6 : ws.length ≤ 6) (ok : ∀ y, y ∈ ws → RowOk H y)
    (hi : i < ws.length) (before : ∀ j (h : j < ws.length), j < i → rowB ws.length H ws[j] = true) (at_i : rowB ws.length H ws[i] = false)
    (bad : ∀ H' d, Same H H' → H d = none → H' d = some (.xd [("at", .int (i : Nat))]) → E (.ref CG) (some d) H') : spInit C CG [.ref x, .str nm, rv] H Q E := by
  have hh : headB H (.str nm) rv = true := by
    unfold headB
    rw [hl]
    show (nameOk nm && (decide (1 ≤ ws.length) && decide (ws.length ≤ 6))) = true
    rw [kn_name nm gn]
    simp [m1, m6]
  refine ⟨x, dx, .str nm, rv, rfl, hx, .str _, (fun z ez => by injection ez with ez; rw [← ez]; have := kn_short nm gn; omega), ov, fun xs h => ?_, fun e => ?_, fun xs k h e fb => ?_, fun xs h e gd => ?_⟩
  · rw [hl] at h
    obtain rfl := Option.some.inj h
    exact ⟨by omega, ok⟩
  · rw [hh] at e
    cases e
  · rw [hl] at h
    obtain rfl := Option.some.inj h
    obtain ⟨hk, bk, ak⟩ := fb
    have e : k = i := by
      rcases Nat.lt_trichotomy k i with z | z | z
      · rw [before k hk z] at ak
        cases ak
      · exact z
      · rw [bk i hi z] at at_i
        cases at_i
    rw [e]
    exact bad
  · rw [hl] at h
    obtain rfl := Option.some.inj h
    have := gd _ (List.getElem_mem hi)
    rw [this] at at_i
    cases at_i
/-- a name or rows that no kind has -/
theorem init_head {C CG x dx : Addr} {H : Hp} {nv rv : V} {Q : VK} {E : XK} (hx : H x = some (.ins C dx [])) (on : OkV H nv) (fn : ∀ z, nv = .str z → z.length ≤ 1000) (ov : OkV H rv) (ok : ∀ xs, seqOf H rv = some xs → xs.length ≤ 20 ∧ ∀ y, y ∈ xs → RowOk H y) (hd : headB H nv rv = false)
    (bad : ∀ H' d, Same H H' → H d = none → H' d = some (.xd [("at", .int (-1))]) → E (.ref CG) (some d) H') : spInit C CG [.ref x, nv, rv] H Q E := by
  refine ⟨x, dx, nv, rv, rfl, hx, on, fn, ov, ok, fun _ => bad, fun xs k h e => ?_, fun xs h e => ?_⟩
  · rw [hd] at e
    cases e
  · rw [hd] at e
    cases e
/-- a row handed in: the tuple, or a list of its own -/
def HRow (p q l h : Addr) (H : Hp) (v : V) (r : List Pt) : Prop := (∃ c, v = V.ref c ∧ H c = some (.tup (r.map ptV))) ∨ ∃ c, v = V.ref c ∧ (c ≠ p ∧ c ≠ q ∧ c ≠ l ∧ c ≠ h) ∧ H c = some (.lst (r.map ptV))
theorem HRow.same {p q l h : Addr} {H H' : Hp} {v : V} {r : List Pt} (s : Same H H') (x : HRow p q l h H v r) : HRow p q l h H' v r := x.imp (fun ⟨c, e, ec⟩ => ⟨c, e, s _ _ ec⟩) (fun ⟨c, e, n, ec⟩ => ⟨c, e, n, s _ _ ec⟩)
theorem HRow.but {p q l h : Addr} {H H' : Hp} {v : V} {r : List Pt} (d : Deal H p q) (s : But2 p q H H') (x : HRow p q l h H v r) : HRow p q l h H' v r := x.imp (fun ⟨c, e, ec⟩ => ⟨c, e, d.tup s ec⟩) (fun ⟨c, e, n, ec⟩ => ⟨c, e, n, s _ _ n.1 n.2.1 ec⟩)
theorem HRow.sq {p q l h : Addr} {H : Hp} {v : V} {r : List Pt} (x : HRow p q l h H v r) : RowSq H v r := by
  rcases x with ⟨c, rfl, e⟩ | ⟨c, rfl, _, e⟩
  · exact ⟨.tup e, seqOf_tup e⟩
  · exact ⟨.lst e, seqOf_lst e⟩
/-- a row handed in, whatever has been put behind it -/
def HAny (p q l h : Addr) (H : Hp) (v : V) : Prop := (∃ c ys, v = V.ref c ∧ H c = some (.tup ys)) ∨ ∃ c ys, v = V.ref c ∧ (c ≠ p ∧ c ≠ q ∧ c ≠ l ∧ c ≠ h) ∧ ys.length ≤ 20 ∧ H c = some (.lst ys)
theorem handed_step {p q l h : Addr} {H7 H9 HX : Hp} {hs : List V} {rs : List (List Pt)} {j : Nat} {v : V} (hj : j < rs.length) (nh : H7 h = none) (hp : h ≠ p) (hq : h ≠ q) (lh : l ≠ h) (b9 : But2 p q H7 H9) (dl9 : Deal H9 p q) (at_h9 : H9 h = some (.lst hs)) (ph9 : Paired (HRow p q l h H9) hs (rs.take j)) (sx : Same H9 HX) (hv : HRow p q l h HX v rs[j]) :
    ∃ hs', But2 p q H7 (upd HX h (.lst (hs ++ [v]))) ∧ Deal (upd HX h (.lst (hs ++ [v]))) p q ∧ upd HX h (.lst (hs ++ [v])) h = some (.lst hs') ∧ Paired (HRow p q l h (upd HX h (.lst (hs ++ [v])))) hs' (rs.take (j + 1)) := by
  have at_hX := sx _ _ at_h9
  have up : ∀ {u : V} {r : List Pt}, HRow p q l h HX u r → HRow p q l h (upd HX h (.lst (hs ++ [v]))) u r := fun {u r} z => z.imp (fun ⟨c, e, ec⟩ => ⟨c, e, by rw [upd_ne (ne_of ec at_hX (fun z => by cases z))]; exact ec⟩) (fun ⟨c, e, n, ec⟩ => ⟨c, e, n, by rw [upd_ne n.2.2.2]; exact ec⟩)
  refine ⟨hs ++ [v], fun b o n1 n2 e => ?_, ?_, upd_same, ?_⟩
  · rw [upd_ne (ne_of_none e nh)]
    exact sx _ _ (b9 _ _ n1 n2 e)
  · obtain ⟨pq, ns, b', e1, e2, r'⟩ := dl9.same sx
    exact ⟨pq, ns, b', (upd_ne (Ne.symm hp)).trans e1, (upd_ne (Ne.symm hq)).trans e2, r'⟩
  · rw [List.take_succ_eq_append_getElem hj]
    exact paired_snoc (paired_mono (fun _ _ z => up (z.same sx)) ph9) (up hv)
theorem var_or_tup {K : W.Frag} {i : Nat} {σ : L2.St} {H : Hp} {Q : VK} {b : Bool} {h : Addr} {hs : List V} (hσ : σ[i]? = some (some (.ref h))) (hh : H h = some (.lst hs)) (k : ∀ HX rv, Same H HX → OkV HX rv → seqOf HX rv = some hs → Q rv HX) :
    if b = true then tVar i σ H Q else tCB (fun xs H Q => ∃ p ys, xs = [V.ref p] ∧ ((SqL K H p ys ∧ ∀ (l : Addr), H l = none → Q (.ref l) (upd H l (.tup ys))) ∨ SqT K H p ys ∧ Q (.ref p) H)) (tCons (tVar i) tNil) σ H Q := by
  refine ite2 (fun _ => ?_) (fun _ => ?_)
  · exact ⟨_, hσ, k H (.ref h) (Same.refl _) (.lst hh) (seqOf_lst hh)⟩
  · exact ⟨_, hσ, h, hs, rfl, .inl ⟨SqL.of hh, fun t nt => k _ (.ref t) (same_upd nt) (.tup upd_same) (seqOf_tup upd_same)⟩⟩
/-- a row handed in, whatever has been put behind it -/
def HNow (n : Nat) (p q l h : Addr) (H : Hp) (v : V) : Prop := (∃ c ys, v = V.ref c ∧ H c = some (.tup ys)) ∨ ∃ c ys, v = V.ref c ∧ (c ≠ p ∧ c ≠ q ∧ c ≠ l ∧ c ≠ h) ∧ ys.length ≤ n ∧ H c = some (.lst ys)
theorem HRow.now {p q l h : Addr} {H : Hp} {v : V} {r : List Pt} (g : GoodRow r) (x : HRow p q l h H v r) : HNow 3 p q l h H v := by
  rcases x with ⟨c, e, ec⟩ | ⟨c, e, n, ec⟩
  · exact .inl ⟨c, _, e, ec⟩
  · exact .inr ⟨c, _, e, n, by rw [List.length_map]; exact g.1, ec⟩
theorem HNow.mono {n m p q l h : Nat} {H : Hp} {v : V} (le : n ≤ m) (x : HNow n p q l h H v) : HNow m p q l h H v := x.imp id fun ⟨c, ys, e, k, le', ec⟩ => ⟨c, ys, e, k, Nat.le_trans le' le, ec⟩
theorem HNow.same {n : Nat} {p q l h : Addr} {H H' : Hp} {v : V} (s : Same H H') (x : HNow n p q l h H v) : HNow n p q l h H' v := x.imp (fun ⟨c, ys, e, ec⟩ => ⟨c, ys, e, s _ _ ec⟩) fun ⟨c, ys, e, k, le, ec⟩ => ⟨c, ys, e, k, le, s _ _ ec⟩
/-- one of the lists gets one thing more -/
theorem HNow.put {n : Nat} {p q l h c : Addr} {H : Hp} {v z : V} {ys : List V} (hc : H c = some (.lst ys)) (few : ys.length ≤ n) (x : HNow n p q l h H v) : HNow (n + 1) p q l h (upd H c (.lst (ys ++ [z]))) v := by
  rcases x with ⟨a, zs, e, ea⟩ | ⟨a, zs, e, k, le, ea⟩
  · exact .inl ⟨a, zs, e, by rw [upd_ne (ne_of ea hc (fun z => by cases z))]; exact ea⟩
  · by_cases ac : a = c
    · subst ac
      exact .inr ⟨a, _, e, k, by rw [List.length_append]; show ys.length + 1 ≤ n + 1; omega, upd_same⟩
    · exact .inr ⟨a, zs, e, k, by omega, by rw [upd_ne ac]; exact ea⟩
theorem all_now {p q l h : Addr} {H : Hp} : ∀ {hs : List V} {rs : List (List Pt)}, (∀ r, r ∈ rs → GoodRow r) → Paired (HRow p q l h H) hs rs → ∀ x, x ∈ hs → HNow 3 p q l h H x
  | _, _, _, .nil, x, hx => nomatch hx
  | _, _, g, .cons a t, x, hx => by
    rcases List.mem_cons.mp hx with rfl | z
    · exact a.now (g _ (List.mem_cons_self ..))
    · exact all_now (fun r hr => g r (List.mem_cons_of_mem _ hr)) t x z
end K08

namespace K08
open PySem PySem.Spec PyProof.Rows L2
open Cal EnuT Exn Keys LamX Stc Oeq

/-! ### what the law needs of rows, texts and their data -/
def Fits (b dep : Nat) (d : PyData) : Prop := d.showable = true ∧ d.hasDict = false ∧ d.depth ≤ dep ∧ d.leavesShort 12 = true ∧ d.bulk ≤ b
theorem all_fit {α : Type} (D : α → PyData) (b dep : Nat) : ∀ xs : List α, (∀ x, x ∈ xs → Fits b dep (D x)) → PyData.showableAll (xs.map D) = true ∧ PyData.hasDictAll (xs.map D) = false ∧ PyData.depthAll (xs.map D) ≤ dep ∧ PyData.leavesShortAll 12 (xs.map D) = true ∧ PyData.bulkAll (xs.map D) ≤ xs.length * (b + 1) := by
  intro xs
  induction xs with
  | nil => exact fun _ => ⟨by simp [PyData.showableAll], by simp [PyData.hasDictAll], by simp [PyData.depthAll], by simp [PyData.leavesShortAll], by simp [PyData.bulkAll]⟩
  | cons d ds ih =>
    intro g
    obtain ⟨i1, i2, i3, i4, i5⟩ := ih fun e he => g e (List.mem_cons_of_mem _ he)
    obtain ⟨f1, f2, f3, f4, f5⟩ := g d (List.mem_cons_self ..)
    refine ⟨?_, ?_, ?_, ?_, ?_⟩
    · rw [List.map_cons, PyData.showableAll, f1, i1]; rfl
    · rw [List.map_cons, PyData.hasDictAll, f2, i2]; rfl
    · rw [List.map_cons, PyData.depthAll]; omega
    · rw [List.map_cons, PyData.leavesShortAll, f4, i4]; rfl
    · rw [List.map_cons, PyData.bulkAll, List.length_cons, Nat.add_mul]; omega
def fitsB (d : PyData) : Bool := d.showable && !d.hasDict && decide (d.depth ≤ 1) && d.leavesShort 12 && decide (d.bulk ≤ 10)
theorem pt_fits : ∀ p, p ∈ pts → Fits 10 1 (ptD p) := by
  have h : pts.all (fun p => fitsB (ptD p)) = true := by decide +kernel
  intro p hp
  have f := List.all_eq_true.mp h p hp
  unfold fitsB at f
  simp only [Bool.and_eq_true, decide_eq_true_eq, Bool.not_eq_true'] at f
  obtain ⟨⟨⟨⟨f1, f2⟩, f3⟩, f4⟩, f5⟩ := f
  exact ⟨f1, f2, f3, f4, f5⟩
theorem row_fits {r : List Pt} (g : GoodRow r) : Fits 33 2 (rowD r) := by
  obtain ⟨k1, k2, k3, k4, k5⟩ := all_fit ptD 10 1 r (fun p hp => pt_fits p (g.2 p hp))
  have := g.1
  refine ⟨?_, ?_, ?_, ?_, ?_⟩
  · simpa only [rowD, PyData.showable] using k1
  · simpa only [rowD, PyData.hasDict] using k2
  · simp only [rowD, PyData.depth]
    omega
  · simpa only [rowD, PyData.leavesShort] using k4
  · simp only [rowD, PyData.bulk]
    omega
theorem rows_fit {rs : List (List Pt)} (g : GoodRows rs) : (rowsD rs).showable = true ∧ (rowsD rs).hasDict = false ∧ (rowsD rs).depth ≤ 20 ∧ (rowsD rs).shown.length ≤ sizeLine := by
  obtain ⟨k1, k2, k3, k4, k5⟩ := all_fit rowD 33 2 rs (fun r hr => row_fits (g.2 r hr))
  have := g.1
  refine ⟨?_, ?_, ?_, ?_⟩
  · simpa only [rowsD, PyData.showable] using k1
  · simpa only [rowsD, PyData.hasDict] using k2
  · simp only [rowsD, PyData.depth]
    omega
  · have s := PyData.shown_le_bulk 12 (by decide) (rowsD rs) (by simpa only [rowsD, PyData.leavesShort] using k4)
    have e : (rowsD rs).bulk ≤ 300 := by
      simp only [rowsD, PyData.bulk]
      omega
    have : (10000 : Nat) ≤ sizeLine := by decide
    have : (12 + 2) * (rowsD rs).bulk ≤ (12 + 2) * 300 := Nat.mul_le_mul_left _ e
    omega
/-- rows as a list -/
def rowsL (rs : List (List Pt)) : PyData := .list (rs.map rowD)
theorem eqv_rowsL (r t : List (List Pt)) : PyData.eqv (rowsL r) (rowsL t) = decide (r = t) := by
  simp only [rowsL, PyData.eqv, eqv_all]
theorem shaped_rowsL {rs : List (List Pt)} (g : GoodRows rs) : SeqAt.shaped (rowsL rs) = true := by
  obtain ⟨h1, h2⟩ := lay_all g.2
  simp only [SeqAt.shaped, rowsL, PyData.canLay0, PyData.depth, h1, Bool.true_and, decide_eq_true_eq]
  omega
theorem dp_rowsL {K : W.Frag} {H : Hp} {t : Addr} {ws : List V} {rs : List (List Pt)} (ht : H t = some (.lst ws)) (pw : Paired (RowAt H) ws rs) : Dp K H (.ref t) (rowsL rs) := .lst (SqL.of ht) (dps_rows pw)

/-! ### the text read back -/
theorem kn_line : ∀ n, n ∈ knames → ¬ 10 ∈ ("kind " ++ n : Str).cps.toList ∧ cutS ("kind " ++ n) (some 5) none = n ∧ (Txt.split ("kind " ++ n) " ").length ≤ 50 := by decide +kernel
theorem lines_text {nm : Str} {rs : List (List Pt)} (gn : nm ∈ knames) (fl : ∀ r, r ∈ rs → ¬ 10 ∈ (rowT r).cps.toList) : linesOf (textOf nm rs) = ("kind " ++ nm) :: rs.map rowT := by
  refine Tx.split_join (c := 10) (List.cons_ne_nil _ _) fun p hp => ?_
  rcases List.mem_cons.mp hp with rfl | z
  · exact (kn_line nm gn).1
  · obtain ⟨r, hr, rfl⟩ := List.mem_map.mp z
    exact fl r hr
theorem text_kind (nm : Str) (rs : List (List Pt)) : ∃ z, textOf nm rs = "kind " ++ z := by
  have e : textOf nm rs = Str.join "\n" (("kind " ++ nm) :: rs.map rowT) := StrLaws.glued_eq_join _ _
  rw [e]
  cases rs with
  | nil => exact ⟨nm, rfl⟩
  | cons r rs =>
    refine ⟨nm ++ "\n" ++ Str.join "\n" ((r :: rs).map rowT), ?_⟩
    show "kind " ++ nm ++ "\n" ++ Str.join "\n" ((r :: rs).map rowT) = _
    simp only [Str.append_assoc]
theorem starts_kind (z : Str) : Txt.startswith ("kind " ++ z) "kind " = true := by
  rw [PySem.W.KAf.starts_left (by decide)]
  decide +kernel
structure TextOk (nm : Str) (rs : List (List Pt)) : Prop where
  read : readB (.str (textOf nm rs)) = true
  name : nmOf (textOf nm rs) = nm
  rows : rowsOf (textOf nm rs) = rs
  lines : linesOf (textOf nm rs) = ("kind " ++ nm) :: rs.map rowT
  short : ShortT (textOf nm rs)
  len : (textOf nm rs).length ≤ 300
theorem text_ok {nm : Str} {rs : List (List Pt)} {m : Nat} (gn : nm ∈ knames) (gr : GoodRows rs) (fine : ∀ r, r ∈ rs → Fine m r) : TextOk nm rs := by
  have lt := lines_text gn (fun r hr => (fine r hr).line)
  obtain ⟨z, ez⟩ := text_kind nm rs
  have six := gr.1
  have len : (textOf nm rs).length ≤ 300 := by
    have h := join_len "\n" (("kind " ++ nm) :: rs.map rowT)
    have := sum_le ((rs.map rowT).map fun x => x.length) 40 (fun x hx => by
      obtain ⟨y, hy, rfl⟩ := List.mem_map.mp hx
      obtain ⟨p, hp, rfl⟩ := List.mem_map.mp hy
      exact row_short (gr.2 p hp))
    have e : ("\n" : Str).length = 1 := rfl
    have e5 : ("kind " ++ nm : Str).length = 5 + nm.length := by
      rw [Tx.len_L, Tx.L_append, List.length_append, Tx.len_L nm]
      rfl
    have ln := kn_short nm gn
    rw [e] at h
    simp only [List.map_cons, List.sum_cons, List.length_cons, List.length_map] at this h
    show (Txt.join "\n" (("kind " ++ nm) :: rs.map rowT)).length ≤ 300
    omega
  refine ⟨?_, ?_, ?_, lt, ⟨by omega, ?_, fun r hr => ?_⟩, len⟩
  · show Txt.startswith (textOf nm rs) "kind " = true
    rw [ez]
    exact starts_kind z
  · unfold nmOf
    rw [lt]
    exact (kn_line nm gn).2.1
  · unfold rowsOf
    rw [lt]
    show (rs.map rowT).map rowP = rs
    rw [List.map_map]
    conv => rhs; rw [← List.map_id rs]
    exact List.map_congr_left fun r hr => (fine r hr).back
  · rw [lt, List.length_cons, List.length_map]
    omega
  · rw [lt] at hr
    rcases List.mem_cons.mp hr with rfl | y
    · exact (kn_line nm gn).2.2
    · obtain ⟨t, ht, rfl⟩ := List.mem_map.mp y
      exact (fine t ht).few
theorem cut_takeV (xs : List V) (k : Nat) (h : k ≤ xs.length) : cutV xs none (some ((k : Nat) : Int)) = xs.take k := by
  unfold cutV HT.sIx
  dsimp only
  rw [if_neg (by omega), Int.toNat_natCast, Nat.min_eq_left h]
  simp
theorem cut_dropV (xs : List V) (k : Nat) (h : k ≤ xs.length) : cutV xs (some ((k : Nat) : Int)) none = xs.drop k := by
  unfold cutV HT.sIx
  dsimp only
  rw [if_neg (by omega), Int.toNat_natCast, Nat.min_eq_left h, List.take_of_length_le]
  simp
/-- a list with one thing put in the place of another -/
def putAt (ws : List V) (j : Nat) (x : V) : List V := ws.take j ++ [x] ++ ws.drop (j + 1)
theorem put_len {ws : List V} {j : Nat} {x : V} (hj : j < ws.length) : (putAt ws j x).length = ws.length := by
  unfold putAt
  simp only [List.length_append, List.length_take, List.length_drop, List.length_singleton]
  omega
theorem put_at {ws : List V} {j : Nat} {x : V} (hj : j < ws.length) (h : j < (putAt ws j x).length) : (putAt ws j x)[j] = x := by
  unfold putAt
  simp only [List.append_assoc, List.getElem_append, List.length_take, List.length_singleton]
  rw [dif_neg (by omega), dif_pos (by omega)]
  simp
theorem put_before {ws : List V} {i j : Nat} {x : V} (hj : j < ws.length) (hi : i < j) (h : i < (putAt ws j x).length) : (putAt ws j x)[i] = ws[i] := by
  unfold putAt
  simp only [List.append_assoc, List.getElem_append, List.length_take, List.getElem_take]
  rw [dif_pos (by omega)]
theorem put_mem {ws : List V} {j : Nat} {x y : V} (h : y ∈ putAt ws j x) : y = x ∨ y ∈ ws := by
  unfold putAt at h
  simp only [List.mem_append, List.mem_singleton] at h
  rcases h with (z | z) | z
  · exact .inr (List.mem_of_mem_take z)
  · exact .inl z
  · exact .inr (List.mem_of_mem_drop z)
theorem OkV.ext {H H' : Hp} (s : ExtN H H') {v : V} (o : OkV H v) : OkV H' v := by
  cases o with
  | non => exact .non
  | bl b => exact .bl b
  | int i => exact .int i
  | str x => exact .str x
  | lst h => exact .lst (s _ _ h (fun _ z => nomatch z))
  | tup h => exact .tup (s _ _ h (fun _ z => nomatch z))
theorem seq_ext {H H' : Hp} (s : ExtN H H') {v : V} (o : OkV H v) : seqOf H' v = seqOf H v := by
  cases o with
  | non => rfl
  | bl b => rfl
  | int i => rfl
  | str x => rfl
  | lst h => rw [seqOf_lst h, seqOf_lst (s _ _ h (fun _ z => nomatch z))]
  | tup h => rw [seqOf_tup h, seqOf_tup (s _ _ h (fun _ z => nomatch z))]
theorem Bent.ext {m : Nat} {H H' : Hp} {x : V} (s : ExtN H H') (b : Bent m H x) : Bent m H' x := by
  obtain ⟨⟨⟨o, items⟩, few⟩, r⟩ := b
  have e := seq_ext s o
  refine ⟨⟨⟨o.ext s, fun xs h y hy => ?_⟩, fun ys h => few ys (by rw [← e]; exact h)⟩, ?_⟩
  · rw [e] at h
    exact ⟨(items xs h y hy).1.ext s, (items xs h y hy).2⟩
  · unfold rowB at r ⊢
    rw [e]
    exact r
theorem rows_good {H : Hp} {ws : List V} {rs : List (List Pt)} {m : Nat} (pw : Paired (RowAt H) ws rs) (fine : ∀ r, r ∈ rs → Fine m r) : ∀ y, y ∈ ws → RowOk H y ∧ rowB (m : Nat) H y = true := fun y hy => by
  obtain ⟨i, hi, rfl⟩ := List.getElem_of_mem hy
  obtain ⟨hr, q⟩ := paired_at pw hi
  have f := fine _ (List.getElem_mem hr)
  have z := rowsq_of q
  exact ⟨rowsq_ok z f.good, by rw [rowsq_B z]; exact f.isrow⟩
def resD (s : Str) (i : Int) : PyData := .tuple [.str s, .int i]
theorem res_dp {K : W.Frag} {H : Hp} {p : Addr} {s : Str} {i : Int} (e : H p = some (.tup [.str s, .int i])) : Dp K H (.ref p) (resD s i) := .tup (SqT.of e) (.cons (.str _) (.cons (.int _) .nil))
theorem res_shaped (s : Str) (i : Int) (h : PyData.strOk s = true) : SeqAt.shaped (resD s i) = true := by
  simp [h, resD, SeqAt.shaped, PyData.canLay0, PyData.canLayAll0, PyData.depth, PyData.depthAll]
theorem res_eqv (s : Str) (i : Int) : PyData.eqv (resD s i) (resD s i) = true := by
  simp [resD, PyData.eqv, PyData.eqvAll]
/-- what no kind has as its rows -/
def NoRows (H : Hp) (z : V) : Prop := OkV H z ∧ (∀ xs, seqOf H z = some xs → xs.length ≤ 20 ∧ ∀ y, y ∈ xs → RowOk H y) ∧ ∀ nv, headB H nv z = false
theorem norows {H : Hp} {e1 e2 e3 e5 : Addr} {z : V} (a1 : H e1 = some (.lst [])) (a2 : H e2 = some (.tup [])) (a3 : H e3 = some (.tup [.str "rest"])) (a5 : H e5 = some (.lst (List.replicate 7 (V.ref e3)))) (hz : z ∈ ([.ref e1, .ref e2, .non, .str "rest", .int 7, .ref e5] : List V)) : NoRows H z := by
  have flat : ∀ z, flatOk z = true → NoRows H z := fun z h => ⟨(flat_okv h).1, fun xs e => (by rw [flat_seq h] at e; cases e), fun nv => by unfold headB; rw [flat_seq h]; simp⟩
  simp only [List.mem_cons, List.not_mem_nil, or_false] at hz
  rcases hz with rfl | rfl | rfl | rfl | rfl | rfl
  · refine ⟨.lst a1, fun xs e => ?_, fun nv => ?_⟩
    · rw [seqOf_lst a1] at e
      obtain rfl := Option.some.inj e
      exact ⟨Nat.zero_le _, fun y hy => nomatch hy⟩
    · unfold headB
      rw [seqOf_lst a1]
      simp
  · refine ⟨.tup a2, fun xs e => ?_, fun nv => ?_⟩
    · rw [seqOf_tup a2] at e
      obtain rfl := Option.some.inj e
      exact ⟨Nat.zero_le _, fun y hy => nomatch hy⟩
    · unfold headB
      rw [seqOf_tup a2]
      simp
  · exact flat _ rfl
  · exact flat _ (by decide +kernel)
  · exact flat _ rfl
  · refine ⟨.lst a5, fun xs e => ?_, fun nv => ?_⟩
    · rw [seqOf_lst a5] at e
      obtain rfl := Option.some.inj e
      refine ⟨by simp, fun y hy => ?_⟩
      obtain rfl := (List.mem_replicate.mp hy).2
      exact rowok_of (r := [K08.Pt.s "rest"]) a3 (by show 1 ≤ 100; decide) (fun p hp x e => by
        obtain rfl := List.mem_singleton.mp hp
        injection e with e
        rw [← e]
        decide +kernel)
    · unfold headB
      rw [seqOf_lst a5]
      simp
def NRaw (e1 e2 e3 e5 : Addr) (H : Hp) : Prop := H e1 = some (.lst []) ∧ H e2 = some (.tup []) ∧ H e3 = some (.tup [.str "rest"]) ∧ H e5 = some (.lst (List.replicate 7 (V.ref e3)))
theorem NRaw.same {e1 e2 e3 e5 : Addr} {H H' : Hp} (s : Same H H') (n : NRaw e1 e2 e3 e5 H) : NRaw e1 e2 e3 e5 H' := ⟨s _ _ n.1, s _ _ n.2.1, s _ _ n.2.2.1, s _ _ n.2.2.2⟩
theorem NRaw.ext {e1 e2 e3 e5 : Addr} {H H' : Hp} (s : ExtN H H') (n : NRaw e1 e2 e3 e5 H) : NRaw e1 e2 e3 e5 H' := ⟨s _ _ n.1 (fun _ z => nomatch z), s _ _ n.2.1 (fun _ z => nomatch z), s _ _ n.2.2.1 (fun _ z => nomatch z), s _ _ n.2.2.2 (fun _ z => nomatch z)⟩
theorem NRaw.but {e1 e2 e3 e5 p q : Addr} {H H' : Hp} (d : Deal H p q) (s : But2 p q H H') (h1 : e1 ≠ p ∧ e1 ≠ q) (h5 : e5 ≠ p ∧ e5 ≠ q) (n : NRaw e1 e2 e3 e5 H) : NRaw e1 e2 e3 e5 H' := ⟨s _ _ h1.1 h1.2 n.1, d.tup s n.2.1, d.tup s n.2.2.1, s _ _ h5.1 h5.2 n.2.2.2⟩
/-- what can be handed in as rows, right or wrong -/
def RowsV (H : Hp) (v : V) : Prop := OkV H v ∧ ∀ xs, seqOf H v = some xs → xs.length ≤ 20 ∧ ∀ y, y ∈ xs → RowOk H y
theorem rowsv_of {H : Hp} {l wr e1 e2 e3 e5 : Addr} {ws : List V} {rs : List (List Pt)} {m j : Nat} {x z v : V} (hl : H l = some (.lst ws)) (pw : Paired (RowAt H) ws rs) (fine : ∀ r, r ∈ rs → Fine m r) (six : ws.length ≤ 6) (hw : H wr = some (.lst (putAt ws j x))) (hj : j < ws.length) (bx : Bent m H x) (n : NRaw e1 e2 e3 e5 H) (hz : z ∈ ([.ref e1, .ref e2, .non, .str "rest", .int 7, .ref e5] : List V)) (hv : v ∈ ([.ref l, .ref wr, z] : List V)) : RowsV H v := by
  simp only [List.mem_cons, List.not_mem_nil, or_false] at hv
  have g := rows_good pw fine
  rcases hv with rfl | rfl | rfl
  · refine ⟨.lst hl, fun xs e => ?_⟩
    rw [seqOf_lst hl] at e
    obtain rfl := Option.some.inj e
    exact ⟨by omega, fun y hy => (g y hy).1⟩
  · refine ⟨.lst hw, fun xs e => ?_⟩
    rw [seqOf_lst hw] at e
    obtain rfl := Option.some.inj e
    refine ⟨by rw [put_len hj]; omega, fun y hy => ?_⟩
    rcases put_mem hy with rfl | z
    · exact bx.1
    · exact (g y z).1
  · obtain ⟨o, h, _⟩ := norows n.1 n.2.1 n.2.2.1 n.2.2.2 hz
    exact ⟨o, h⟩
/-- what is no name -/
def NoName (H : Hp) (v : V) : Prop := OkV H v ∧ (∀ z, v = .str z → z.length ≤ 1000) ∧ nmB v = false
theorem noname {H : Hp} {t : Addr} {v : V} (a : H t = some (.lst [.str "k"])) (hv : v ∈ ([.str "", .str "out", .str "Ab", .str "a b", .str "abcdefghi", .non, .int 5, .ref t, .str "k1", .str "k_"] : List V)) : NoName H v := by
  have st : ∀ s : Str, s ∈ (["", "out", "Ab", "a b", "abcdefghi", "k1", "k_"] : List Str) → NoName H (.str s) := fun s hs => by
    have z : ∀ s : Str, s ∈ (["", "out", "Ab", "a b", "abcdefghi", "k1", "k_"] : List Str) → s.length ≤ 1000 ∧ nameOk s = false := by decide +kernel
    exact ⟨.str _, fun y e => by injection e with e; rw [← e]; exact (z s hs).1, (z s hs).2⟩
  simp only [List.mem_cons, List.not_mem_nil, or_false] at hv
  rcases hv with rfl | rfl | rfl | rfl | rfl | rfl | rfl | rfl | rfl | rfl
  · exact st _ (by decide +kernel)
  · exact st _ (by decide +kernel)
  · exact st _ (by decide +kernel)
  · exact st _ (by decide +kernel)
  · exact st _ (by decide +kernel)
  · exact ⟨.non, fun z e => (nomatch e), rfl⟩
  · exact ⟨.int 5, fun z e => (nomatch e), rfl⟩
  · exact ⟨.lst a, fun z e => (nomatch e), rfl⟩
  · exact st _ (by decide +kernel)
  · exact st _ (by decide +kernel)
/-- what is no text of a kind -/
def NoText (H : Hp) (v : V) : Prop := OkV H v ∧ readB v = false ∧ ∀ s, v = .str s → ShortT s
instance (s : Str) : Decidable (ShortT s) := by unfold ShortT; infer_instance
theorem notext {H : Hp} {t : Addr} {v : V} (a : H t = some (.lst [.str "kind k"])) (hv : v ∈ ([.non, .int 5, .str "", .str "kind", .str "Kind k", .str " kind k", .str "kin k\nrest", .ref t, .str "k\nrest", .str "\nkind k"] : List V)) : NoText H v := by
  have st : ∀ s : Str, s ∈ (["", "kind", "Kind k", " kind k", "kin k\nrest", "k\nrest", "\nkind k"] : List Str) → NoText H (.str s) := fun s hs => by
    have z : ∀ s : Str, s ∈ (["", "kind", "Kind k", " kind k", "kin k\nrest", "k\nrest", "\nkind k"] : List Str) → readB (.str s) = false ∧ ShortT s := by decide +kernel
    exact ⟨.str _, (z s hs).1, fun y e => by injection e with e; rw [← e]; exact (z s hs).2⟩
  simp only [List.mem_cons, List.not_mem_nil, or_false] at hv
  rcases hv with rfl | rfl | rfl | rfl | rfl | rfl | rfl | rfl | rfl | rfl
  · exact ⟨.non, rfl, fun z e => (nomatch e)⟩
  · exact ⟨.int 5, rfl, fun z e => (nomatch e)⟩
  · exact st _ (by decide +kernel)
  · exact st _ (by decide +kernel)
  · exact st _ (by decide +kernel)
  · exact st _ (by decide +kernel)
  · exact st _ (by decide +kernel)
  · exact ⟨.lst a, rfl, fun z e => (nomatch e)⟩
  · exact st _ (by decide +kernel)
  · exact st _ (by decide +kernel)
/-! ### texts with one line spoilt -/
def badLines : List Str := ["", "go", "go d d", "goes d", "d go", "set c 3", "set c 07", "again 9", "when 1", "see 1", "REST", "rest 0"]
theorem bad_line : ∀ s, s ∈ badLines → (¬ 10 ∈ s.cps.toList) ∧ (Txt.split s " ").length ≤ 50 ∧ s.length ≤ 40 ∧ ∀ m, m ∈ List.range 7 → rowPB (m : Nat) (rowP s) = false := by decide +kernel
/-- lines with the j-th row's another -/
def putLine (nm : Str) (rs : List (List Pt)) (j : Nat) (s : Str) : List Str := ("kind " ++ nm) :: (rs.map rowT).set j s
structure LineOk (nm : Str) (rs : List (List Pt)) (j : Nat) (s : Str) : Prop where
  read : readB (.str (Txt.join "\n" (putLine nm rs j s))) = true
  name : nmOf (Txt.join "\n" (putLine nm rs j s)) = nm
  rows : rowsOf (Txt.join "\n" (putLine nm rs j s)) = ((rs.map rowT).set j s).map rowP
  short : ShortT (Txt.join "\n" (putLine nm rs j s))
  sum : ((putLine nm rs j s).map fun x => x.length).sum + (putLine nm rs j s).length * ("\n" : Str).length ≤ 16777216
theorem kind_join (nm : Str) (xs : List Str) : ∃ z, Txt.join "\n" (("kind " ++ nm) :: xs) = "kind " ++ z := by
  have e : Txt.join "\n" (("kind " ++ nm) :: xs) = Str.join "\n" (("kind " ++ nm) :: xs) := StrLaws.glued_eq_join _ _
  rw [e]
  cases xs with
  | nil => exact ⟨nm, rfl⟩
  | cons r rs =>
    refine ⟨nm ++ "\n" ++ Str.join "\n" (r :: rs), ?_⟩
    show "kind " ++ nm ++ "\n" ++ Str.join "\n" (r :: rs) = _
    simp only [Str.append_assoc]
theorem line_ok {nm s : Str} {rs : List (List Pt)} {m j : Nat} (gn : nm ∈ knames) (gr : GoodRows rs) (fine : ∀ r, r ∈ rs → Fine m r) (hs : s ∈ badLines) : LineOk nm rs j s := by
  obtain ⟨b1, b2, b3, _⟩ := bad_line s hs
  have six := gr.1
  have each : ∀ x, x ∈ (rs.map rowT).set j s → (¬ 10 ∈ x.cps.toList) ∧ (Txt.split x " ").length ≤ 50 ∧ x.length ≤ 40 := fun x hx => by
    rcases List.mem_or_eq_of_mem_set hx with z | rfl
    · obtain ⟨r, hr, rfl⟩ := List.mem_map.mp z
      exact ⟨(fine r hr).line, (fine r hr).few, row_short (gr.2 r hr)⟩
    · exact ⟨b1, b2, b3⟩
  have lt : linesOf (Txt.join "\n" (putLine nm rs j s)) = putLine nm rs j s := by
    refine Tx.split_join (c := 10) (List.cons_ne_nil _ _) fun p hp => ?_
    rcases List.mem_cons.mp hp with rfl | z
    · exact (kn_line nm gn).1
    · exact (each p z).1
  obtain ⟨z, ez⟩ := kind_join nm ((rs.map rowT).set j s)
  have len2 : (putLine nm rs j s).length = rs.length + 1 := by
    unfold putLine
    rw [List.length_cons, List.length_set, List.length_map]
  have e : ("\n" : Str).length = 1 := rfl
  have sums : ((putLine nm rs j s).map fun x => x.length).sum + (putLine nm rs j s).length * ("\n" : Str).length ≤ 300 := by
    have := sum_le ((putLine nm rs j s).map fun x => x.length) 40 (fun x hx => by
      obtain ⟨y, hy, rfl⟩ := List.mem_map.mp hx
      rcases List.mem_cons.mp hy with rfl | z
      · have e5 : ("kind " ++ nm : Str).length = 5 + nm.length := by
          rw [Tx.len_L, Tx.L_append, List.length_append, Tx.len_L nm]
          rfl
        have := kn_short nm gn
        omega
      · exact (each y z).2.2)
    rw [List.length_map] at this
    rw [e]
    omega
  have len := join_len "\n" (putLine nm rs j s)
  refine ⟨?_, ?_, ?_, ⟨by omega, ?_, fun r hr => ?_⟩, by omega⟩
  · show Txt.startswith (Txt.join "\n" (putLine nm rs j s)) "kind " = true
    unfold putLine
    rw [ez]
    exact starts_kind z
  · unfold nmOf
    rw [lt]
    exact (kn_line nm gn).2.1
  · unfold rowsOf
    rw [lt]
    rfl
  · rw [lt]
    omega
  · rw [lt] at hr
    rcases List.mem_cons.mp hr with rfl | y
    · exact (kn_line nm gn).2.2
    · exact (each r y).2.1
theorem line_bad {s : Str} {rs : List (List Pt)} {m j : Nat} (m6 : m ≤ 6) (lr : rs.length = m) (hj : j < m) (fine : ∀ r, r ∈ rs → Fine m r) (hs : s ∈ badLines) : firstBad (((rs.map rowT).set j s).map rowP) j := by
  obtain ⟨_, _, _, b4⟩ := bad_line s hs
  have len : (((rs.map rowT).set j s).map rowP).length = m := by
    rw [List.length_map, List.length_set, List.length_map, lr]
  refine ⟨by omega, fun i hi hij => ?_, fun hi => ?_⟩
  · have e : (((rs.map rowT).set j s).map rowP)[i] = rs[i]'(by omega) := by
      rw [List.getElem_map, List.getElem_set, if_neg (by omega), List.getElem_map]
      exact (fine _ (List.getElem_mem _)).back
    rw [e, len]
    exact (fine _ (List.getElem_mem _)).isrow
  · have e : (((rs.map rowT).set j s).map rowP)[j] = rowP s := by
      rw [List.getElem_map, List.getElem_set, if_pos rfl]
    rw [e, len]
    exact b4 m (List.mem_range.mpr (by omega))
theorem head_bad : ∀ s, s ∈ (["kind K\nrest", "kind k"] : List Str) → readB (.str s) = true ∧ ShortT s ∧ hdOk (nmOf s) (rowsOf s) = false := by decide +kernel
theorem firstBad_uniq {xs : List (List K08.Pt)} {i j : Nat} (a : firstBad xs i) (b : firstBad xs j) : i = j := by
  obtain ⟨a1, a2, a3⟩ := a
  obtain ⟨b1, b2, b3⟩ := b
  rcases Nat.lt_trichotomy i j with h | h | h
  · have := b2 i a1 h
    rw [a3 a1] at this
    cases this
  · exact h
  · have := a2 j b1 h
    rw [b3 b1] at this
    cases this
theorem set_line (nm s : Str) (rs : List (List K08.Pt)) (j : Nat) : (((("kind " ++ nm) :: rs.map rowT) : List Str).map V.str).set (j + 1) (.str s) = (putLine nm rs j s).map V.str := by
  unfold putLine
  rw [List.map_cons, List.set_cons_succ, List.map_cons, List.map_set]
theorem hd_ok {nm : Str} {rs : List (List K08.Pt)} (gn : nm ∈ knames) (h1 : 1 ≤ rs.length) (h6 : rs.length ≤ 6) : hdOk nm rs = true := by
  unfold hdOk
  rw [kn_name nm gn]
  simp [h1, h6]
theorem cut_sub (k : Int) : ∀ x, x ∈ cutV [V.str ""] none (some k) → x = .str "" := fun x hx => by
  unfold cutV at hx
  have := List.mem_of_mem_drop (List.mem_of_mem_take hx)
  exact List.mem_singleton.mp this
end K08

namespace K08
open PySem PySem.Spec PyProof.Rows L2
open Cal EnuT Exn Keys LamX Stc Oeq

section
variable {P : Program} {w : World} {K : W.Frag} {mg : Str → Option Value} {base : Heap}
theorem law_ok {f c Pt C CG CT CL a : Addr} {fd : FuncData} {T : List (Addr × Str)} {s : Shared} {H : Hp} {ns : List Int} (F : Fun K "law" "law" sLaw f fd) (hc : fd.code = .ref c) (TB : TabB base mg c Pt) (hmT : (Pt, qL) ∈ T) (hu : ∀ p ∈ T, p.1 = Pt → p.2 = qL) (B : Bl mg)
    (D : Defs P w K mg base C CG CT CL T) (e0 : Env0 P w K mg base callerA [] s H) (bind : Binds K fd ["script"] []) (tb : Tabs T H) (sq : SqL K H a (ns.map V.int)) (few : ns.length ≤ 63) :
    codeAny (model P w) callerA (.call (.ref f) ⟨[.ref a], []⟩) (CR CX0 [] P w H s (fun v _ => v = .bl true) E0) s := by
  refine law_runC (vs := [V.ref a]) F hc scL e0 bind (.cons (show RelV (V.ref a) (Value.ref a) from rfl) .nil) rfl ?_
  have hr12 : Room 12 callerA := ⟨rfl, by decide, by decide⟩
  have hr11 : Room 11 (callerA.deeper (envOfC "law" (defScope sLaw) s.heap.objs.size f (.ref c))) := hr12.deeper _
  have hr10 := hr11.mono (show 10 ≤ 11 by decide)
  have hr9 := hr11.mono (show 10 ≤ 11 by decide)
  have hr8 := hr11.mono (show 8 ≤ 11 by decide)
  have hr7 := hr11.mono (show 7 ≤ 11 by decide)
  have hr3 := hr11.mono (show 3 ≤ 11 by decide)
  have hr2 := hr11.mono (show 2 ≤ 11 by decide)
  have hr1 := hr11.mono (show 1 ≤ 11 by decide)
  have un := hr11.units
  obtain ⟨fI, fdI, mk, bI, FI⟩ := D.kc.init
  obtain ⟨fI2, fdI2, mk2, bI2, FI2⟩ := D.initK
  obtain ⟨mc, r, g, fdr, rd, sm, br, FR⟩ := D.kc.read
  obtain ⟨mc2, r2, g2, fdr2, rd2, sm2, br2, FR2⟩ := D.readK
  obtain ⟨fT, fdT, mT, bT, FT⟩ := D.text
  obtain ⟨fE, fdE, iE, nE, bE, FE⟩ := D.eq
  have opE : OpR (cxOf CX0 P w K mg base NLw "law" (defScope sLaw) f (.ref c) callerA [] s H E0).nox (compareOp .Eq) (rEqO K C (spEq K C)) := op_eqO FE iE nE bE hr1
  have opN : OpR (cxOf CX0 P w K mg base NLw "law" (defScope sLaw) f (.ref c) callerA [] s H E0).nox (compareOp .NotEq) (rNeO K C (spEq K C)) := op_neO FE D.ne D.ob iE nE bE hr2
  refine ⟨_, pss_cons (ps_set (i := 1) scL.nd rfl (Or.inr rfl) (pe_callee D.dealt hr1 rfl (pa_cons (pv 0) (pa_cons pe_int pa_nil))))
      (pss_cons (ps_for PassesOwn.never rfl (pi_range1 rfl B.range (pa_cons pe_int pa_nil)) (pg_name (i := 2) scL.nd rfl (Or.inl rfl))
      (pss_cons (ps_set (i := 3) scL.nd rfl (Or.inl rfl) (pe_op op_add pe_int (pe_callee D.any hr1 rfl (pa_cons (pv 1) (pa_cons pe_int pa_nil)))))
      (pss_cons (ps_set (i := 4) scL.nd rfl (Or.inr rfl) (pe_callee D.of hr2 rfl (pa_cons (pv 1) (pa_cons (pe_lst (pa_cons pe_str (pa_cons pe_str (pa_cons pe_str pa_nil)))) pa_nil))))
      (pss_cons (ps_set (i := 5) scL.nd rfl (Or.inl rfl) (pe_callee D.program hr3 rfl (pa_cons (pv 1) (pa_cons (pe_lst (pa_cons pe_str (pa_cons pe_str pa_nil))) (pa_cons (pe_lst (pa_cons pe_str (pa_cons pe_str pa_nil))) (pa_cons (pv 3) pa_nil))))))
      (pss_cons (ps_setLc (i := 7) (own := [("row", 6)]) (g := gName 6) (tt := tYes) (by rfl) scL.nd rfl rfl (sw_true rfl rfl rfl (by decide +kernel)) (pi_list (pv 5))
          (blkOk_by (own := [("row", 6)]) (N := NLw) (sc := defScope sLaw) (by decide +kernel))
          (fun _ _ _ _ _ => pg_name (i := 6) scL.nd rfl (Or.inl rfl)) (fun _ _ _ _ _ => pts_nil)
          (fun _ _ _ _ _ => pe_ifExp (pt_cmpR op_eq (pe_callee D.any hr1 rfl (pa_cons (pv 1) (pa_cons pe_int pa_nil))) pe_int (nomark _)) (show PE _ _ (tCB (fun xs H Q => ∃ p ys, xs = [V.ref p] ∧ (SqL K H p ys ∨ SqT K H p ys) ∧ ∀ l, H l = none → Q (.ref l) (upd H l (.lst ys))) (tCons (tVar 6) tNil)) from (pe_callTy call_list_of (by rfl) B.list (by decide +kernel) (pa_cons (pv 6) pa_nil))) (pv 6)))
      (pss_cons (ps_set (i := 8) scL.nd rfl (Or.inl rfl) (pe_make mk FI hr7 rfl D.kc.m bI .nil passX (pa_cons (pv 4) (pa_cons (pe_ifExp (pt_cmpR op_eq (pe_callee D.any hr1 rfl (pa_cons (pv 1) (pa_cons pe_int pa_nil))) pe_int (nomark _)) (pv 7) (pe_callTy call_tuple_of (by rfl) B.tuple (by decide +kernel) (pa_cons (pv 7) pa_nil))) pa_nil))))
      (pss_cons (ps_for PassesOwn.never rfl (pi_list (pv 7)) (pg_name (i := 6) scL.nd rfl (Or.inl rfl))
        (pss_one (ps_if (pt_val (pe_callB call_isi (by rfl) B.isi (by decide +kernel) (pa_cons (pv 6) (pa_cons (pe_bltn (v := .ty "list") rfl B.list (by decide +kernel) rfl) pa_nil)))) (pss_one (ps_expr (pe_bm PySem.F.plainAttrs_list PySem.F.slot_list_append PySem.F.type_list_append mt_append (pv 6) (pa_cons pe_str pa_nil)))) pss_nil)))
      (pss_cons (ps_expr (pe_bm PySem.F.plainAttrs_list PySem.F.slot_list_append PySem.F.type_list_append mt_append (pv 7) (pa_cons (pe_lst (pa_cons pe_str pa_nil)) pa_nil)))
      (pss_cons (ps_if (PW.pt (pw_or (pt_cmpR op_ne (pe_fld (pv 8) rfl) (pv 4) (nomark _)) (pw_or (pt_cmpR op_ne (pe_callB (call_repr calm_guards un) (by rfl) B.repr (by decide +kernel) (pa_cons (pe_fld (pv 8) rfl) pa_nil)) (pe_callB (call_repr calm_guards un) (by rfl) B.repr (by decide +kernel) (pa_cons (pe_callTy call_tuple_of (by rfl) B.tuple (by decide +kernel) (pa_cons (pv 5) pa_nil)) pa_nil)) (nomark _)) (pw_or1 (pt_cmpR op_ne (pe_meth0 (pv 8) D.cl mT FT hr1 bT .nil pass0) (pe_callee D.ltext hr1 rfl (pa_cons (pv 4) (pa_cons (pv 5) pa_nil))) (nomark _)))))) (pss_one ps_never) pss_nil)
      (pss_cons (ps_set (i := 9) scL.nd rfl (Or.inl rfl) (pe_smethK (pe_glob (v := .ref C) rfl D.kc.m rfl) rd2 sm2 FR2 hr8 br2 passX (pk_cons (pe_meth0 (pv 8) D.cl mT FT hr1 bT .nil pass0) pk_nil)))
      (pss_cons (ps_if (PW.pt (pw_or (pt_cmpR op_ne (pe_callB (call_repr calm_guards un) (by rfl) B.repr (by decide +kernel) (pa_cons (pe_fld (pv 9) rfl) pa_nil)) (pe_callB (call_repr calm_guards un) (by rfl) B.repr (by decide +kernel) (pa_cons (pe_fld (pv 8) rfl) pa_nil)) (nomark _)) (pw_or (pt_not (pt_cmpR opE (pv 9) (pv 8) (nomark _))) (pw_or (pt_cmpR opE (pv 8) (pv 5) (nomark _)) (pw_or1 (pt_cmpR opN (pv 8) (pe_makeK0 mk2 FI2 hr7 rfl D.kc.m bI2 passX (pk_cons (pv 4) (pk_cons (pv 5) pk_nil))) (nomark _))))))) (pss_one ps_never) pss_nil)
      (pss_cons (ps_set (i := 10) scL.nd rfl (Or.inl rfl) (pe_callee D.program hr3 rfl (pa_cons (pv 1) (pa_cons (pe_lst (pa_cons pe_str pa_nil)) (pa_cons (pe_lst (pa_cons pe_str pa_nil)) (pa_cons (pv 3) pa_nil))))))
      (pss_cons (ps_if (PW.pt (pw_or (pt_cmpR op_ne (pe_cmpR opE (pv 8) (pe_make mk FI hr7 rfl D.kc.m bI .nil passX (pa_cons (pv 4) (pa_cons (pv 10) pa_nil))) (nomark _)) (pe_cmpR (op_eqD un) (pv 5) (pv 10) (nomark _)) (nomark _)) (pw_or1 (pt_cmpR opE (pv 8) (pe_make mk FI hr7 rfl D.kc.m bI .nil passX (pa_cons pe_str (pa_cons (pv 5) pa_nil))) (nomark _))))) (pss_one ps_never) pss_nil)
      (pss_cons (ps_par (i := 11) (j := 12) rfl scL.nd rfl rfl (by decide) rfl rfl (pa_cons (pe_callee D.any hr1 rfl (pa_cons (pv 1) (pa_cons (pv 3) pa_nil))) (pa_cons (pe_callee D.bent hr3 rfl (pa_cons (pv 1) (pa_cons (pv 3) pa_nil))) pa_nil)) rfl)
      (pss_cons (ps_set (i := 13) scL.nd rfl (Or.inr rfl) (pe_op op_cat (pe_op op_cat (pe_slice sl_list (pv 5) po_none (po_some (pv 11))) (pe_lst (pa_cons (pv 12) pa_nil))) (pe_slice sl_list (pv 5) (po_some (pe_op op_add (pv 11) pe_int)) po_none)))
      (pss_cons (ps_if (pt_cmpR (op_neD un) (pe_wrong D.refd rfl TB rfl hmT hu hr9 (lamS_by (sc := defScope sLaw) (by decide +kernel)) rfl (fun _ _ _ _ _ => rfl) (fun A outer s H E f' c' hr' => (pe_make mk FI (hr'.mono (show 7 ≤ 8 by decide)) rfl D.kc.m bI .nil (passes_call (takes_of rfl rfl rfl rfl) (fun _ _ _ _ h => h)) (pa_cons (pv 4) (pa_cons (pv 13) pa_nil))))) (pe_tup (pa_cons pe_str (pa_cons (pv 11) pa_nil))) (nomark _)) (pss_one ps_never) pss_nil)
      (pss_cons (ps_set (i := 14) scL.nd rfl (Or.inr rfl) (pe_callee D.of hr2 rfl (pa_cons (pv 1) (pa_cons (pe_lst (pa_cons (pe_lst pa_nil) (pa_cons (pe_tup pa_nil) (pa_cons pe_non (pa_cons pe_str (pa_cons pe_int (pa_cons (pe_op op_rep (pe_lst (pa_cons (pe_tup (pa_cons pe_str pa_nil)) pa_nil)) pe_int) pa_nil))))))) pa_nil))))
      (pss_cons (ps_if (pt_cmpR (op_neD un) (pe_wrong D.refd rfl TB rfl hmT hu hr9 (lamS_by (sc := defScope sLaw) (by decide +kernel)) rfl (fun _ _ _ _ _ => rfl) (fun A outer s H E f' c' hr' => (pe_make mk FI (hr'.mono (show 7 ≤ 8 by decide)) rfl D.kc.m bI .nil (passes_call (takes_of rfl rfl rfl rfl) (fun _ _ _ _ h => h)) (pa_cons (pv 4) (pa_cons (pv 14) pa_nil))))) (pe_tup (pa_cons pe_str (pa_cons (pe_op op_sub pe_int pe_int) pa_nil))) (nomark _)) (pss_one ps_never) pss_nil)
      (pss_cons (ps_set (i := 15) scL.nd rfl (Or.inr rfl) (pe_callee D.of hr2 rfl (pa_cons (pv 1) (pa_cons (pe_lst (pa_cons pe_str (pa_cons pe_str (pa_cons pe_str (pa_cons pe_str (pa_cons pe_str (pa_cons pe_non (pa_cons pe_int (pa_cons (pe_lst (pa_cons pe_str pa_nil)) (pa_cons pe_str (pa_cons pe_str pa_nil))))))))))) pa_nil))))
      (pss_cons (ps_set (i := 16) scL.nd rfl (Or.inr rfl) (pe_callee D.of hr2 rfl (pa_cons (pv 1) (pa_cons (pe_lst (pa_cons (pv 5) (pa_cons (pv 13) (pa_cons (pv 14) pa_nil)))) pa_nil))))
      (pss_cons (ps_if (pt_cmpR (op_neD un) (pe_wrong D.refd rfl TB rfl hmT hu hr9 (lamS_by (sc := defScope sLaw) (by decide +kernel)) rfl (fun _ _ _ _ _ => rfl) (fun A outer s H E f' c' hr' => (pe_make mk FI (hr'.mono (show 7 ≤ 8 by decide)) rfl D.kc.m bI .nil (passes_call (takes_of rfl rfl rfl rfl) (fun _ _ _ _ h => h)) (pa_cons (pv 15) (pa_cons (pv 16) pa_nil))))) (pe_tup (pa_cons pe_str (pa_cons (pe_op op_sub pe_int pe_int) pa_nil))) (nomark _)) (pss_one ps_never) pss_nil)
      (pss_cons (ps_set (i := 17) scL.nd rfl (Or.inl rfl) (pe_lst (pa_cons pe_non (pa_cons pe_int (pa_cons pe_str (pa_cons pe_str (pa_cons pe_str (pa_cons pe_str (pa_cons pe_str (pa_cons (pe_lst (pa_cons pe_str pa_nil)) (pa_cons pe_str (pa_cons pe_str pa_nil))))))))))))
      (pss_cons (ps_set (i := 18) scL.nd rfl (Or.inr rfl) (pe_callee D.of hr2 rfl (pa_cons (pv 1) (pa_cons (pv 17) pa_nil))))
      (pss_cons (ps_if (pt_cmpR (op_neD un) (pe_wrong D.refd rfl TB rfl hmT hu hr9 (lamS_by (sc := defScope sLaw) (by decide +kernel)) rfl (fun _ _ _ _ _ => rfl) (fun A outer s H E f' c' hr' => (pe_smeth (pe_glob (v := .ref C) rfl D.kc.m rfl) rd sm FR (hr'.mono (show 8 ≤ 8 by decide)) br (passes_call (takes_of rfl rfl rfl rfl) (fun _ _ _ _ h => h)) (pa_cons (pv 18) pa_nil)))) (pe_tup (pa_cons pe_str (pa_cons pe_int pa_nil))) (nomark _)) (pss_one ps_never) pss_nil)
      (pss_cons (ps_set (i := 19) scL.nd rfl (Or.inr rfl) (pe_split (pe_meth0 (pv 8) D.cl mT FT hr1 bT .nil pass0) pe_str))
      (pss_cons (ps_set (i := 17) scL.nd rfl (Or.inl rfl) (pe_op op_cat (pe_slice sl_list (pe_lst (pa_cons pe_str pa_nil)) po_none (po_some (pe_op op_sub (pe_op op_sub (pv 3) pe_int) (pv 11)))) (pe_lst (pa_cons pe_str (pa_cons pe_str (pa_cons pe_str (pa_cons pe_str (pa_cons pe_str (pa_cons pe_str (pa_cons pe_str (pa_cons pe_str pa_nil)))))))))))
      (pss_cons (ps_set (i := 17) scL.nd rfl (Or.inl rfl) (pe_op op_cat (pv 17) (pe_lst (pa_cons pe_str (pa_cons pe_str (pa_cons pe_str pa_nil))))))
      (pss_cons (ps_asg (pe_callee D.of hr2 rfl (pa_cons (pv 1) (pa_cons (pv 17) pa_nil))) (pg_sub (pv 19) (pe_op op_add pe_int (pv 11)) set_list))
      (pss_cons (ps_if (pt_cmpR (op_neD un) (pe_wrong D.refd rfl TB rfl hmT hu hr9 (lamS_by (sc := defScope sLaw) (by decide +kernel)) rfl (fun _ _ _ _ _ => rfl) (fun A outer s H E f' c' hr' => (pe_smeth (pe_glob (v := .ref C) rfl D.kc.m rfl) rd sm FR (hr'.mono (show 8 ≤ 8 by decide)) br (passes_call (takes_of rfl rfl rfl rfl) (fun _ _ _ _ h => h)) (pa_cons (show PE _ _ (tM1 (fun x xs H Q => ∃ a p ys, x = V.str a ∧ xs = [V.ref p] ∧ (SqL K H p (List.map V.str ys) ∨ SqT K H p (List.map V.str ys)) ∧ (List.map (fun x => x.length) ys).sum + ys.length * a.length ≤ 16777216 ∧ Q (V.str (Txt.join a ys)) H) (tC (.str "\n")) (tVar 19)) by exact pe_join pe_str (pv 19)) pa_nil)))) (pe_tup (pa_cons pe_str (pa_cons (pv 11) pa_nil))) (nomark _)) (pss_one ps_never) pss_nil)
      (pss_one (ps_for PassesOwn.never rfl (pi_tup (pe_tup (pa_cons pe_str (pa_cons pe_str pa_nil)))) (pg_name (i := 20) scL.nd rfl (Or.inr rfl)) (pss_one (ps_if (pt_cmpR (op_neD un) (pe_wrong D.refd rfl TB rfl hmT hu hr9 (lamS_by (sc := defScope sLaw) (by decide +kernel)) rfl (fun _ _ _ _ _ => rfl) (fun A outer s H E f' c' hr' => (pe_smeth (pe_glob (v := .ref C) rfl D.kc.m rfl) rd sm FR (hr'.mono (show 8 ≤ 8 by decide)) br (passes_call (takes_of rfl rfl rfl rfl) (fun _ _ _ _ h => h)) (pa_cons (pv 20) pa_nil)))) (pe_tup (pa_cons pe_str (pa_cons (pe_op op_sub pe_int pe_int) pa_nil))) (nomark _)) (pss_one ps_never) pss_nil)))))))))))))))))))))))))))))))))
      (pss_one (ps_ret pe_bl))), ?_⟩
  have line : (2000 : Nat) ≤ sizeLine := by decide
  refine ⟨_, rfl, a, ns, rfl, sq, few, fun H1 p q s1 np nq dl1 => ?_⟩
  have tb1 := tabs_same tb s1
  refine ⟨2, rfl, by decide, by decide, for_range (n := 2) (fun i σ H' => ∃ v2 v3 v4 v5 v6 v7 v8 v9 v10 v11 v12 v13 v14 v15 v16 v17 v18 v19 v20 : Option V, σ = [some (.ref a), some (.ref p), v2, v3, v4, v5, v6, v7, v8, v9, v10, v11, v12, v13, v14, v15, v16, v17, v18, v19, v20] ∧ Deal H' p q ∧ Tabs T H')
    ⟨none, none, none, none, none, none, none, none, none, none, none, none, none, none, none, none, none, none, none, rfl, dl1, tb1⟩ ?_ (fun σ H2 _ => rfl)⟩
  rintro i σ H2 hi ⟨v2, v3, v4, v5, v6, v7, v8, v9, v10, v11, v12, v13, v14, v15, v16, v17, v18, v19, v20, rfl, dl2, tb2⟩
  refine ⟨_, rfl, p, q, _, rfl, dl2, by decide, by decide, fun r H3 r0 r6 but3 dl3 => ⟨_, _, rfl, rfl, ?_⟩⟩
  obtain ⟨m, m1, m6, em⟩ : ∃ m : Nat, 1 ≤ m ∧ m ≤ 6 ∧ (1 : Int) + r = (m : Nat) := ⟨r.toNat + 1, by omega, by omega, by omega⟩
  have ev : (fun i j : Int => V.int (i + j)) 1 r = V.int (m : Nat) := by show V.int (1 + r) = _; rw [em]
  rw [ev]
  have tb3 := tabs_but dl2 but3 tb2
  -- its name
  refine ⟨_, rfl, by show 3 ≤ sizeLine; decide, fun t4 n4 => ?_⟩
  generalize hG4 : upd _ t4 _ = G4
  have s4 : Same H3 G4 := by rw [← hG4]; exact same_upd n4
  have at4 : G4 t4 = some (.lst ((["k", "reader", "abcdefgh"] : List Str).map V.str)) := by rw [← hG4]; exact upd_same
  obtain ⟨t4p, t4q⟩ := dl3.new n4
  have dl4 := dl3.same s4
  have tb4 := tabs_same tb3 s4
  clear hG4
  refine ⟨p, q, t4, _, rfl, dl4, t4p, t4q, at4, by show 1 ≤ 3; decide, by show 3 ≤ 1000; decide, fun x H5 hx but5 dl5 => ?_⟩
  obtain ⟨nm, gn, nmo, rfl⟩ : ∃ nm, nm ∈ knames ∧ nm ≠ "other" ∧ x = V.str nm := by
    obtain ⟨y, hy, rfl⟩ := List.mem_map.mp (show x ∈ (["k", "reader", "abcdefgh"] : List Str).map V.str from hx)
    have z : ∀ n, n ∈ (["k", "reader", "abcdefgh"] : List Str) → n ≠ "other" ∧ n ∈ knames := by decide +kernel
    exact ⟨y, (z y hy).2, (z y hy).1, rfl⟩
  have tb5 := tabs_but dl4 but5 tb4
  -- its rows
  refine ⟨_, rfl, by show 2 ≤ sizeLine; decide, fun ld nld => ⟨by show 2 ≤ sizeLine; decide, fun lc nlc => ?_⟩⟩
  have sd := same_upd (o := .lst ((["d", "gate"] : List Str).map V.str)) nld
  generalize hG6 : upd _ lc _ = G6
  have s6 : Same H5 G6 := by rw [← hG6]; exact sd.trans (same_upd nlc)
  have at_ld : G6 ld = some (.lst ((["d", "gate"] : List Str).map V.str)) := by rw [← hG6]; exact same_upd nlc _ _ upd_same
  have at_lc : G6 lc = some (.lst ((["c", "cell"] : List Str).map V.str)) := by rw [← hG6]; exact upd_same
  obtain ⟨ldp, ldq⟩ := dl5.new nld
  obtain ⟨lcp, lcq⟩ := (dl5.same sd).new nlc
  have dl6 := dl5.same s6
  have tb6 := tabs_same tb5 s6
  clear hG6 sd
  refine ⟨_, rfl, p, q, ld, lc, ["d", "gate"], ["c", "cell"], m, rfl, dl6, m1, m6, ldp, ldq, lcp, lcq, at_ld, at_lc, by decide, by decide, by decide, by decide, (fun d h => h), (fun d h => h), fun H7 l ws rs lg but7 dl7 nl hl pw => ?_⟩
  have tb7 := tabs_but dl6 but7 tb6
  obtain ⟨gr, fine⟩ := legit_rows m1 m6 lg
  have lr := lg.1
  have lw := paired_len pw
  obtain ⟨lp, lq⟩ : l ≠ p ∧ l ≠ q := dl6.new nl
  clear at_ld at_lc at4 but3 but5 but7 nl nlc nld n4
  -- what is handed in
  refine ⟨_, rfl, l, rfl, ⟨_, SqL.of hl⟩, fun h nh => ?_⟩
  obtain ⟨hp, hq⟩ := dl7.new nh
  have lh : l ≠ h := ne_of_none hl nh
  refine lc_list (xs := ws) (fun i H' => ∃ hs, But2 p q H7 H' ∧ Deal H' p q ∧ H' h = some (.lst hs) ∧ Paired (HRow p q l h H') hs (rs.take i)) ⟨[], (fun b o _ _ e => same_upd nh _ _ e), dl7.same (same_upd nh), upd_same, .nil⟩ (fun i H' _ z => ?_) ?_ ?_
  · obtain ⟨_, z, _⟩ := z
    exact SqL.of (z _ _ lp lq hl)
  · rintro j x H8 hx ⟨hs, b8, dl8, at_h, ph⟩
    obtain ⟨r', hr', c0, rfl, ec⟩ := paired_get pw hx
    obtain ⟨hj, rfl⟩ := List.getElem?_eq_some_iff.mp hr'
    have lhs := paired_len ph
    rw [List.length_take] at lhs
    have six := gr.1
    refine ⟨rfl, kept ⟨_, rfl, p, q, _, rfl, dl8, by decide, by decide, fun r H9 r0 r2 but9 dl9 => ⟨rfl, _, rfl, ?_⟩⟩⟩
    have ec9 : H9 c0 = some (.tup (rs[j].map ptV)) := dl8.tup but9 (dl7.tup b8 ec)
    have at_h9 := but9 _ _ hp hq at_h
    have ph9 : Paired (HRow p q l h H9) hs (rs.take j) := paired_mono (fun _ _ z => z.but dl8 but9) ph
    have b9 := b8.trans but9
    have hl9 := b9 _ _ lp lq hl
    have fin := fun (HX : Hp) (v : V) (sx : Same H9 HX) (hv : HRow p q l h HX v rs[j]) => handed_step (H7 := H7) (rs := rs) hj nh hp hq lh b9 dl9 at_h9 ph9 sx hv
    have room : hs.length < sizeLine := by omega
    refine ite2 (fun z => ?_) (fun z => ?_)
    · refine ⟨_, rfl, c0, _, rfl, .inr (SqT.of ec9), fun c1 n1 => ?_⟩
      have sx := same_upd (o := .lst (rs[j].map ptV)) n1
      obtain ⟨c1p, c1q⟩ := dl9.new n1
      exact ⟨hs, sx _ _ at_h9, room, fin _ _ sx (.inr ⟨c1, rfl, ⟨c1p, c1q, Ne.symm (ne_of_none hl9 n1), Ne.symm (ne_of_none at_h9 n1)⟩, upd_same⟩)⟩
    · exact ⟨_, rfl, hs, at_h9, room, fin _ _ (Same.refl _) (.inl ⟨c0, rfl, ec9⟩)⟩
  · rintro H8 ⟨hs, b8, dl8, at_h, ph⟩
    rw [lw, List.take_length] at ph
    have lhs := paired_len ph
    have six := gr.1
    have tb8 := tabs_but dl7 b8 tb7
    have hl8 := b8 _ _ lp lq hl
    have pw8 := rows_but dl7 b8 pw
    clear b8 hl pw tb7
    -- the kind
    refine ⟨_, rfl, _, rfl, p, q, _, rfl, dl8, by decide, by decide, fun r H9 r0 r2 but9 dl9 => ⟨rfl, _, rfl, ?_⟩⟩
    have at_h9 := but9 _ _ hp hq at_h
    have ph9 : Paired (HRow p q l h H9) hs rs := paired_mono (fun _ _ z => z.but dl8 but9) ph
    have tb9 := tabs_but dl8 but9 tb8
    have hl9 := but9 _ _ lp lq hl8
    have pw9 := rows_but dl8 but9 pw8
    clear ph at_h tb8 hl8 pw8 dl8
    refine var_or_tup (i := 7) rfl at_h9 (fun HX rv sx ov hv o dx no ndx ne => ?_)
    have sI : Same HX (upd (upd HX dx (.own o)) o (.ins C dx [])) := fun b u e => by
      rw [upd_ne (ne_of_none e no), upd_ne (ne_of_none e ndx)]
      exact e
    have sq9 := sx.trans sI
    refine init_good (rs := rs) upd_same (ov.same sI) (by rw [ov.seq_same sI]; exact hv) (paired_mono (fun _ _ z => (z.same sq9).sq) ph9) gn gr (by omega) (fun r hr => by rw [lr]; exact (fine r hr).isrow) (fun H10 k10 kd10 => ⟨rfl, ?_⟩)
    have s10 : Same H9 H10 := fun b u e => k10 b u (ne_of_none (sx _ _ e) no) (sq9 _ _ e)
    have bag10 : Bag T C p q l o nm rs ws H10 := ⟨dl9.same s10, tabs_same tb9 s10, s10 _ _ hl9, rows_same s10 pw9, kd10⟩
    have at_h10 := s10 _ _ at_h9
    have now10 : ∀ x, x ∈ hs → HNow 3 p q l h H10 x := fun x hx => (all_now gr.2 ph9 x hx).same s10
    clear sI sq9 k10 kd10 ph9 at_h9 s10 no ndx ne tb9 hl9 pw9 sx ov hv
    -- what is handed in is changed
    refine ⟨_, rfl, h, rfl, ⟨_, SqL.of at_h10⟩, for_it (walk_list (xs := hs)) (fun i σ H' => ∃ w2 w6 w9 w10 w11 w12 w13 w14 w15 w16 w17 w18 w19 w20 : Option V, σ = [some (.ref a), some (.ref p), w2, some (.int (m : Nat)), some (.str nm), some (.ref l), w6, some (.ref h), some (.ref o), w9, w10, w11, w12, w13, w14, w15, w16, w17, w18, w19, w20] ∧ Bag T C p q l o nm rs ws H' ∧ H' h = some (.lst hs) ∧ ∀ x, x ∈ hs → HNow (3 + i) p q l h H' x)
      ⟨_, _, _, _, _, _, _, _, _, _, _, _, _, _, rfl, bag10, at_h10, now10⟩ (fun i σ H' _ z => ?_) ?_ ?_⟩
    · obtain ⟨_, _, _, _, _, _, _, _, _, _, _, _, _, _, _, _, z, _⟩ := z
      exact SqL.of z
    · rintro j x σ H11' H11 hj ⟨w2, w6, w9, w10, w11, w12, w13, w14, w15, w16, w17, w18, w19, w20, rfl, bag11, at_h11, now11⟩ ⟨rfl, hx⟩
      have nx := now11 x (List.mem_of_getElem? hx)
      have next : ∀ y, y ∈ hs → HNow (3 + (j + 1)) p q l h H11 y := fun y hy => (now11 y hy).mono (by omega)
      rcases nx with ⟨c1, ys, rfl, e1⟩ | ⟨c1, ys, rfl, n1, few1, e1⟩
      · refine ⟨_, rfl, _, _, _, _, _, rfl, .ty "list", .base (.tup e1), kit_ty (show kitB "tuple" "list" = some false by decide +kernel), _, rfl, ?_⟩
        exact iteF ⟨_, _, _, _, _, _, _, _, _, _, _, _, _, _, rfl, bag11, at_h11, next⟩
      · refine ⟨_, rfl, _, _, _, _, _, rfl, .ty "list", .base (.lst e1), kit_ty (show kitB "list" "list" = some true by decide +kernel), _, rfl, iteT ?_⟩
        have line : (2000 : Nat) ≤ sizeLine := by decide
        have six : hs.length ≤ 6 := by omega
        refine ⟨_, rfl, .inl ⟨rfl, _, SqL.of e1⟩, c1, ys, _, rfl, rfl, e1, by omega, _, _, _, _, _, _, _, _, _, _, _, _, _, _, rfl, bag11.but1 e1 n1.1 n1.2.1 n1.2.2.1 (fun b u n e => by rw [upd_ne n]; exact e), ?_, fun y hy => ?_⟩
        · rw [upd_ne (Ne.symm n1.2.2.2)]
          exact at_h11
        · exact ((now11 y hy).put e1 few1).mono (by omega)
    · rintro σ H11 ⟨w2, w6, w9, w10, w11, w12, w13, w14, w15, w16, w17, w18, w19, w20, rfl, bag11, at_h11, now11⟩
      clear now11 now10 bag10 at_h10
      refine ⟨_, rfl, .inl ⟨rfl, _, SqL.of at_h11⟩, by show 1 ≤ sizeLine; decide, fun t12 n12 => ?_⟩
      have s12 := same_upd (o := .lst [V.str "rest"]) n12
      refine ⟨h, hs, _, rfl, rfl, s12 _ _ at_h11, by omega, ?_⟩
      generalize hG13 : upd _ h _ = G13
      have bag13 : Bag T C p q l o nm rs ws G13 := (bag11.same s12).but1 (s12 _ _ at_h11) hp hq (Ne.symm lh) (fun b u n e => by rw [← hG13, upd_ne n]; exact e)
      clear hG13 s12 n12 bag11 at_h11
      show Ends.nx _ _ _
      have tx := text_ok gn gr fine
      have hd1 : ∀ r, r ∈ rs → ∃ x ps, r = K08.Pt.s x :: ps := fun r hr => by
        obtain ⟨x, ps, e, _⟩ := (fine r hr).head
        exact ⟨x, ps, e⟩
      obtain ⟨f1, f2, f3, f4⟩ := rows_fit gr
      obtain ⟨dxA, tA, wsA, hoA, htA, pwA⟩ := bag13.kd
      have hl13 := bag13.hl
      have dA : Dp K G13 (.ref tA) (rowsD rs) := dp_rows htA pwA
      have dB : ∀ (G : Hp) (t : Addr), Same G13 G → G t = some (.tup ws) → Dp K G (.ref t) (rowsD rs) := fun G t s e => dp_rows e (rows_same s bag13.pw)
      revert dA dB f1 f2 f3 f4
      generalize hd : rowsD rs = dd
      intro f1 f2 f3 f4 dA dB
      refine ⟨_, rfl, o, C, dxA, _, _, rfl, hoA, D.cl, D.na1, rfl, _, rfl, rfl, _, rfl, iteNS rfl ?_⟩
      refine ⟨_, rfl, o, C, dxA, _, _, rfl, hoA, D.cl, D.na2, rfl, _, dd, rfl, dA, f1, f2, f3, f4, _, rfl, l, _, rfl, .inl ⟨SqL.of hl13, fun tB nB => ?_⟩⟩
      have sB := same_upd (o := .tup ws) nB
      refine ⟨_, dd, rfl, dB _ tB sB upd_same, f1, f2, f3, f4, rfl, _, rfl, iteNS rfl ?_⟩
      refine ⟨_, rfl, o, dxA, _, rfl, sB _ _ hoA, rfl, o, nm, rs, rfl, bag13.kd.same sB, gn, gr, fun HA sA => ?_⟩
      have bagA := bag13.same (sB.trans sA)
      refine ⟨_, rfl, _, rfl, nm, l, ws, rs, rfl, bagA.hl, bagA.pw, gn, gr, hd1, fun HB sB2 => ?_⟩
      refine ⟨rfl, _, rfl, iteNS rfl ?_⟩
      have bagB := bagA.same sB2
      obtain ⟨dxB, tB', wsB, hoB, htB, pwB⟩ := bagB.kd
      clear dA dB hoA htA pwA sB sA sB2 nB bagA bag13 hl13
      -- read back
      refine ⟨rfl, _, rfl, o, dxB, _, rfl, hoB, rfl, o, nm, rs, rfl, bagB.kd, gn, gr, fun HC sC => ?_⟩
      have bagC := bagB.same sC
      refine ⟨_, rfl, .str _, (fun h => ?_), fun s hs => ?_⟩
      · rw [tx.read] at h
        cases h
      cases hs
      refine ⟨tx.short, fun _ => ⟨fun h => ?_, fun _ => ⟨fun i fb => ?_, fun _ HD oD sD nD kD => ?_⟩⟩⟩
      · rw [tx.name, tx.rows] at h
        unfold hdOk at h
        rw [kn_name nm gn] at h
        have r1 : 1 ≤ rs.length := by omega
        simp [r1, gr.1] at h
      · rw [tx.rows] at fb
        obtain ⟨h1, _, h2⟩ := fb
        have := h2 h1
        rw [lr, (fine _ (List.getElem_mem h1)).isrow] at this
        cases this
      rw [tx.name, tx.rows] at kD
      have bagD := bagC.same sD
      obtain ⟨dxO, tO, wsO, hoO, htO, pwO⟩ := bagD.kd
      obtain ⟨dxD, tD, wsD, hoD, htD, pwD⟩ := id kD
      have dE : Dp K HD (.ref tD) dd := by rw [← hd]; exact dp_rows htD pwD
      have dO : Dp K HD (.ref tO) dd := by rw [← hd]; exact dp_rows htO pwO
      refine ⟨_, rfl, oD, C, dxD, _, _, rfl, hoD, D.cl, D.na2, rfl, _, dd, rfl, dE, f1, f2, f3, f4, _, rfl, o, C, dxO, _, _, rfl, hoO, D.cl, D.na2, rfl, _, dd, rfl, dO, f1, f2, f3, f4, rfl, _, rfl, iteNS rfl ?_⟩
      refine ⟨_, rfl, _, rfl, oD, dxD, _, .ref C, rfl, hoD, .ins hoO, by simp [W.notFirst], oD, _, nm, rs, rfl, kD, gr, .inl ⟨o, nm, rs, rfl, bagD.kd, gr, _, rfl, ?_⟩⟩
      refine ⟨_, rfl, ?_⟩
      rw [decide_eq_true (rfl : nm = nm), decide_eq_true (rfl : rs = rs)]
      refine iteF ?_
      refine ⟨_, rfl, _, rfl, o, dxO, _, .type "list", rfl, hoO, .lst bagD.hl, D.ns, o, _, nm, rs, rfl, bagD.kd, gr, .inr ⟨.type "list", .base (.lst bagD.hl), D.ks, _, rfl, ?_⟩⟩
      refine ⟨_, rfl, iteF ?_⟩
      clear dE dO htD pwD htO pwO hoB htB pwB bagB bagC
      refine ⟨_, rfl, _, rfl, _, rfl, ?_⟩
      refine ⟨rfl, rfl, fun oN dxN noN ndxN neN => ?_⟩
      have sI : Same HD (upd (upd HD dxN (.own oN)) oN (.ins C dxN [])) := fun b u e => by
        rw [upd_ne (ne_of_none e noN), upd_ne (ne_of_none e ndxN)]
        exact e
      refine init_good (rv := .ref l) (rs := rs) upd_same (.lst (sI _ _ bagD.hl)) (seqOf_lst (sI _ _ bagD.hl)) (paired_mono (fun _ _ z => rowsq_of z) (rows_same sI bagD.pw)) gn gr (by omega) (fun r hr => by rw [lr]; exact (fine r hr).isrow) (fun HE kE kdE => ⟨rfl, ?_⟩)
      have sE : Same HD HE := fun b u e => kE b u (ne_of_none e noN) (sI _ _ e)
      have bagE := bagD.same sE
      obtain ⟨dxN', tN, wsN, hoN, _, _⟩ := id kdE
      refine ⟨o, dxO, _, .ref C, rfl, sE _ _ hoO, .ins hoN, by simp [W.notFirst], o, _, nm, rs, rfl, bagE.kd, gr, .inl ⟨oN, nm, rs, rfl, kdE, gr, _, rfl, ?_⟩⟩
      rw [decide_eq_true (rfl : nm = nm), decide_eq_true (rfl : rs = rs)]
      refine ⟨_, rfl, iteF ?_⟩
      clear hoN kdE kE sI noN ndxN neN hoO hoD kD bagD sD sE
      -- another program
      refine ⟨_, rfl, by show 1 ≤ sizeLine; decide, fun ld2 nld2 => ⟨by show 1 ≤ sizeLine; decide, fun lc2 nlc2 => ?_⟩⟩
      have sd := same_upd (o := .lst ((["d"] : List Str).map V.str)) nld2
      generalize hGF : upd _ lc2 _ = GF
      have sF : Same HE GF := by rw [← hGF]; exact sd.trans (same_upd nlc2)
      have at_ld : GF ld2 = some (.lst ((["d"] : List Str).map V.str)) := by rw [← hGF]; exact same_upd nlc2 _ _ upd_same
      have at_lc : GF lc2 = some (.lst ((["c"] : List Str).map V.str)) := by rw [← hGF]; exact upd_same
      obtain ⟨ldp2, ldq2⟩ := bagE.dl.new nld2
      obtain ⟨lcp2, lcq2⟩ := (bagE.dl.same sd).new nlc2
      have bagF := bagE.same sF
      clear hGF sd bagE
      refine ⟨_, rfl, p, q, ld2, lc2, ["d"], ["c"], m, rfl, bagF.dl, m1, m6, ldp2, ldq2, lcp2, lcq2, at_ld, at_lc, by decide, by decide, by decide, by decide, (fun d h => List.mem_append_left (["gate"] : List Str) h), (fun d h => List.mem_append_left (["cell"] : List Str) h), fun HG l2 ws2 rs2 lg2 butG dlG nl2 hl2 pw2 => ?_⟩
      have bagG := bagF.but butG dlG lp lq
      obtain ⟨gr2, fine2⟩ := legit_rows m1 m6 lg2
      have lr2 := lg2.1
      clear at_ld at_lc nlc2 nld2 butG
      refine ⟨_, rfl, _, rfl, _, rfl, fun o3 dx3 no3 ndx3 ne3 => ?_⟩
      have sI : Same HG (upd (upd HG dx3 (.own o3)) o3 (.ins C dx3 [])) := fun b u e => by
        rw [upd_ne (ne_of_none e no3), upd_ne (ne_of_none e ndx3)]
        exact e
      refine init_good (rv := .ref l2) (rs := rs2) upd_same (.lst (sI _ _ hl2)) (seqOf_lst (sI _ _ hl2)) (paired_mono (fun _ _ z => rowsq_of z) (rows_same sI pw2)) gn gr2 (by omega) (fun r hr => by rw [lr2]; exact (fine2 r hr).isrow) (fun HI kI kdI => ⟨rfl, ?_⟩)
      have sI2 : Same HG HI := fun b u e => kI b u (ne_of_none e no3) (sI _ _ e)
      have bagI := bagG.same sI2
      have hl2I := sI2 _ _ hl2
      have pw2I := rows_same sI2 pw2
      obtain ⟨dx3', t3, ws3, ho3, _, _⟩ := id kdI
      obtain ⟨dxO, tO, wsO, hoO, _, _⟩ := bagI.kd
      refine ⟨o, dxO, _, .ref C, rfl, hoO, .ins ho3, by simp [W.notFirst], o, _, nm, rs, rfl, bagI.kd, gr, .inl ⟨o3, nm, rs2, rfl, kdI, gr2, _, rfl, ?_⟩⟩
      rw [decide_eq_true (rfl : nm = nm), Bool.true_and]
      refine ⟨_, rfl, _, rfl, rowsL rs, rowsL rs2, dp_rowsL bagI.hl bagI.pw, dp_rowsL hl2I pw2I, shaped_rowsL gr, shaped_rowsL gr2, ?_⟩
      rw [eqv_rowsL]
      refine ⟨rfl, _, rfl, iteNS rfl ?_⟩
      clear kdI ho3 sI sI2 no3 ndx3 ne3 kI hl2 pw2 bagG hl2I pw2I nl2
      refine ⟨_, rfl, _, rfl, fun o4 dx4 no4 ndx4 ne4 => ?_⟩
      have sI : Same HI (upd (upd HI dx4 (.own o4)) o4 (.ins C dx4 [])) := fun b u e => by
        rw [upd_ne (ne_of_none e no4), upd_ne (ne_of_none e ndx4)]
        exact e
      refine init_good (nm := "other") (rv := .ref l) (rs := rs) upd_same (.lst (sI _ _ bagI.hl)) (seqOf_lst (sI _ _ bagI.hl)) (paired_mono (fun _ _ z => rowsq_of z) (rows_same sI bagI.pw)) (by decide +kernel) gr (by omega) (fun r hr => by rw [lr]; exact (fine r hr).isrow) (fun HJ kJ kdJ => ⟨rfl, ?_⟩)
      have sJ : Same HI HJ := fun b u e => kJ b u (ne_of_none e no4) (sI _ _ e)
      have bagJ := bagI.same sJ
      obtain ⟨dx4', t4', ws4, ho4, _, _⟩ := id kdJ
      refine ⟨o, dxO, _, .ref C, rfl, sJ _ _ hoO, .ins ho4, by simp [W.notFirst], o, _, nm, rs, rfl, bagJ.kd, gr, .inl ⟨o4, "other", rs, rfl, kdJ, gr, _, rfl, ?_⟩⟩
      rw [decide_eq_false nmo, Bool.false_and]
      refine ⟨_, rfl, iteF ?_⟩
      clear ho4 kdJ kJ sI sJ no4 ndx4 ne4 bagI hoO
      -- one row bent
      refine ⟨_, rfl, _, rfl, p, q, _, rfl, bagJ.dl, by omega, by omega, fun r HL r0 rm butL dlL => ?_⟩
      have bagL := bagJ.but butL dlL lp lq
      obtain ⟨j, rfl⟩ : ∃ j : Nat, r = (j : Int) := ⟨r.toNat, by omega⟩
      have hj : j < ws.length := by omega
      refine ⟨_, rfl, _, rfl, p, q, m, rfl, dlL, fun HM x butM dlM bx xp xq => ?_⟩
      have bagM := bagL.but butM dlM lp lq
      clear bagJ bagL butL butM dlL dlM
      refine ⟨_, _, rfl, ?_⟩
      refine ⟨_, rfl, _, rfl, _, rfl, l, _, rfl, SqL.of bagM.hl, fun a1 h1 => ?_⟩
      rw [cut_takeV ws j (by omega)]
      have y1 := same_upd (o := .lst (ws.take j)) h1
      refine ⟨_, rfl, by show 1 ≤ sizeLine; decide, fun a2 h2 => ?_⟩
      have y2 := same_upd (o := .lst [x]) h2
      refine ⟨_, _, _, _, rfl, rfl, y2 _ _ upd_same, upd_same, by rw [List.length_take]; show min j ws.length + 1 ≤ _; omega, fun a3 h3 => ?_⟩
      have y3 := same_upd (o := .lst (ws.take j ++ [x])) h3
      generalize hGN : upd _ a3 _ = GN
      have yN : Same HM GN := by rw [← hGN]; exact (y1.trans y2).trans y3
      have at_a3 : GN a3 = some (.lst (ws.take j ++ [x])) := by rw [← hGN]; exact upd_same
      clear hGN y1 y2 y3
      have bagN := bagM.same yN
      refine ⟨_, rfl, _, rfl, _, _, rfl, rfl, _, rfl, l, _, rfl, SqL.of bagN.hl, fun a4 h4 => ?_⟩
      rw [show ((j : Nat) : Int) + 1 = ((j + 1 : Nat) : Int) from rfl, cut_dropV ws (j + 1) (by omega)]
      have y4 := same_upd (o := .lst (ws.drop (j + 1))) h4
      refine ⟨_, _, _, _, rfl, rfl, y4 _ _ at_a3, upd_same, by rw [List.length_append, List.length_take, List.length_drop]; show min j ws.length + 1 + (ws.length - (j + 1)) ≤ _; omega, fun wr hwr => ?_⟩
      generalize hGW : upd _ wr _ = GW
      have yW : Same GN GW := by rw [← hGW]; exact y4.trans (same_upd hwr)
      have at_wr : GW wr = some (.lst (putAt ws j x)) := by rw [← hGW]; exact upd_same
      have bagW := bagN.same yW
      have bxW := bx.same (yN.trans yW)
      obtain ⟨wrp, wrq⟩ : wr ≠ p ∧ wr ≠ q := (bagN.dl.same y4).new hwr
      have pl := put_len (x := x) hj
      clear hGW y4 yN yW bagN bagM bx at_a3
      -- the first question
      refine ⟨bagW.tb, fun K1 x1 t1 => ⟨_, rfl, _, rfl, fun o5 dx5 no5 ndx5 ne5 => ?_⟩⟩
      have sL : Same K1 (upd (upd K1 dx5 (.own o5)) o5 (.ins C dx5 [])) := fun b u e => by
        rw [upd_ne (ne_of_none e no5), upd_ne (ne_of_none e ndx5)]
        exact e
      have eL : ExtN GW (upd (upd K1 dx5 (.own o5)) o5 (.ins C dx5 [])) := x1.trans (ExtN.of sL)
      have at_wrL := eL _ _ at_wr (fun _ z => nomatch z)
      have bxL := bxW.ext eL
      have rgL := rows_good (rows_ext eL bagW.pw) fine
      refine init_bad (ws := putAt ws j x) (i := j) upd_same (.lst at_wrL) (seqOf_lst at_wrL) gn (by omega) (by omega) (fun y hy => ?_) (by omega) (fun i hi hij => ?_) ?_ (fun HM2 d sM nd ed => ?_)
      · rcases put_mem hy with rfl | z
        · exact bxL.1
        · exact (rgL y z).1
      · have mw : ((ws.length : Nat) : Int) = (m : Nat) := by omega
        rw [put_before hj hij hi, pl, mw]
        exact (rgL _ (List.getElem_mem _)).2
      · have mw : ((ws.length : Nat) : Int) = (m : Nat) := by omega
        rw [put_at hj, pl, mw]
        exact bxL.2
      refine ⟨d, _, rfl, ed, .inl ⟨rfl, fun p7 np7 => ?_⟩⟩
      have z7 := same_upd (o := .tup [.str "guest", .int (j : Nat)]) np7
      refine ⟨_, rfl, by show 2 ≤ sizeLine; decide, fun p8 np8 => ?_⟩
      have z8 := same_upd (o := .tup [.str "guest", .int (j : Nat)]) np8
      refine ⟨_, _, res_dp (z8 _ _ upd_same), res_dp upd_same, res_shaped _ _ (by decide +kernel), res_shaped _ _ (by decide +kernel), _, rfl, ?_⟩
      rw [res_eqv]
      refine iteF ?_
      have eQ := eL.trans (ExtN.of ((sM.trans z7).trans z8))
      have bagQ := bagW.ext eQ (tabs_same t1 (sL.trans ((sM.trans z7).trans z8)))
      have at_wrQ := eQ _ _ at_wr (fun _ z => nomatch z)
      have bxQ := bxW.ext eQ
      generalize hGQ : upd _ p8 _ = GQ
      rw [hGQ] at eQ bagQ at_wrQ bxQ
      clear hGQ eQ z8 z7 sM eL sL x1 t1 at_wrL bxL rgL bagW bxW at_wr no5 ndx5 ne5 np8
      -- what is no program
      refine ⟨_, rfl, Nat.zero_le _, fun e1 n1 => ⟨by show 0 ≤ sizeLine; decide, fun e2 n2 => ⟨by show 1 ≤ sizeLine; decide, fun e3 n3 => ⟨by show 1 ≤ sizeLine; decide, fun e4 n4 => ?_⟩⟩⟩⟩
      generalize hG5 : upd _ e4 _ = G5
      have y5 : Same GQ G5 := by rw [← hG5]; exact (((same_upd n1).trans (same_upd n2)).trans (same_upd n3)).trans (same_upd n4)
      have at_e1 : G5 e1 = some (.lst []) := by rw [← hG5]; exact same_upd n4 _ _ (same_upd n3 _ _ (same_upd n2 _ _ upd_same))
      have at_e2 : G5 e2 = some (.tup []) := by rw [← hG5]; exact same_upd n4 _ _ (same_upd n3 _ _ upd_same)
      have at_e3 : G5 e3 = some (.tup [.str "rest"]) := by rw [← hG5]; exact same_upd n4 _ _ upd_same
      have at_e4 : G5 e4 = some (.lst [.ref e3]) := by rw [← hG5]; exact upd_same
      obtain ⟨e1p, e1q⟩ := bagQ.dl.new n1
      clear hG5
      refine ⟨e4, 7, [.ref e3], rfl, rfl, at_e4, by decide, by decide, by show 1 * 7 ≤ sizeLine; decide, fun e5 n5 => ⟨by show 6 ≤ sizeLine; decide, fun e6 n6 => ?_⟩⟩
      have y6 := (same_upd (o := .lst (List.replicate (7 : Int).toNat [V.ref e3]).flatten) n5)
      generalize hG7 : upd _ e6 _ = G7
      have y7 : Same G5 G7 := by rw [← hG7]; exact y6.trans (same_upd n6)
      have at_e5 : G7 e5 = some (.lst (List.replicate 7 (V.ref e3))) := by rw [← hG7]; exact same_upd n6 _ _ upd_same
      have at_e6 : G7 e6 = some (.lst [.ref e1, .ref e2, .non, .str "rest", .int 7, .ref e5]) := by rw [← hG7]; exact upd_same
      have bag7 := bagQ.same (y5.trans y7)
      have at_wr7 := (y5.trans y7) _ _ at_wrQ
      have bx7 := bxQ.same (y5.trans y7)
      obtain ⟨e5p, e5q⟩ := (bagQ.same y5).dl.new n5
      obtain ⟨e6p, e6q⟩ := ((bagQ.same y5).dl.same y6).new n6
      clear hG7
      refine ⟨p, q, e6, _, rfl, bag7.dl, e6p, e6q, at_e6, by show 1 ≤ 6; decide, by show 6 ≤ 1000; decide, fun z H8' hz but8 dl8 => ?_⟩
      have raw7 : NRaw e1 e2 e3 e5 G7 := ⟨y7 _ _ at_e1, y7 _ _ at_e2, y7 _ _ at_e3, at_e5⟩
      have raw8 := raw7.but bag7.dl but8 ⟨e1p, e1q⟩ ⟨e5p, e5q⟩
      have bag8 := bag7.but but8 dl8 lp lq
      have at_wr8 := but8 _ _ wrp wrq at_wr7
      have bx8 := bx7.but dl8 but8 xp xq
      clear raw7 bag7 at_wr7 bx7 bxQ bagQ at_wrQ at_e1 at_e2 at_e3 at_e4 at_e5 at_e6 y5 y6 y7 n1 n2 n3 n4 n5 n6 e6p e6q but8 dl8
      -- the second question
      refine ⟨bag8.tb, fun K1 x1 t1 => ⟨_, rfl, _, rfl, fun o5 dx5 no5 ndx5 ne5 => ?_⟩⟩
      have sL : Same K1 (upd (upd K1 dx5 (.own o5)) o5 (.ins C dx5 [])) := fun b u e => by
        rw [upd_ne (ne_of_none e no5), upd_ne (ne_of_none e ndx5)]
        exact e
      have eL := x1.trans (ExtN.of sL)
      have rawL := raw8.ext eL
      obtain ⟨nr1, nr2, nr3⟩ := norows rawL.1 rawL.2.1 rawL.2.2.1 rawL.2.2.2 hz
      refine init_head upd_same (.str _) (fun y e => by injection e with e; rw [← e]; have := kn_short nm gn; omega) nr1 nr2 (nr3 _) (fun HM2 d sM nd ed => ?_)
      refine ⟨d, _, rfl, ed, .inl ⟨rfl, fun p7 np7 => ?_⟩⟩
      have z7 := same_upd (o := .tup [.str "guest", .int (-1)]) np7
      refine ⟨_, _, rfl, rfl, by show 2 ≤ sizeLine; decide, fun p8 np8 => ?_⟩
      have z8 := same_upd (o := .tup [.str "guest", .int (-1)]) np8
      refine ⟨_, _, res_dp (z8 _ _ upd_same), res_dp (i := -1) upd_same, res_shaped _ _ (by decide +kernel), res_shaped _ _ (by decide +kernel), _, rfl, ?_⟩
      rw [res_eqv]
      refine iteF ?_
      generalize hGR : upd _ p8 _ = GR
      have sR' : Same (upd (upd K1 dx5 (.own o5)) o5 (.ins C dx5 [])) GR := by rw [← hGR]; exact (sM.trans z7).trans z8
      have eR := eL.trans (ExtN.of sR')
      have bagR := bag8.ext eR (tabs_same t1 (sL.trans sR'))
      have at_wrR := eR _ _ at_wr8 (fun _ z => nomatch z)
      have bxR := bx8.ext eR
      have rawR := raw8.ext eR
      clear hGR eR sR' z8 z7 sM eL sL x1 t1 rawL nr1 nr2 nr3 bag8 at_wr8 bx8 raw8 no5 ndx5 ne5 np8
      -- a word that is no name
      refine ⟨_, rfl, by show 1 ≤ sizeLine; decide, fun e7 n7 => ⟨by show 10 ≤ sizeLine; decide, fun e8 n8 => ?_⟩⟩
      have y7 := same_upd (o := .lst [V.str "k"]) n7
      generalize hG9 : upd _ e8 _ = G9
      have y9 : Same GR G9 := by rw [← hG9]; exact y7.trans (same_upd n8)
      have at_e7 : G9 e7 = some (.lst [.str "k"]) := by rw [← hG9]; exact same_upd n8 _ _ upd_same
      have at_e8 : G9 e8 = some (.lst [.str "", .str "out", .str "Ab", .str "a b", .str "abcdefghi", .non, .int 5, .ref e7, .str "k1", .str "k_"]) := by rw [← hG9]; exact upd_same
      have bag9 := bagR.same y9
      have at_wr9 := y9 _ _ at_wrR
      have bx9 := bxR.same y9
      have raw9 := rawR.same y9
      obtain ⟨e7p, e7q⟩ := bagR.dl.new n7
      obtain ⟨e8p, e8q⟩ := (bagR.dl.same y7).new n8
      clear hG9
      refine ⟨p, q, e8, _, rfl, bag9.dl, e8p, e8q, at_e8, by show 1 ≤ 10; decide, by show 10 ≤ 1000; decide, fun wv HA1 hwv but10 dl10 => ?_⟩
      have bag10 := bag9.but but10 dl10 lp lq
      have at_wr10 := but10 _ _ wrp wrq at_wr9
      have bx10 := bx9.but dl10 but10 xp xq
      have raw10 := raw9.but bag9.dl but10 ⟨e1p, e1q⟩ ⟨e5p, e5q⟩
      have at_e7' := but10 _ _ e7p e7q at_e7
      clear raw9 bag9 at_wr9 bx9 bagR at_wrR bxR rawR y7 y9 n7 n8 at_e7 at_e8 e8p e8q but10 dl10
      -- what is handed in beside it
      refine ⟨_, rfl, _, rfl, _, rfl, _, rfl, by show 3 ≤ sizeLine; decide, fun e9 n9 => ?_⟩
      generalize hGS : upd _ e9 _ = GS
      have yS : Same HA1 GS := by rw [← hGS]; exact same_upd n9
      have at_e9 : GS e9 = some (.lst [.ref l, .ref wr, z]) := by rw [← hGS]; exact upd_same
      have bagS := bag10.same yS
      have at_wrS := yS _ _ at_wr10
      have bxS := bx10.same yS
      have rawS := raw10.same yS
      have at_e7S := yS _ _ at_e7'
      obtain ⟨e9p, e9q⟩ := bag10.dl.new n9
      clear hGS
      refine ⟨p, q, e9, _, rfl, bagS.dl, e9p, e9q, at_e9, by show 1 ≤ 3; decide, by show 3 ≤ 1000; decide, fun bv HT1 hbv butT dlT => ?_⟩
      have bagT := bagS.but butT dlT lp lq
      have at_wrT := butT _ _ wrp wrq at_wrS
      have bxT := bxS.but dlT butT xp xq
      have rawT := rawS.but bagS.dl butT ⟨e1p, e1q⟩ ⟨e5p, e5q⟩
      have at_e7T := butT _ _ e7p e7q at_e7S
      clear bagS at_wrS bxS rawS at_e7S bag10 at_wr10 bx10 raw10 at_e7' yS n9 at_e9 e9p e9q butT dlT
      -- the third question
      refine ⟨bagT.tb, fun K1 x1 t1 => ⟨_, rfl, _, rfl, fun o5 dx5 no5 ndx5 ne5 => ?_⟩⟩
      have sL : Same K1 (upd (upd K1 dx5 (.own o5)) o5 (.ins C dx5 [])) := fun b u e => by
        rw [upd_ne (ne_of_none e no5), upd_ne (ne_of_none e ndx5)]
        exact e
      have eL := x1.trans (ExtN.of sL)
      have hnn := noname (eL _ _ at_e7T (fun _ z => nomatch z)) hwv
      have hrv := rowsv_of (eL _ _ bagT.hl (fun _ z => nomatch z)) (rows_ext eL bagT.pw) fine (by omega) (eL _ _ at_wrT (fun _ z => nomatch z)) hj (bxT.ext eL) (rawT.ext eL) hz hbv
      refine init_head upd_same hnn.1 hnn.2.1 hrv.1 hrv.2 (by unfold headB; rw [hnn.2.2]; rfl) (fun HM2 d sM nd ed => ?_)
      refine ⟨d, _, rfl, ed, .inl ⟨rfl, fun p7 np7 => ?_⟩⟩
      have z7 := same_upd (o := .tup [.str "guest", .int (-1)]) np7
      refine ⟨_, _, rfl, rfl, by show 2 ≤ sizeLine; decide, fun p8 np8 => ?_⟩
      have z8 := same_upd (o := .tup [.str "guest", .int (-1)]) np8
      refine ⟨_, _, res_dp (z8 _ _ upd_same), res_dp (i := -1) upd_same, res_shaped _ _ (by decide +kernel), res_shaped _ _ (by decide +kernel), _, rfl, ?_⟩
      rw [res_eqv]
      refine iteF ?_
      generalize hGU : upd _ p8 _ = GU
      have sU' : Same (upd (upd K1 dx5 (.own o5)) o5 (.ins C dx5 [])) GU := by rw [← hGU]; exact (sM.trans z7).trans z8
      have eU := eL.trans (ExtN.of sU')
      have bagU := bagT.ext eU (tabs_same t1 (sL.trans sU'))
      clear hGU eU sU' z8 z7 sM eL sL x1 t1 hnn hrv bagT at_wrT bxT rawT at_e7T no5 ndx5 ne5 np8 hz hwv hbv
      -- what is no text
      refine ⟨by show 1 ≤ sizeLine; decide, fun u1 nu1 => ⟨by show 10 ≤ sizeLine; decide, fun u2 nu2 => ?_⟩⟩
      have y1 := same_upd (o := .lst [V.str "kind k"]) nu1
      generalize hGV : upd _ u2 _ = GV
      have yV : Same GU GV := by rw [← hGV]; exact y1.trans (same_upd nu2)
      have at_u1 : GV u1 = some (.lst [.str "kind k"]) := by rw [← hGV]; exact same_upd nu2 _ _ upd_same
      have at_u2 : GV u2 = some (.lst [.non, .int 5, .str "", .str "kind", .str "Kind k", .str " kind k", .str "kin k\nrest", .ref u1, .str "k\nrest", .str "\nkind k"]) := by rw [← hGV]; exact upd_same
      have bagV := bagU.same yV
      obtain ⟨u1p, u1q⟩ := bagU.dl.new nu1
      obtain ⟨u2p, u2q⟩ := (bagU.dl.same y1).new nu2
      clear hGV y1 yV nu1 nu2 bagU
      refine ⟨_, rfl, _, rfl, p, q, u2, _, rfl, bagV.dl, u2p, u2q, at_u2, by show 1 ≤ 10; decide, by show 10 ≤ 1000; decide, fun tv HW htv butW dlW => ?_⟩
      have bagX := bagV.but butW dlW lp lq
      have at_u1X := butW _ _ u1p u1q at_u1
      clear bagV at_u1 at_u2 butW dlW
      -- the fourth question
      refine ⟨bagX.tb, fun K1 x1 t1 => ⟨rfl, _, rfl, ?_⟩⟩
      obtain ⟨nt1, nt2, nt3⟩ := notext (x1 _ _ at_u1X (fun _ z => nomatch z)) htv
      refine ⟨tv, rfl, nt1, fun _ HM2 d sM nd ed => ?_, fun s hs => ⟨nt3 s hs, fun h => ?_⟩⟩
      rotate_left
      · rw [nt2] at h
        cases h
      refine ⟨d, _, rfl, ed, .inr ⟨rfl, fun p7 np7 => ?_⟩⟩
      have z7 := same_upd (o := .tup [.str "text", .int 0]) np7
      refine ⟨by show 2 ≤ sizeLine; decide, fun p8 np8 => ?_⟩
      have z8 := same_upd (o := .tup [.str "text", .int 0]) np8
      refine ⟨_, _, res_dp (z8 _ _ upd_same), res_dp (i := 0) upd_same, res_shaped _ _ (by decide +kernel), res_shaped _ _ (by decide +kernel), _, rfl, ?_⟩
      rw [res_eqv]
      refine iteF ?_
      generalize hGY : upd _ p8 _ = GY
      have sY' : Same K1 GY := by rw [← hGY]; exact (sM.trans z7).trans z8
      have eY := x1.trans (ExtN.of sY')
      have bagY := bagX.ext eY (tabs_same t1 sY')
      clear hGY eY sY' z8 z7 sM x1 t1 nt1 nt2 nt3 bagX at_u1X htv np8
      -- the lines of its text
      obtain ⟨dxY, tY, wsY, hoY, _, _⟩ := bagY.kd
      refine ⟨_, rfl, o, dxY, _, rfl, hoY, rfl, o, nm, rs, rfl, bagY.kd, gn, gr, fun HZ sZ => ⟨⟨_, rfl⟩, _, _, rfl, rfl, rfl, by have := tx.len; omega, fun ll nll => ?_⟩⟩
      have bagZ0 := bagY.same sZ
      obtain ⟨llp, llq⟩ := bagZ0.dl.new nll
      have lll : l ≠ ll := ne_of_none bagZ0.hl nll
      generalize hGZ : upd _ ll _ = GZ
      have yZ : Same HZ GZ := by rw [← hGZ]; exact same_upd nll
      have at_ll : GZ ll = some (.lst (((("kind " ++ nm) :: rs.map rowT) : List Str).map V.str)) := by rw [← hGZ, ← tx.lines]; exact upd_same
      have bagZ := bagZ0.same yZ
      clear hGZ yZ nll bagZ0 bagY hoY sZ
      -- one of them spoilt
      refine ⟨by show 1 ≤ sizeLine; decide, fun c1 k1 => ⟨_, rfl, _, _, rfl, rfl, _, rfl, _, _, rfl, rfl, _, rfl, c1, _, rfl, SqL.of upd_same, fun c2 k2 => ?_⟩⟩
      generalize hL0 : cutV [V.str ""] none _ = L0
      have sub0 : ∀ y, y ∈ L0 → y = .str "" := by rw [← hL0]; exact cut_sub _
      have len0 : L0.length ≤ 1 := by rw [← hL0]; exact cutV_length _ _ _
      have at_c2 := upd_same (H := upd GZ c1 (.lst [V.str ""])) (a := c2) (o := .lst L0)
      revert at_c2
      generalize hG1 : upd _ c2 _ = Z1
      intro at_c2
      have w1 : Same GZ Z1 := by rw [← hG1]; exact (same_upd k1).trans (same_upd k2)
      clear hG1
      refine ⟨by show 8 ≤ sizeLine; decide, fun c3 k3 => ?_⟩
      generalize hG2 : upd _ c3 _ = Z2
      have w2' : Same Z1 Z2 := by rw [← hG2]; exact same_upd k3
      obtain ⟨A8, hA8, lenA, at_c3⟩ : ∃ A : List V, A = [.str "go", .str "go d d", .str "goes d", .str "d go", .str "set c 3", .str "set c 07", .str "again 9", .str "when 1"] ∧ A.length = 8 ∧ Z2 c3 = some (.lst A) := ⟨_, rfl, rfl, by rw [← hG2]; exact upd_same⟩
      clear hG2
      refine ⟨_, _, _, _, rfl, rfl, w2' _ _ at_c2, at_c3, by omega, fun c4 k4 => ?_⟩
      generalize hG3 : upd _ c4 _ = Z3
      have w3 : Same Z2 Z3 := by rw [← hG3]; exact same_upd k4
      have at_c4 : Z3 c4 = some (.lst (L0 ++ A8)) := by rw [← hG3]; exact upd_same
      clear hG3
      refine ⟨_, rfl, by show 3 ≤ sizeLine; decide, fun c5 k5 => ?_⟩
      generalize hG4 : upd _ c5 _ = Z4
      have w4 : Same Z3 Z4 := by rw [← hG4]; exact same_upd k5
      obtain ⟨B3, hB3, lenB, at_c5⟩ : ∃ A : List V, A = [.str "see 1", .str "REST", .str "rest 0"] ∧ A.length = 3 ∧ Z4 c5 = some (.lst A) := ⟨_, rfl, rfl, by rw [← hG4]; exact upd_same⟩
      clear hG4
      refine ⟨_, _, _, _, rfl, rfl, w4 _ _ at_c4, at_c5, by rw [List.length_append]; omega, fun c6 k6 => ?_⟩
      generalize hG5 : upd _ c6 _ = Z5
      have w5 : Same Z4 Z5 := by rw [← hG5]; exact same_upd k6
      have at_c6 : Z5 c6 = some (.lst (L0 ++ A8 ++ B3)) := by rw [← hG5]; exact upd_same
      clear hG5
      have bags : ∀ s, s ∈ (L0 ++ A8 ++ B3) → ∃ t, t ∈ badLines ∧ s = .str t := fun s hs => by
        simp only [List.mem_append] at hs
        rcases hs with (y | y) | y
        · exact ⟨"", List.mem_cons_self .., sub0 s y⟩
        · rw [hA8] at y
          obtain ⟨t, ht, rfl⟩ := List.mem_map.mp (show s ∈ (["go", "go d d", "goes d", "d go", "set c 3", "set c 07", "again 9", "when 1"] : List Str).map V.str from y)
          have z : ∀ t, t ∈ (["go", "go d d", "goes d", "d go", "set c 3", "set c 07", "again 9", "when 1"] : List Str) → t ∈ badLines := by decide +kernel
          exact ⟨t, z t ht, rfl⟩
        · rw [hB3] at y
          obtain ⟨t, ht, rfl⟩ := List.mem_map.mp (show s ∈ (["see 1", "REST", "rest 0"] : List Str).map V.str from y)
          have z : ∀ t, t ∈ (["see 1", "REST", "rest 0"] : List Str) → t ∈ badLines := by decide +kernel
          exact ⟨t, z t ht, rfl⟩
      have w14 := (w1.trans w2').trans (w3.trans w4)
      have bag5 := bagZ.same (w14.trans w5)
      obtain ⟨c6p, c6q⟩ := (bagZ.same w14).dl.new k6
      have at_ll5 := (w14.trans w5) _ _ at_ll
      clear at_c2 at_c3 at_c4 at_c5 w1 w2' w3 w4 w5 w14 hA8 hB3 sub0 bagZ at_ll k3 k4 k5 k6
      refine ⟨_, rfl, _, rfl, p, q, c6, _, rfl, bag5.dl, c6p, c6q, at_c6, by rw [List.length_append, List.length_append]; omega, by rw [List.length_append, List.length_append]; omega, fun sv HA2 hsv but5 dl5 => ?_⟩
      obtain ⟨sp, hsp, rfl⟩ := bags sv hsv
      have bag6 := bag5.but but5 dl5 lp lq
      have at_ll6 := but5 _ _ llp llq at_ll5
      clear bags hsv at_c6 bag5 at_ll5 but5 dl5
      have hlen : (((("kind " ++ nm) :: rs.map rowT) : List Str).map V.str).length = rs.length + 1 := by simp
      refine ⟨_, rfl, _, rfl, _, _, rfl, rfl, ll, _, _, j + 1, rfl, rfl, at_ll6, by unfold ixN; rw [if_pos (by omega), if_pos (by omega)]; congr 1; omega, ?_⟩
      rw [set_line]
      generalize hG7 : upd _ ll _ = Z7
      have bag7' : Bag T C p q l o nm rs ws Z7 := bag6.but1 at_ll6 llp llq (Ne.symm lll) (fun b u n e => by rw [← hG7, upd_ne n]; exact e)
      have at_ll7 : Z7 ll = some (.lst ((putLine nm rs j sp).map V.str)) := by rw [← hG7]; exact upd_same
      clear hG7 bag6 at_ll6
      have lk := line_ok (j := j) gn gr fine hsp
      -- the fifth question
      refine ⟨bag7'.tb, fun K1 x1 t1 => ⟨rfl, ⟨_, rfl⟩, _, rfl, "\n", ll, putLine nm rs j sp, rfl, rfl, .inl (SqL.of (x1 _ _ at_ll7 (fun _ z => nomatch z))), lk.sum, ?_⟩⟩
      refine ⟨_, rfl, .str _, (fun h => ?_), fun s hs => ?_⟩
      · rw [lk.read] at h
        cases h
      cases hs
      refine ⟨lk.short, fun _ => ⟨fun h => ?_, fun _ => ⟨fun i5 fb HM2 d sM nd ed => ?_, fun all => ?_⟩⟩⟩
      · rw [lk.name, lk.rows, hd_ok gn (by rw [List.length_map, List.length_set, List.length_map]; omega) (by rw [List.length_map, List.length_set, List.length_map]; omega)] at h
        cases h
      rotate_left
      · rw [lk.rows] at all
        obtain ⟨b1, _, b3⟩ := line_bad (m := m) (j := j) m6 lr (by omega) fine hsp
        have := all _ (List.getElem_mem b1)
        rw [b3 b1] at this
        cases this
      rw [lk.rows] at fb
      have e5 : i5 = j := firstBad_uniq fb (line_bad (m := m) (j := j) m6 lr (by omega) fine hsp)
      rw [e5] at ed
      refine ⟨d, _, rfl, ed, .inl ⟨rfl, fun p7 np7 => ?_⟩⟩
      have z7 := same_upd (o := .tup [.str "guest", .int (j : Nat)]) np7
      refine ⟨_, rfl, by show 2 ≤ sizeLine; decide, fun p8 np8 => ?_⟩
      have z8 := same_upd (o := .tup [.str "guest", .int (j : Nat)]) np8
      refine ⟨_, _, res_dp (z8 _ _ upd_same), res_dp upd_same, res_shaped _ _ (by decide +kernel), res_shaped _ _ (by decide +kernel), _, rfl, ?_⟩
      rw [res_eqv]
      refine iteF ?_
      generalize hG8 : upd _ p8 _ = Z8
      have s8' : Same K1 Z8 := by rw [← hG8]; exact (sM.trans z7).trans z8
      have bag8' := bag7'.ext (x1.trans (ExtN.of s8')) (tabs_same t1 s8')
      clear hG8 s8' z8 z7 sM x1 t1 e5 ed nd lk bag7' at_ll7 np8
      -- the sixth, twice
      refine ⟨by show 2 ≤ sizeLine; decide, fun w8 nw8 => ⟨w8, rfl, ⟨_, SqT.of upd_same⟩, ?_⟩⟩
      have at_w8 : upd Z8 w8 (.tup ((["kind K\nrest", "kind k"] : List Str).map V.str)) w8 = some (.tup ((["kind K\nrest", "kind k"] : List Str).map V.str)) := upd_same
      have bag9' : Bag T C p q l o nm rs ws (upd Z8 w8 (.tup ((["kind K\nrest", "kind k"] : List Str).map V.str))) := bag8'.same (same_upd nw8)
      clear bag8' nw8
      refine for_it (walk_tup (xs := (["kind K\nrest", "kind k"] : List Str).map V.str)) (fun i σ H' => ∃ x2 x3 x4 x5 x6 x7 x8 x9 x10 x11 x12 x13 x14 x15 x16 x17 x18 x19 x20 : Option V, σ = [some (.ref a), some (.ref p), x2, x3, x4, x5, x6, x7, x8, x9, x10, x11, x12, x13, x14, x15, x16, x17, x18, x19, x20] ∧ Bag T C p q l o nm rs ws H' ∧ H' w8 = some (.tup ((["kind K\nrest", "kind k"] : List Str).map V.str)))
        ⟨_, _, _, _, _, _, _, _, _, _, _, _, _, _, _, _, _, _, _, rfl, bag9', at_w8⟩ (fun i σ H' _ z => ?_) ?_ ?_
      · obtain ⟨_, _, _, _, _, _, _, _, _, _, _, _, _, _, _, _, _, _, _, _, _, z⟩ := z
        exact SqT.of z
      · rintro k x σ HB1' HB1 hk ⟨x2, x3, x4, x5, x6, x7, x8, x9, x10, x11, x12, x13, x14, x15, x16, x17, x18, x19, x20, rfl, bagA1, at_w9⟩ ⟨rfl, hx⟩
        obtain ⟨s, hs, rfl⟩ : ∃ s, s ∈ (["kind K\nrest", "kind k"] : List Str) ∧ x = .str s := by
          obtain ⟨y, hy, e⟩ := List.mem_map.mp (List.mem_of_getElem? hx)
          exact ⟨y, hy, e.symm⟩
        obtain ⟨hb1, hb2, hb3⟩ := head_bad s hs
        refine ⟨bagA1.tb, fun K1 x1 t1 => ⟨rfl, _, rfl, .str s, rfl, .str _, (fun h => ?_), fun s2 hs2 => ?_⟩⟩
        · rw [hb1] at h
          cases h
        cases hs2
        refine ⟨hb2, fun _ => ⟨fun _ HM2 d sM nd ed => ?_, fun h => ?_⟩⟩
        rotate_left
        · rw [hb3] at h
          cases h
        refine ⟨d, _, rfl, ed, .inl ⟨rfl, fun p7 np7 => ?_⟩⟩
        have z7 := same_upd (o := .tup [.str "guest", .int (-1)]) np7
        refine ⟨_, _, rfl, rfl, by show 2 ≤ sizeLine; decide, fun p8 np8 => ?_⟩
        have z8 := same_upd (o := .tup [.str "guest", .int (-1)]) np8
        refine ⟨_, _, res_dp (z8 _ _ upd_same), res_dp (i := -1) upd_same, res_shaped _ _ (by decide +kernel), res_shaped _ _ (by decide +kernel), _, rfl, ?_⟩
        rw [res_eqv]
        refine iteF ?_
        generalize hGB : upd _ p8 _ = GB
        have sB' : Same K1 GB := by rw [← hGB]; exact (sM.trans z7).trans z8
        have eB := x1.trans (ExtN.of sB')
        exact ⟨_, _, _, _, _, _, _, _, _, _, _, _, _, _, _, _, _, _, _, rfl, bagA1.ext eB (tabs_same t1 sB'), eB _ _ at_w9 (fun _ z => nomatch z)⟩
      · rintro σ HB1 ⟨x2, x3, x4, x5, x6, x7, x8, x9, x10, x11, x12, x13, x14, x15, x16, x17, x18, x19, x20, rfl, bagA1, _⟩
        exact ⟨_, _, _, _, _, _, _, _, _, _, _, _, _, _, _, _, _, _, _, rfl, bagA1.dl, bagA1.tb⟩
end
end K08

namespace K08
open PySem PySem.Spec PyProof.Rows L2
/-- a dict's entries are these keys and texts -/
def entB : List DictEntry → List (Str × Str) → Bool
  | e :: es, (k, f) :: fs => (match e.key with
    | .str s _ => decide (s = k)
    | _ => false) && (match e.val with
    | .str g _ => decide (g = f)
    | _ => false) && entB es fs
  | [], [] => true
  | _, _ => false
theorem ent_find : ∀ {es : List DictEntry} {fs : List (Str × Str)}, entB es fs = true → ∀ z : Str, ((fs.find? fun p => p.1 == z) = none ∧ (es.find? fun e => e.key.isStr z) = none) ∨ ∃ k f e t, (fs.find? fun p => p.1 == z) = some (k, f) ∧ (es.find? fun e => e.key.isStr z) = some e ∧ e.val = .str f t
  | [], [], _, z => .inl ⟨rfl, rfl⟩
  | e :: es, (k, f) :: fs, h, z => by
    obtain ⟨hash, key, val⟩ := e
    cases key with
    | str s t1 =>
      cases val with
      | str g t2 =>
        simp only [entB, Bool.and_eq_true, decide_eq_true_eq] at h
        obtain ⟨⟨rfl, rfl⟩, h⟩ := h
        by_cases e : s = z
        · subst e
          exact .inr ⟨s, g, ⟨hash, .str s t1, .str g t2⟩, t2, by simp, by simp [Value.isStr], rfl⟩
        · have e1 : (s == z) = false := by simp [e]
          have e2 : (Value.str s t1).isStr z = false := by simp [Value.isStr, e]
          rcases ent_find h z with ⟨a, b⟩ | ⟨k', f', e', t', a, b, c⟩
          · exact .inl ⟨by rw [List.find?_cons, e1]; exact a, by rw [List.find?_cons, e2]; exact b⟩
          · exact .inr ⟨k', f', e', t', by rw [List.find?_cons, e1]; exact a, by rw [List.find?_cons, e2]; exact b, c⟩
      | _ => simp [entB] at h
    | _ => simp [entB] at h
  | [], _ :: _, h, z => by cases h
  | _ :: _, [], h, z => by cases h
/-- no key is an object -/
def litB (es : List DictEntry) : Bool := !es.any (·.refKey)
theorem forms_look {K : W.Frag} {d : Addr} {oc : Value} {od : Option Addr} {es : Array DictEntry} {n : Nat} {sl : Array (Option Value)} (l : K.lookup d = some ⟨oc, od, .dict es n, sl⟩) (h : entB es.toList forms = true) (r : litB es.toList = true) :
    ∀ z, (formOf z = none ∧ W.nsIn K d z = some none) ∨ ∃ f t, formOf z = some f ∧ W.nsIn K d z = some (some (.str f t)) := fun z => by
  have r' : es.toList.any (·.refKey) = false := by
    unfold litB at r
    cases e : es.toList.any (·.refKey) with
    | false => rfl
    | true => rw [e] at r; cases r
  unfold formOf W.nsIn
  rw [l]
  rcases ent_find h z with ⟨a, b⟩ | ⟨k, f, e, t, a, b, c⟩
  · refine .inl ⟨by rw [a]; rfl, ?_⟩
    show (match es.toList.find? (fun e => e.key.isStr z) with | some e => some (some e.val) | none => if es.toList.any (·.refKey) then none else some none) = some none
    rw [b, r']
    rfl
  · refine .inr ⟨f, t, by rw [a]; rfl, ?_⟩
    show (match es.toList.find? (fun e => e.key.isStr z) with | some e => some (some e.val) | none => if es.toList.any (·.refKey) then none else some none) = _
    rw [b]
    show some (some e.val) = _
    rw [c]
end K08

namespace K08
open PySem PySem.Spec PyProof.Rows L2
open Cal EnuT Exn Keys LamX Stc Oeq Fx

theorem callee_mk {P : Program} {w : World} {K : W.Frag} {h : Heap} {mg : Str → Option Value} {base : Heap} {x : Str} {f : Addr} {ps : List Str} {sp : Sp} {k : Nat} {st : Stmt} {oc kV doc pm cdv ct : Value} {od an : Option Addr} {sl : Array (Option Value)} (X : K.In h) (G : h.Ns mainGlobals mg)
    (a : W.nsIn K mainGlobals x = some (some (.ref f))) (l : K.lookup f = some ⟨oc, od, .func (W.fnOf x x (defArgs st) (defBody st) (defScope st) .none kV doc pm an cdv ct), sl⟩) (c : W.codeIn K cdv x = true) (kp : W.keepIn K (.ref f) = true)
    (b : ∀ (kV doc pm : Value) (an : Option Addr) (cdv ct : Value) (us : List Value), us.length = ps.length → bindArgs (W.fnOf x x (defArgs st) (defBody st) (defScope st) .none kV doc pm an cdv ct) ⟨us, []⟩ = pure (ps.zip us))
    (ok : ∀ cdv', cdv' = cdv → Fun K x x st f (W.fnOf x x (defArgs st) (defBody st) (defScope st) .none kV doc pm an cdv ct) → FnOk P w K mg base CX0 k f (W.fnOf x x (defArgs st) (defBody st) (defScope st) .none kV doc pm an cdv ct) ps sp) : Callee P w K mg base x k ps sp := by
  have F := fun_mk (st := st) l c kp
  exact ⟨f, _, W.mg_of X G a, kp, F.binds b, ok cdv rfl F⟩
theorem rel1 {vs : List V} {us : List Value} {zs : List V} {ws : List Value} (a : Vals vs us) (b : Vals zs ws) : Vals (gV1 vs zs) (g1 us ws) := by
  cases a with
  | nil =>
    cases b with
    | nil => exact .nil
    | cons r t =>
      cases t with
      | nil => exact .cons r .nil
      | cons _ _ => exact .nil
  | cons _ _ => exact .nil
abbrev iP : Stmt := inClass (top 8) 0
abbrev iT : Stmt := inClass (top 9) 0
theorem keP : InitTxt iP "at" := ⟨⟨_, _, _, _, rfl⟩, ⟨rfl, rfl, rfl, by decide +kernel, rfl, by decide +kernel, by decide +kernel⟩, .inl rfl, .inl rfl, by decide, by decide, fun _ _ _ _ _ _ _ _ _ => rfl, fun _ _ _ _ _ _ _ _ _ => rfl⟩
theorem keT : InitTxt iT "at" := ⟨⟨_, _, _, _, rfl⟩, ⟨rfl, rfl, rfl, by decide +kernel, rfl, by decide +kernel, by decide +kernel⟩, .inl rfl, .inl rfl, by decide, by decide, fun _ _ _ _ _ _ _ _ _ => rfl, fun _ _ _ _ _ _ _ _ _ => rfl⟩
def tabsB (K : W.Frag) : Bool := match W.tabIn K "law" with
  | some p => (K.lookup p.2).isNone
  | _ => false
theorem tabs_of {K : W.Frag} (h : tabsB K = true) : ∃ cL PL, W.tabIn K "law" = some (cL, PL) ∧ K.lookup PL = none := by
  unfold tabsB at h
  split at h
  · rename_i p h1
    exact ⟨p.1, p.2, h1, Option.isNone_iff_eq_none.mp h⟩
  · cases h
def kitB (K : W.Frag) (C CP CT CL : Addr) : Bool :=
  decide (W.exmAny K (.ref CP) [.ref CP] = some true) && decide (W.exmAny K (.ref CT) [.ref CP] = some false) && decide (W.exmAny K (.ref CT) [.ref CT] = some true) && decide (W.kitOne K (.ref CP) (.ref CL) = some true) && decide (W.kitOne K (.ref CT) (.ref CL) = some true) &&
  W.notFirst K C (.type "list") && decide (W.kitOne K (.type "list") (.ref C) = some false) && decide (W.findIn K (.ref C) "__ne__" = some (some (.builtin "object.__ne__"))) && decide (W.mroIn K C (.type "object") = some true)
def formsB (K : W.Frag) (d : Addr) : Bool := match K.lookup d with
  | some ⟨_, _, .dict es _, _⟩ => entB es.toList forms && litB es.toList
  | _ => false

theorem all_mk {P : Program} {w : World} {K : W.Frag} {h : Heap} {mg : Str → Option Value} {fa : Addr} {C CP CT CL fI fE fT fR rR iCP iCT dF : Addr} {esF : Array DictEntry} {nF : Nat} {tM : Tok} {restR : List Value} {o_I v_I d_I p_I c_I t_I : Value} {x_I n_I : Option Addr} {y_I : Array (Option Value)} {o_E v_E d_E p_E c_E t_E : Value} {x_E n_E : Option Addr} {y_E : Array (Option Value)} {o_T v_T d_T p_T c_T t_T : Value} {x_T n_T : Option Addr} {y_T : Array (Option Value)} {o_R v_R d_R p_R c_R t_R : Value} {x_R n_R : Option Addr} {y_R : Array (Option Value)} {oiCP viCP diCP piCP ciCP tiCP : Value} {xiCP niCP : Option Addr} {siCP : Array (Option Value)} {oiCT viCT diCT piCT ciCT tiCT : Value} {xiCT niCT : Option Addr} {siCT : Array (Option Value)} {f_isint' : Addr} {o_isint v_isint d_isint p_isint c_isint t_isint : Value} {x_isint n_isint : Option Addr} {s_isint : Array (Option Value)} {f_isnum' : Addr} {o_isnum v_isnum d_isnum p_isnum c_isnum t_isnum : Value} {x_isnum n_isnum : Option Addr} {s_isnum : Array (Option Value)} {f_isbel' : Addr} {o_isbel v_isbel d_isbel p_isbel c_isbel t_isbel : Value} {x_isbel n_isbel : Option Addr} {s_isbel : Array (Option Value)} {f_isseq' : Addr} {o_isseq v_isseq d_isseq p_isseq c_isseq t_isseq : Value} {x_isseq n_isseq : Option Addr} {s_isseq : Array (Option Value)} {f_isname' : Addr} {o_isname v_isname d_isname p_isname c_isname t_isname : Value} {x_isname n_isname : Option Addr} {s_isname : Array (Option Value)} {f_fits' : Addr} {o_fits v_fits d_fits p_fits c_fits t_fits : Value} {x_fits n_fits : Option Addr} {s_fits : Array (Option Value)} {f_isrow' : Addr} {o_isrow v_isrow d_isrow p_isrow c_isrow t_isrow : Value} {x_isrow n_isrow : Option Addr} {s_isrow : Array (Option Value)} {f_word' : Addr} {o_word v_word d_word p_word c_word t_word : Value} {x_word n_word : Option Addr} {s_word : Array (Option Value)} {f_rowof' : Addr} {o_rowof v_rowof d_rowof p_rowof c_rowof t_rowof : Value} {x_rowof n_rowof : Option Addr} {s_rowof : Array (Option Value)} {f_dealt' : Addr} {o_dealt v_dealt d_dealt p_dealt c_dealt t_dealt : Value} {x_dealt n_dealt : Option Addr} {s_dealt : Array (Option Value)} {f_any' : Addr} {o_any v_any d_any p_any c_any t_any : Value} {x_any n_any : Option Addr} {s_any : Array (Option Value)} {f_of' : Addr} {o_of v_of d_of p_of c_of t_of : Value} {x_of n_of : Option Addr} {s_of : Array (Option Value)} {f_prog' : Addr} {o_prog v_prog d_prog p_prog c_prog t_prog : Value} {x_prog n_prog : Option Addr} {s_prog : Array (Option Value)} {f_refd' : Addr} {o_refd v_refd d_refd p_refd c_refd t_refd : Value} {x_refd n_refd : Option Addr} {s_refd : Array (Option Value)} {f_ltext' : Addr} {o_ltext v_ltext d_ltext p_ltext c_ltext t_ltext : Value} {x_ltext n_ltext : Option Addr} {s_ltext : Array (Option Value)} {f_bent' : Addr} {o_bent v_bent d_bent p_bent c_bent t_bent : Value} {x_bent n_bent : Option Addr} {s_bent : Array (Option Value)} {f_law' : Addr} {o_law v_law d_law p_law c_law t_law : Value} {x_law n_law : Option Addr} {s_law : Array (Option Value)}
    (X : K.In h) (G : h.Ns mainGlobals mg) (hfa : mg "law" = some (.ref fa))
    (aC : W.nsIn K mainGlobals "Kind" = some (some (.ref C))) (nI : W.findIn K (.ref C) "__init__" = some (some (.ref fI))) (nE : W.findIn K (.ref C) "__eq__" = some (some (.ref fE))) (nT : W.findIn K (.ref C) "text" = some (some (.ref fT))) (nR : W.findCls K (.ref C) (.type "type") "read" = some (.get (.builtin "staticmethod.__get__") (.ref rR) .none (.ref C))) (rR_ : W.recIn K rR "staticmethod" = some (.ref fR :: restR))
    (l_I : K.lookup fI = some ⟨o_I, x_I, .func (W.fnOf "__init__" "Kind.__init__" (defArgs sInit) (defBody sInit) (defScope sInit) .none v_I d_I p_I n_I c_I t_I), y_I⟩) (g_I : W.codeIn K c_I "Kind.__init__" = true) (k_I : W.keepIn K (.ref fI) = true) (f_I : W.isFn K (.ref fI) = true)
    (l_E : K.lookup fE = some ⟨o_E, x_E, .func (W.fnOf "__eq__" "Kind.__eq__" (defArgs sEq) (defBody sEq) (defScope sEq) .none v_E d_E p_E n_E c_E t_E), y_E⟩) (g_E : W.codeIn K c_E "Kind.__eq__" = true) (k_E : W.keepIn K (.ref fE) = true) (f_E : W.isFn K (.ref fE) = true)
    (l_T : K.lookup fT = some ⟨o_T, x_T, .func (W.fnOf "text" "Kind.text" (defArgs sKText) (defBody sKText) (defScope sKText) .none v_T d_T p_T n_T c_T t_T), y_T⟩) (g_T : W.codeIn K c_T "Kind.text" = true) (k_T : W.keepIn K (.ref fT) = true) (f_T : W.isFn K (.ref fT) = true)
    (l_R : K.lookup fR = some ⟨o_R, x_R, .func (W.fnOf "read" "Kind.read" (defArgs sRead) (defBody sRead) (defScope sRead) .none v_R d_R p_R n_R c_R t_R), y_R⟩) (g_R : W.codeIn K c_R "Kind.read" = true) (k_R : W.keepIn K (.ref fR) = true) (f_R : W.isFn K (.ref fR) = true)
    (aCP : W.nsIn K mainGlobals "InvalidGuest" = some (some (.ref CP))) (bCP : clsB K CP exTail "Exception.__new__" "at" = true) (nCP : W.findIn K (.ref CP) "__init__" = some (some (.ref iCP))) (tCP : W.typeIn K (.ref iCP) = some (.type "function"))
    (lCP : K.lookup iCP = some ⟨oiCP, xiCP, .func (W.fnOf "__init__" "InvalidGuest.__init__" (defArgs iP) (defBody iP) (defScope iP) .none viCP diCP piCP niCP ciCP tiCP), siCP⟩) (cCP : W.codeIn K ciCP "InvalidGuest.__init__" = true) (kCP : W.keepIn K (.ref iCP) = true)
    (aCT : W.nsIn K mainGlobals "InvalidText" = some (some (.ref CT))) (bCT : clsB K CT exTail "Exception.__new__" "at" = true) (nCT : W.findIn K (.ref CT) "__init__" = some (some (.ref iCT))) (tCT : W.typeIn K (.ref iCT) = some (.type "function"))
    (lCT : K.lookup iCT = some ⟨oiCT, xiCT, .func (W.fnOf "__init__" "InvalidText.__init__" (defArgs iT) (defBody iT) (defScope iT) .none viCT diCT piCT niCT ciCT tiCT), siCT⟩) (cCT : W.codeIn K ciCT "InvalidText.__init__" = true) (kCT : W.keepIn K (.ref iCT) = true)
    (hO : ownB K C ["name", "rows"] = true) (aL : W.nsIn K mainGlobals "LightError" = some (some (.ref CL))) (hK : kitB K C CP CT CL = true) (aM : W.nsIn K mainGlobals "MOST_ROWS" = some (some (.int 6 tM))) (aF : W.nsIn K mainGlobals "FORMS" = some (some (.ref dF))) (lF : K.lookup dF = some ⟨.type "dict", none, .dict esF nF, #[]⟩) (kF : W.KeysLit w.params esF.toList) (sF : (dF == sysModules) = false) (hF : formsB K dF = true)
    (e_isint : W.nsIn K mainGlobals "is_integer" = some (some (.ref f_isint'))) (l_isint : K.lookup f_isint' = some ⟨o_isint, x_isint, .func (W.fnOf "is_integer" "is_integer" (defArgs sIsInt) (defBody sIsInt) (defScope sIsInt) .none v_isint d_isint p_isint n_isint c_isint t_isint), s_isint⟩) (g_isint : W.codeIn K c_isint "is_integer" = true) (k_isint : W.keepIn K (.ref f_isint') = true)
    (e_isnum : W.nsIn K mainGlobals "is_number" = some (some (.ref f_isnum'))) (l_isnum : K.lookup f_isnum' = some ⟨o_isnum, x_isnum, .func (W.fnOf "is_number" "is_number" (defArgs sIsNum) (defBody sIsNum) (defScope sIsNum) .none v_isnum d_isnum p_isnum n_isnum c_isnum t_isnum), s_isnum⟩) (g_isnum : W.codeIn K c_isnum "is_number" = true) (k_isnum : W.keepIn K (.ref f_isnum') = true)
    (e_isbel : W.nsIn K mainGlobals "is_below" = some (some (.ref f_isbel'))) (l_isbel : K.lookup f_isbel' = some ⟨o_isbel, x_isbel, .func (W.fnOf "is_below" "is_below" (defArgs sIsBelow) (defBody sIsBelow) (defScope sIsBelow) .none v_isbel d_isbel p_isbel n_isbel c_isbel t_isbel), s_isbel⟩) (g_isbel : W.codeIn K c_isbel "is_below" = true) (k_isbel : W.keepIn K (.ref f_isbel') = true)
    (e_isseq : W.nsIn K mainGlobals "is_sequence" = some (some (.ref f_isseq'))) (l_isseq : K.lookup f_isseq' = some ⟨o_isseq, x_isseq, .func (W.fnOf "is_sequence" "is_sequence" (defArgs sIsSeq) (defBody sIsSeq) (defScope sIsSeq) .none v_isseq d_isseq p_isseq n_isseq c_isseq t_isseq), s_isseq⟩) (g_isseq : W.codeIn K c_isseq "is_sequence" = true) (k_isseq : W.keepIn K (.ref f_isseq') = true)
    (e_isname : W.nsIn K mainGlobals "is_name" = some (some (.ref f_isname'))) (l_isname : K.lookup f_isname' = some ⟨o_isname, x_isname, .func (W.fnOf "is_name" "is_name" (defArgs sIsName) (defBody sIsName) (defScope sIsName) .none v_isname d_isname p_isname n_isname c_isname t_isname), s_isname⟩) (g_isname : W.codeIn K c_isname "is_name" = true) (k_isname : W.keepIn K (.ref f_isname') = true)
    (e_fits : W.nsIn K mainGlobals "_fits" = some (some (.ref f_fits'))) (l_fits : K.lookup f_fits' = some ⟨o_fits, x_fits, .func (W.fnOf "_fits" "_fits" (defArgs sFits) (defBody sFits) (defScope sFits) .none v_fits d_fits p_fits n_fits c_fits t_fits), s_fits⟩) (g_fits : W.codeIn K c_fits "_fits" = true) (k_fits : W.keepIn K (.ref f_fits') = true)
    (e_isrow : W.nsIn K mainGlobals "is_program_row" = some (some (.ref f_isrow'))) (l_isrow : K.lookup f_isrow' = some ⟨o_isrow, x_isrow, .func (W.fnOf "is_program_row" "is_program_row" (defArgs sIsRow) (defBody sIsRow) (defScope sIsRow) .none v_isrow d_isrow p_isrow n_isrow c_isrow t_isrow), s_isrow⟩) (g_isrow : W.codeIn K c_isrow "is_program_row" = true) (k_isrow : W.keepIn K (.ref f_isrow') = true)
    (e_word : W.nsIn K mainGlobals "_word_of" = some (some (.ref f_word'))) (l_word : K.lookup f_word' = some ⟨o_word, x_word, .func (W.fnOf "_word_of" "_word_of" (defArgs sWordOf) (defBody sWordOf) (defScope sWordOf) .none v_word d_word p_word n_word c_word t_word), s_word⟩) (g_word : W.codeIn K c_word "_word_of" = true) (k_word : W.keepIn K (.ref f_word') = true)
    (e_rowof : W.nsIn K mainGlobals "_row_of" = some (some (.ref f_rowof'))) (l_rowof : K.lookup f_rowof' = some ⟨o_rowof, x_rowof, .func (W.fnOf "_row_of" "_row_of" (defArgs sRowOf) (defBody sRowOf) (defScope sRowOf) .none v_rowof d_rowof p_rowof n_rowof c_rowof t_rowof), s_rowof⟩) (g_rowof : W.codeIn K c_rowof "_row_of" = true) (k_rowof : W.keepIn K (.ref f_rowof') = true)
    (e_dealt : W.nsIn K mainGlobals "_law_deal" = some (some (.ref f_dealt'))) (l_dealt : K.lookup f_dealt' = some ⟨o_dealt, x_dealt, .func (W.fnOf "_law_deal" "_law_deal" (defArgs sDeal) (defBody sDeal) (defScope sDeal) .none v_dealt d_dealt p_dealt n_dealt c_dealt t_dealt), s_dealt⟩) (g_dealt : W.codeIn K c_dealt "_law_deal" = true) (k_dealt : W.keepIn K (.ref f_dealt') = true)
    (e_any : W.nsIn K mainGlobals "_law_draw" = some (some (.ref f_any'))) (l_any : K.lookup f_any' = some ⟨o_any, x_any, .func (W.fnOf "_law_draw" "_law_draw" (defArgs sAny) (defBody sAny) (defScope sAny) .none v_any d_any p_any n_any c_any t_any), s_any⟩) (g_any : W.codeIn K c_any "_law_draw" = true) (k_any : W.keepIn K (.ref f_any') = true)
    (e_of : W.nsIn K mainGlobals "_law_pick" = some (some (.ref f_of'))) (l_of : K.lookup f_of' = some ⟨o_of, x_of, .func (W.fnOf "_law_pick" "_law_pick" (defArgs sOf) (defBody sOf) (defScope sOf) .none v_of d_of p_of n_of c_of t_of), s_of⟩) (g_of : W.codeIn K c_of "_law_pick" = true) (k_of : W.keepIn K (.ref f_of') = true)
    (e_prog : W.nsIn K mainGlobals "_law_program" = some (some (.ref f_prog'))) (l_prog : K.lookup f_prog' = some ⟨o_prog, x_prog, .func (W.fnOf "_law_program" "_law_program" (defArgs sProgram) (defBody sProgram) (defScope sProgram) .none v_prog d_prog p_prog n_prog c_prog t_prog), s_prog⟩) (g_prog : W.codeIn K c_prog "_law_program" = true) (k_prog : W.keepIn K (.ref f_prog') = true)
    (e_refd : W.nsIn K mainGlobals "_law_wrong" = some (some (.ref f_refd'))) (l_refd : K.lookup f_refd' = some ⟨o_refd, x_refd, .func (W.fnOf "_law_wrong" "_law_wrong" (defArgs sWrong) (defBody sWrong) (defScope sWrong) .none v_refd d_refd p_refd n_refd c_refd t_refd), s_refd⟩) (g_refd : W.codeIn K c_refd "_law_wrong" = true) (k_refd : W.keepIn K (.ref f_refd') = true)
    (e_ltext : W.nsIn K mainGlobals "_law_text" = some (some (.ref f_ltext'))) (l_ltext : K.lookup f_ltext' = some ⟨o_ltext, x_ltext, .func (W.fnOf "_law_text" "_law_text" (defArgs sText) (defBody sText) (defScope sText) .none v_ltext d_ltext p_ltext n_ltext c_ltext t_ltext), s_ltext⟩) (g_ltext : W.codeIn K c_ltext "_law_text" = true) (k_ltext : W.keepIn K (.ref f_ltext') = true)
    (e_bent : W.nsIn K mainGlobals "_law_bent" = some (some (.ref f_bent'))) (l_bent : K.lookup f_bent' = some ⟨o_bent, x_bent, .func (W.fnOf "_law_bent" "_law_bent" (defArgs sBent) (defBody sBent) (defScope sBent) .none v_bent d_bent p_bent n_bent c_bent t_bent), s_bent⟩) (g_bent : W.codeIn K c_bent "_law_bent" = true) (k_bent : W.keepIn K (.ref f_bent') = true)
    (e_law : W.nsIn K mainGlobals "law" = some (some (.ref f_law'))) (l_law : K.lookup f_law' = some ⟨o_law, x_law, .func (W.fnOf "law" "law" (defArgs sLaw) (defBody sLaw) (defScope sLaw) .none v_law d_law p_law n_law c_law t_law), s_law⟩) (g_law : W.codeIn K c_law "law" = true) (k_law : W.keepIn K (.ref f_law') = true)
    (hT : tabsB K = true)
    (z_len : W.nsIn K mainGlobals "len" = some none)
    (z_abs : W.nsIn K mainGlobals "abs" = some none)
    (z_int : W.nsIn K mainGlobals "int" = some none)
    (z_range : W.nsIn K mainGlobals "range" = some none)
    (z_list : W.nsIn K mainGlobals "list" = some none)
    (z_tuple : W.nsIn K mainGlobals "tuple" = some none)
    (z_isinstance : W.nsIn K mainGlobals "isinstance" = some none)
    (z_enumerate : W.nsIn K mainGlobals "enumerate" = some none)
    (z_str : W.nsIn K mainGlobals "str" = some none)
    (z_bool : W.nsIn K mainGlobals "bool" = some none)
    (z_all : W.nsIn K mainGlobals "all" = some none)
    (z_repr : W.nsIn K mainGlobals "repr" = some none) :
    ∃ cs : List (Addr × Addr), (∀ p ∈ cs, K.lookup p.2 = none ∧ ∃ x ∈ (["law"] : List Str), W.tabIn K x = some p) ∧
    ∀ (s : Shared) (a : Addr) (ns : List Int) (base : Heap) (H : Hp), ns.length ≤ 63 → K.In base → base.Ns mainGlobals mg → (∀ p ∈ cs, TabB base mg p.1 p.2) → Env0 P w K mg base callerA [] s H → (∀ p ∈ cs, H p.2 = some (.tbl #[])) → SqL K H a (ns.map V.int) →
      codeAny (model P w) callerA (.call (.ref fa) ⟨[.ref a], []⟩) (CR CX0 [] P w H s (fun v _ => v = .bl true) E0) s := by
  have e := hfa.symm.trans (W.mg_of X G e_law)
  cases e
  obtain ⟨cL, PL, tL, uL⟩ := tabs_of hT
  refine ⟨[(cL, PL)], fun p hp => ?_, fun s a ns base H few _ _ TB e0 h0 sq => ?_⟩
  · simp only [List.mem_cons, List.not_mem_nil, or_false] at hp
    rcases hp with rfl
    exact ⟨uL, "law", by simp, tL⟩
  have TL := TB (cL, PL) (by simp)
  have tabs : Tabs [(PL, qL)] H := fun p hp => by
    simp only [List.mem_cons, List.not_mem_nil, or_false] at hp
    rcases hp with rfl
    exact .nil (h0 (cL, PL) (by simp))
  have huL : ∀ p ∈ [(PL, qL)], p.1 = PL → p.2 = qL := fun p hp e => by
    simp only [List.mem_cons, List.not_mem_nil, or_false] at hp
    rcases hp with rfl
    rfl
  have B : Bl mg := ⟨W.mg_none_of X G z_len, W.mg_none_of X G z_abs, W.mg_none_of X G z_int, W.mg_none_of X G z_range, W.mg_none_of X G z_list, W.mg_none_of X G z_tuple, W.mg_none_of X G z_isinstance, W.mg_none_of X G z_enumerate, W.mg_none_of X G z_str, W.mg_none_of X G z_bool, W.mg_none_of X G z_all, W.mg_none_of X G z_repr⟩
  have ow := own_of hO
  unfold kitB at hK
  simp only [Bool.and_eq_true, decide_eq_true_eq] at hK
  obtain ⟨⟨⟨⟨⟨⟨⟨⟨q1, q2⟩, q3⟩, q4⟩, q5⟩, q6⟩, q7⟩, q8⟩, q9⟩ := hK
  have cP : CE P w K mg base "InvalidGuest" CP "at" := cl1_mk X G aCP bCP nCP tCP lCP cCP kCP keP exE tail_Exception exS
  have cT' : CE P w K mg base "InvalidText" CT "at" := cl1_mk X G aCT bCT nCT tCT lCT cCT kCT keT exE tail_Exception exS
  have two : Two P w K mg base CP CT CL := ⟨cP, cT', ow.cg, q1, q2, q3, W.mg_of X G aL, q4, q5⟩
  have mC := W.mg_of X G aC
  have na1 := ow.no "name" (by simp)
  have na2 := ow.no "rows" (by simp)
  unfold formsB at hF
  rw [lF] at hF
  simp only [Bool.and_eq_true] at hF
  have Fo : FormsK K w mg := ⟨dF, esF, nF, W.mg_of X G aF, ⟨lF, kF, sF⟩, forms_look lF hF.1 hF.2⟩
  have cInt : Callee P w K mg base "is_integer" 1 ["value"] (spIsInt) := callee_mk (st := sIsInt) X G e_isint l_isint g_isint k_isint (fun _ _ _ _ _ _ us hl => match us, hl with | [_], _ => rfl) (fun cdv _ F => ok_isint F B)
  have cNum : Callee P w K mg base "is_number" 2 ["value"] (spIsNum) := callee_mk (st := sIsNum) X G e_isnum l_isnum g_isnum k_isnum (fun _ _ _ _ _ _ us hl => match us, hl with | [_], _ => rfl) (fun cdv _ F => ok_isnum F cInt)
  have cBel : Callee P w K mg base "is_below" 3 ["value", "many"] (spBelow) := callee_mk (st := sIsBelow) X G e_isbel l_isbel g_isbel k_isbel (fun _ _ _ _ _ _ us hl => match us, hl with | [_, _], _ => rfl) (fun cdv _ F => ok_isbelow F cNum)
  have cSeq : Callee P w K mg base "is_sequence" 1 ["value"] (spSeq) := callee_mk (st := sIsSeq) X G e_isseq l_isseq g_isseq k_isseq (fun _ _ _ _ _ _ us hl => match us, hl with | [_], _ => rfl) (fun cdv _ F => ok_isseq F B)
  have cName : Callee P w K mg base "is_name" 1 ["value"] (spName) := callee_mk (st := sIsName) X G e_isname l_isname g_isname k_isname (fun _ _ _ _ _ _ us hl => match us, hl with | [_], _ => rfl) (fun cdv _ F => ok_isname F B)
  have cFits : Callee P w K mg base "_fits" 4 ["sign", "value", "many"] (spFits) := callee_mk (st := sFits) X G e_fits l_fits g_fits k_fits (fun _ _ _ _ _ _ us hl => match us, hl with | [_, _, _], _ => rfl) (fun cdv _ F => ok_fits F cName cBel)
  have cRow : Callee P w K mg base "is_program_row" 5 ["row", "many"] (spRow) := callee_mk (st := sIsRow) X G e_isrow l_isrow g_isrow k_isrow (fun _ _ _ _ _ _ us hl => match us, hl with | [_, _], _ => rfl) (fun cdv _ F => ok_isrow F B Fo cSeq cFits)
  have cWord : Callee P w K mg base "_word_of" 1 ["part"] (spWord) := callee_mk (st := sWordOf) X G e_word l_word g_word k_word (fun _ _ _ _ _ _ us hl => match us, hl with | [_], _ => rfl) (fun cdv _ F => ok_word F B (W.mg_none_of X G z_int))
  have cRowOf : Callee P w K mg base "_row_of" 2 ["line"] (spRowOf) := callee_mk (st := sRowOf) X G e_rowof l_rowof g_rowof k_rowof (fun _ _ _ _ _ _ us hl => match us, hl with | [_], _ => rfl) (fun cdv _ F => ok_rowof F cWord)
  have cDealt : Callee P w K mg base "_law_deal" 1 ["script", "base"] (spDealt K) := callee_mk (st := sDeal) X G e_dealt l_dealt g_dealt k_dealt (fun _ _ _ _ _ _ us hl => match us, hl with | [_, _], _ => rfl) (fun cdv _ F => ok_dealt F B)
  have cAny : Callee P w K mg base "_law_draw" 1 ["deal", "bound"] (spAny) := callee_mk (st := sAny) X G e_any l_any g_any k_any (fun _ _ _ _ _ _ us hl => match us, hl with | [_, _], _ => rfl) (fun cdv _ F => ok_any F B)
  have cOf : Callee P w K mg base "_law_pick" 2 ["deal", "some"] (spOf) := callee_mk (st := sOf) X G e_of l_of g_of k_of (fun _ _ _ _ _ _ us hl => match us, hl with | [_, _], _ => rfl) (fun cdv _ F => ok_of F B cAny)
  have cProg : Callee P w K mg base "_law_program" 3 ["deal", "doors", "cells", "many"] (spProgram) := callee_mk (st := sProgram) X G e_prog l_prog g_prog k_prog (fun _ _ _ _ _ _ us hl => match us, hl with | [_, _, _, _], _ => rfl) (fun cdv _ F => ok_program F B cAny cOf)
  have cBent : Callee P w K mg base "_law_bent" 3 ["deal", "many"] (spBent) := callee_mk (st := sBent) X G e_bent l_bent g_bent k_bent (fun _ _ _ _ _ _ us hl => match us, hl with | [_, _], _ => rfl) (fun cdv _ F => ok_bent F B cOf)
  have cLText : Callee P w K mg base "_law_text" 1 ["name", "rows"] (spLawText) := callee_mk (st := sText) X G e_ltext l_ltext g_ltext k_ltext (fun _ _ _ _ _ _ us hl => match us, hl with | [_, _], _ => rfl) (fun cdv _ F => ok_lawtext F B)
  have fI' := fun_mk (st := sInit) l_I g_I k_I
  have fE' := fun_mk (st := sEq) l_E g_E k_E
  have fT' := fun_mk (st := sKText) l_T g_T k_T
  have fR' := fun_mk (st := sRead) l_R g_R k_R
  have mk : Mk K C fI := ⟨ow.makes, nI, f_I, ow.kp⟩
  have bI := fI'.binds (ps := ["self", "name", "rows"]) (fun _ _ _ _ _ _ us hl => match us, hl with | [_, _, _], _ => rfl)
  have okI := ok_init (P := P) (w := w) (mg := mg) (base := base) fI' B (W.mg_of X G aM) ow.cl na1 na2 cP cName cSeq cRow
  have okR := ok_read (P := P) (w := w) (mg := mg) (base := base) (CG := CP) fR' B cT' cRowOf mC mk bI okI
  have sm : SMet K C (.type "type") "read" rR fR := ⟨nR, ⟨_, rR_⟩, k_R⟩
  have pc : KindC P w K mg base C CP CT := ⟨mC, ⟨fI, _, mk, bI, okI⟩, ⟨_, rR, fR, _, ow.rd, sm, fR'.binds (fun _ _ _ _ _ _ us hl => match us, hl with | [_], _ => rfl), okR⟩⟩
  have rf : Refd P w K mg base CP CT CL := ⟨two, B, _, _, _, _, _, _, _, _, _, _, W.mg_of X G e_refd, k_refd, l_refd, g_refd⟩
  have D : Defs P w K mg base C CP CT CL [(PL, qL)] := {
    dealt := cDealt
    any := cAny
    of := cOf
    program := cProg
    bent := cBent
    ltext := cLText
    refd := rf
    kc := pc
    initK := ⟨fI, _, mk, ⟨fun s us ws _ h1 h2 => .of_eq (match us, ws, h1, h2 with | [_], [_, _], _, _ => rfl), fun r1 r2 => r1.append r2⟩, okI⟩
    readK := ⟨_, rR, fR, _, ow.rd, sm, ⟨fun s us ws _ hl => .of_eq (match us, ws, hl with | [], [_], _ => rfl), rel1⟩, okR⟩
    text := ⟨fT, _, ⟨nT, f_T, k_T⟩, fT'.binds (fun _ _ _ _ _ _ us hl => match us, hl with | [_], _ => rfl), ok_text fT' B ow.cl na1 na2⟩
    eq := ⟨fE, _, nE, f_E, fE'.binds (fun _ _ _ _ _ _ us hl => match us, hl with | [_, _], _ => rfl), ok_eq fE' B ow.cl na1 na2 mC ow.ty ow.self⟩
    ne := q8
    ob := q9
    cl := ow.cl
    na1 := na1
    na2 := na2
    ns := q6
    ks := q7 }
  have fl := fun_mk (st := sLaw) l_law g_law k_law
  exact law_ok fl (code_of e_law l_law tL) TL (by simp) huL B D e0 (fl.binds (ps := ["script"]) (fun _ _ _ _ _ _ us hl => match us, hl with | [_], _ => rfl)) tabs sq few
end K08

open PySem PySem.W PyProof.Rows in
set_option maxRecDepth 100000 in
set_option maxHeartbeats 0 in
theorem PySem.Challenge.cw_lightsout_k08_kinds_and_their_texts_holds : PySem.Challenge.rw_lightsout_k08_kinds_and_their_texts.Holds := by
  w_on; o_law; k_head; (case hw => w_witness2)
  k_fill
  refine Cal.walkT (l := PySem.Challenge.rw_lightsout_k08_kinds_and_their_texts) (n := 63) ["law"] rfl (by decide) rfl (fun w h Y => PySem.W.km_in_of Y) (by decide +kernel) ?F
  case F =>
    intro w mg fa h KX G hmg
    refine' K08.all_mk KX G hmg ?aC ?nI ?nE ?nT ?nR ?rR_ ?l_I ?g_I ?k_I ?f_I ?l_E ?g_E ?k_E ?f_E ?l_T ?g_T ?k_T ?f_T ?l_R ?g_R ?k_R ?f_R ?aCP ?bCP ?nCP ?tCP ?lCP ?cCP ?kCP ?aCT ?bCT ?nCT ?tCT ?lCT ?cCT ?kCT ?hO ?aL ?hK ?aM ?aF ?lF ?kF ?sF ?hF ?e_isint ?l_isint ?g_isint ?k_isint ?e_isnum ?l_isnum ?g_isnum ?k_isnum ?e_isbel ?l_isbel ?g_isbel ?k_isbel ?e_isseq ?l_isseq ?g_isseq ?k_isseq ?e_isname ?l_isname ?g_isname ?k_isname ?e_fits ?l_fits ?g_fits ?k_fits ?e_isrow ?l_isrow ?g_isrow ?k_isrow ?e_word ?l_word ?g_word ?k_word ?e_rowof ?l_rowof ?g_rowof ?k_rowof ?e_dealt ?l_dealt ?g_dealt ?k_dealt ?e_any ?l_any ?g_any ?k_any ?e_of ?l_of ?g_of ?k_of ?e_prog ?l_prog ?g_prog ?k_prog ?e_refd ?l_refd ?g_refd ?k_refd ?e_ltext ?l_ltext ?g_ltext ?k_ltext ?e_bent ?l_bent ?g_bent ?k_bent ?e_law ?l_law ?g_law ?k_law ?hT ?z_len ?z_abs ?z_int ?z_range ?z_list ?z_tuple ?z_isinstance ?z_enumerate ?z_str ?z_bool ?z_all ?z_repr
    (case aC => k_is)
    (case nI => k_is)
    (case nE => k_is)
    (case nT => k_is)
    (case nR => k_is)
    (case rR_ => k_is)
    (case l_I => k_is)
    (case g_I => k_is)
    (case k_I => k_is)
    (case f_I => k_is)
    (case l_E => k_is)
    (case g_E => k_is)
    (case k_E => k_is)
    (case f_E => k_is)
    (case l_T => k_is)
    (case g_T => k_is)
    (case k_T => k_is)
    (case f_T => k_is)
    (case l_R => k_is)
    (case g_R => k_is)
    (case k_R => k_is)
    (case f_R => k_is)
    (case aCP => k_is)
    (case bCP => kernel_rfl)
    (case nCP => k_is)
    (case tCP => k_is)
    (case lCP => k_is)
    (case cCP => k_is)
    (case kCP => k_is)
    (case aCT => k_is)
    (case bCT => kernel_rfl)
    (case nCT => k_is)
    (case tCT => k_is)
    (case lCT => k_is)
    (case cCT => k_is)
    (case kCT => k_is)
    (case hO => kernel_rfl)
    (case aL => k_is)
    (case hK => kernel_rfl)
    (case aM => k_is)
    (case aF => k_is)
    (case lF => k_is)
    (case kF => k_keys)
    (case sF => decide +kernel)
    (case hF => kernel_rfl)
    (case e_isint => k_is)
    (case l_isint => k_is)
    (case g_isint => k_is)
    (case k_isint => k_is)
    (case e_isnum => k_is)
    (case l_isnum => k_is)
    (case g_isnum => k_is)
    (case k_isnum => k_is)
    (case e_isbel => k_is)
    (case l_isbel => k_is)
    (case g_isbel => k_is)
    (case k_isbel => k_is)
    (case e_isseq => k_is)
    (case l_isseq => k_is)
    (case g_isseq => k_is)
    (case k_isseq => k_is)
    (case e_isname => k_is)
    (case l_isname => k_is)
    (case g_isname => k_is)
    (case k_isname => k_is)
    (case e_fits => k_is)
    (case l_fits => k_is)
    (case g_fits => k_is)
    (case k_fits => k_is)
    (case e_isrow => k_is)
    (case l_isrow => k_is)
    (case g_isrow => k_is)
    (case k_isrow => k_is)
    (case e_word => k_is)
    (case l_word => k_is)
    (case g_word => k_is)
    (case k_word => k_is)
    (case e_rowof => k_is)
    (case l_rowof => k_is)
    (case g_rowof => k_is)
    (case k_rowof => k_is)
    (case e_dealt => k_is)
    (case l_dealt => k_is)
    (case g_dealt => k_is)
    (case k_dealt => k_is)
    (case e_any => k_is)
    (case l_any => k_is)
    (case g_any => k_is)
    (case k_any => k_is)
    (case e_of => k_is)
    (case l_of => k_is)
    (case g_of => k_is)
    (case k_of => k_is)
    (case e_prog => k_is)
    (case l_prog => k_is)
    (case g_prog => k_is)
    (case k_prog => k_is)
    (case e_refd => k_is)
    (case l_refd => k_is)
    (case g_refd => k_is)
    (case k_refd => k_is)
    (case e_ltext => k_is)
    (case l_ltext => k_is)
    (case g_ltext => k_is)
    (case k_ltext => k_is)
    (case e_bent => k_is)
    (case l_bent => k_is)
    (case g_bent => k_is)
    (case k_bent => k_is)
    (case e_law => k_is)
    (case l_law => k_is)
    (case g_law => k_is)
    (case k_law => k_is)
    (case hT => kernel_rfl)
    (case z_len => k_is)
    (case z_abs => k_is)
    (case z_int => k_is)
    (case z_range => k_is)
    (case z_list => k_is)
    (case z_tuple => k_is)
    (case z_isinstance => k_is)
    (case z_enumerate => k_is)
    (case z_str => k_is)
    (case z_bool => k_is)
    (case z_all => k_is)
    (case z_repr => k_is)
#print axioms PySem.Challenge.cw_lightsout_k08_kinds_and_their_texts_holds

