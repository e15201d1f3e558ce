import PyProof.Rows.All
import Wide.All
import OpenK.AllK
import Wide.FinOn
import HandS.Base
import HandS.Call
import HandS.List
import HandS.Ends
import HandS.Words
import PyProof.ReprRoads
import KE.KExcInit
import KE.KExcIs
import HandS.Exc
import HandS.ExcInit
import KE.KFromBytes
import HandS.IsInst
import HandS.TryOnly
import HandS.WordsExc
import HandS.Comp
import HandS.Iter
import HandS.Walk
import HandS.WordsList
import HandS.ExcField
import KE.KExcLine
import KE.RegKIsAll
import PySem.Challenge.RW_lightsout_k00_errors_and_what_they_keep
set_option Elab.async false
set_option linter.all false
set_option maxRecDepth 100000
set_option maxHeartbeats 8000000
/-! The law's own def, run from the law's caller alone: what its body knows more is that no repr runs around it. -/
namespace Cal
open PySem PySem.Spec PyProof.Rows L2

/-- what the law's call wants -/
abbrev Won (P : Program) (w : World) (s : Shared) (fa a : Addr) : Prop :=
  codeAny (model P w) callerA (.call (.ref fa) ⟨[.ref a], []⟩)
    (fun r s' => r = .ok (.ret (.bool true)) ∧ OldK s.heap s'.heap ∧ s'.os = s.os ∧ AllBare s'.gens) s

theorem won {P : Program} {w : World} {K : PySem.W.Frag} {mg mb : Str → Option Value} {fa a : Addr} {s : Shared} {vs : List Value} {ns : List Int}
    (kIn : K.In s.heap) (glo : s.heap.Ns mainGlobals mg) (bns : s.heap.Ns builtinsNs mb) (bbo : ∀ x : Str, x ≠ "__name__" → mb x = bootBuiltins x)
    (lim : s.heap.NoLimit) (gen : s.gens = #[]) (obj : s.heap.get? a = some { cls := .type "list", data := .seq vs.toArray })
    (its : IntsAre vs ns) (few : ns.length ≤ sizeLine)
    (run : ∀ (base : Heap) (H : Hp), K.In base → base.Ns mainGlobals mg → Env0 P w K mg base callerA [] s H → Only H → SqL K H a (ns.map V.int) →
      codeAny (model P w) callerA (.call (.ref fa) ⟨[.ref a], []⟩) (CR CX0 [] P w H s (fun v _ => v = .bl true) E0) s) :
    Won P w s fa a := by
  have vals := vals_ints its
  have size := its.length
  suffices main : ∀ H : Hp, Only H → SqL K H a (ns.map V.int) → HOk P w H s.heap → (∀ b, H b ≠ none → b = a ∧ K.lookup a = none) → Won P w s fa a by
    cases look : K.lookup a with
    | some o =>
      have o2 := kIn a o look
      rw [obj] at o2
      obtain rfl := Option.some.inj o2
      refine main (fun _ => none) (fun _ => Or.inl rfl) (Or.inr ⟨_, vs.toArray, _, look, rfl, rfl, rfl, ?_, ?_⟩) (fun b u z => nomatch z) (fun b z => (z rfl).elim)
      · simpa [size] using few
      · simpa using vals
    | none =>
      let H : Hp := fun b => if b = a then some (.frz { cls := .type "list", data := .seq vs.toArray } (.lst (ns.map V.int))) else none
      have at_a : H a = some (.frz { cls := .type "list", data := .seq vs.toArray } (.lst (ns.map V.int))) := if_pos rfl
      have off : ∀ {b}, b ≠ a → H b = none := fun z => if_neg z
      refine main H (fun b => ?_) (Or.inl (Or.inr ⟨_, at_a⟩)) (fun b u z => ?_) (fun b z => ?_)
      · by_cases e : b = a
        · subst e
          exact Or.inr ⟨_, _, at_a⟩
        · exact Or.inl (off e)
      · by_cases e : b = a
        · subst e
          rw [at_a] at z
          obtain rfl := Option.some.inj z
          exact ⟨obj, by simpa using few, vs, _, vals, obj⟩
        · rw [off e] at z
          cases z
      · by_cases e : b = a
        · exact ⟨e, look⟩
        · exact (z (off e)).elim
  intro H only sq ok here
  have free : ∀ {b : Addr} {o : Obj}, s.heap.get? b = some o → o.data ≠ .seq vs.toArray → H b = none := fun {b o} e d => by
    rcases only b with z | ⟨_, _, z⟩
    · exact z
    · obtain ⟨rfl, _⟩ := here b (by rw [z]; simp)
      rw [obj] at e
      obtain rfl := Option.some.inj e
      exact (d rfl).elim
  have space : ∀ {b : Addr} {m : Str → Option Value}, s.heap.Ns b m → (hidT s.heap H).Ns b m := fun {b m} ⟨o, es, ep, e, d, r⟩ =>
    ⟨o, es, ep, hidT_get e (free e (by rw [d]; intro z; cases z)), d, r⟩
  have kIn2 : K.In (hidT s.heap H) := fun b o e => hidT_get (kIn b o e) (by
    rcases only b with z | ⟨_, _, z⟩
    · exact z
    · obtain ⟨rfl, n⟩ := here b (by rw [z]; simp)
      rw [n] at e
      cases e)
  obtain ⟨mc, l1, l2⟩ := lim
  have env : Env0 P w K mg (hidT s.heap H) callerA [] s H := {
    frames := rfl
    mod := ⟨kIn2, space glo, ⟨mb, space bns, bbo⟩, ⟨mc, space l1, l2⟩⟩
    bs := fun b o e => of_hidT e
    bsz := Nat.le_of_eq (hidT_size _ _)
    funs := trivial
    frf := fun b hb => by simp [frs] at hb
    hok := ok
    bare := .of_eq gen }
  refine codeAny_mono (run _ H kIn2 (space glo) env only sq) fun r s' z => ?_
  match r, z with
  | .error e, z => exact z.elim
  | .ok .next, z => exact z.elim
  | .ok .brk, z => exact z.elim
  | .ok .cont, z => exact z.elim
  | .ok (.ret u), ⟨v, H', os, bare, un, ok', rv, q⟩ =>
    subst q
    obtain rfl : u = Value.bool true := rv
    refine ⟨rfl, OldK.of_keep fun b o e => ?_, os, bare⟩
    rcases only b with z | ⟨ob, xs, z⟩
    · exact un.keep b o e z (by simp [frs]) (by simp)
    · have y1 := (ok b _ z).1
      have y2 := (ok' b _ (un.frzs b ob _ z)).1
      rw [e] at y1
      obtain rfl := Option.some.inj y1
      exact y2

/-- the goal that k_head leaves, from the law's body run at its caller -/
theorem walk {l : PySem.W.OpenLaw} {n : Nat} {q : Program} {loose : List Str} {XP : (Str → Option Value) → Heap → Prop} {YP : World → Heap → Prop} {d : DefRec} {K : Params → PySem.W.Frag}
    (most : l.most = some n) (few : n ≤ sizeLine) (dfl : d.params.defaults = []) (hY : ∀ (w : World) (h : Heap), YP w h → (K w.params).In h)
    (run : ∀ (w : World) (mg : Str → Option Value) (fa : Addr) (h : Heap), (K w.params).In h → h.Ns mainGlobals mg → mg d.name = some (.ref fa) →
      ∀ (s : Shared) (a : Addr) (ns : List Int) (base : Heap) (H : Hp), ns.length ≤ n → (K w.params).In base → base.Ns mainGlobals mg → Env0 l.prog w (K w.params) mg base callerA [] s H → Only H → SqL (K w.params) H a (ns.map V.int) →
        codeAny (model l.prog w) callerA (.call (.ref fa) ⟨[.ref a], []⟩) (CR CX0 [] l.prog w H s (fun v _ => v = .bl true) E0) s) :
    PySem.W.WalkO q loose XP YP l.row.toRowW d [] (fun f vs => PySem.call f vs) := by
  refine Att.attach_call most dfl fun w s₀ s₁ mg mb fa o pm cd doc a vs ns G Y ho hd hcd hmg hobj hints hlen hg => ?_
  have KX := hY w _ Y
  exact won KX G.T.g G.T.b G.T.builtins G.T.nolimit hg hobj hints (Nat.le_trans hlen few) fun base H b1 b2 e0 only sq => run w mg fa _ KX G.T.g hmg s₁ a ns base H hlen b1 b2 e0 only sq

/-- the law's def, by its body: what a body of Fun.ok is, with the caller told -/
theorem law_run {P : Program} {w : World} {K : PySem.W.Frag} {mg : Str → Option Value} {base : Heap} {x qual : Str} {st : Stmt} {f : Addr} {fd : FuncData} {N ps : List Str} {s : Shared} {H : Hp} {us : List Value} {vs : List V} {Q : VK}
    (F : Fun K x qual st f fd) (S : FnScope N ps (defScope st)) (e0 : Env0 P w K mg base callerA [] s H) (bind : Binds K fd ps []) (r : Vals vs us) (hl : vs.length = ps.length)
    (body : ∀ cdv : Value, ∃ t, PSs (cxOf CX0 P w K mg base N qual (defScope st) f cdv callerA [] s H E0).nox (defBody st) t ∧ t { nx := fun _ H' => Q .non H', rt := Q } (start N vs) H) :
    codeAny (model P w) callerA (.call (.ref f) ⟨us, []⟩) (CR CX0 [] P w H s Q E0) s := by
  obtain ⟨oc, od, kV, doc, pm, an, cdv, ct, osl, rfl, lk, hcd⟩ := F.ex
  obtain ⟨t, ht, hq⟩ := body cdv
  have keep : ∀ b o, base.get? b = some o → s.heap.get? b = some o := fun b o e => (e0.bs b o e).1
  have kIn := e0.mod.kin.keeps keep
  have ul : us.length = ps.length := by rw [← r.length]; exact hl
  have hb := bind s us kIn (by simpa using ul)
  rw [List.append_nil] at hb
  refine codeAny_call_function (by decide) (kIn _ _ lk) rfl S.co S.gen rfl (PySem.W.codeRec_of kIn hcd) (hb _ _ _ _ ?_)
  refine wpAny_newFunctionEnv_cells S.kind (fun ⟨y, v⟩ hy => ?_) fun env he s1 z => ?_
  · have := S.par y (List.of_mem_zip hy).1
    rcases this with q | q
    · exact Or.inl q
    · exact Or.inr ⟨q, PySem.W.cellsFrom_some _ _ _ (Or.inl q)⟩
  · subst he
    refine ⟨(e0.mod.nolimit.keeps keep).keeps z.toInCall.keep, codeAny_func ?_⟩
    have I : Inv (cxOf CX0 P w K mg base N qual (defScope st) f cdv callerA [] s H E0) [] (start N vs) H s1 := inv_start S rfl e0 hl r z
    refine wpAny_mono (ht.nox.run [] s1 _ H _ I hq) (fun fl s' y => ?_) fun _ _ y => y
    match fl, y with
    | .ret u, ⟨v, σ', H', J, rv, q⟩ => exact ⟨v, H', J.os, J.bare, J.base, J.hok, rv, q⟩
    | .next, ⟨σ', H', J, q⟩ => exact ⟨.non, H', J.os, J.bare, J.base, J.hok, rfl, q⟩
    | .brk, ⟨_, _, _, q⟩ => exact q.elim
    | .cont, ⟨_, _, _, q⟩ => exact q.elim

/-- no repr runs around the law's own body -/
theorem calm_guards {P : Program} {w : World} {K : PySem.W.Frag} {mg : Str → Option Value} {base : Heap} {N : List Str} {qual : Str} {sc : Scope} {f : Addr} {cdv : Value} {s : Shared} {H : Hp} :
    (cxOf CX0 P w K mg base N qual sc f cdv callerA [] s H E0).nox.A.guards = some [] := rfl

/-! ### repr of data -/
section
variable {X : Cx}
def rRepr (K : PySem.W.Frag) : List V → Hp → VK → Prop := fun xs H Q =>
  ∃ (x : V) (d : PyData), xs = [x] ∧ Dp K H x d ∧ d.showable = true ∧ d.hasDict = false ∧ d.depth ≤ 20 ∧ d.shown.length ≤ sizeLine ∧ Q (.str d.shown) H
theorem call_repr (gu : X.A.guards = some []) (un : X.A.units + 64 < cLine) : CallR X (.builtin "repr") (rRepr X.K) := by
  intro pins s σ H xs us Q I r h
  obtain ⟨x, d, rfl, dp, sh, nd, de, sz, q⟩ := h
  obtain ⟨u, rfl, r1⟩ := vals1 r
  obtain ⟨as, rd⟩ := Dp.reads I d x u dp r1
  have fin : ∀ (h' : Heap) (v : Tok) (tk : Nat), (∀ b o, s.heap.get? b = some o → h'.get? b = some o) → EP X pins σ Q (.str d.shown v) { s with heap := h', toks := tk } :=
    fun h' v tk k => ⟨.str d.shown, H, I.kept k, ⟨v, rfl⟩, q⟩
  cases dp with
  | non =>
    cases r1
    exact PySem.P.repr_of_none (fin s.heap _ _ fun _ _ e => e)
  | bl b =>
    cases r1
    exact PySem.P.repr_of_bool (fin s.heap _ _ fun _ _ e => e)
  | int i =>
    obtain ⟨t, rfl⟩ := r1
    refine PySem.P.repr_of_int (by simpa [PyData.showable] using sh) ?_
    have := fin s.heap s.toks (s.toks + 1) fun _ _ e => e
    simpa only [PyData.shown] using this
  | str y =>
    obtain ⟨t, rfl⟩ := r1
    have := fin s.heap s.toks (s.toks + 1) fun _ _ e => e
    simp only [PyData.shown] at this sz
    exact PySem.P.repr_of_str this sz
  | lst hs ha =>
    cases r1
    exact repr_of_reads' rd sh (fun z => by rw [nd] at z; cases z) gu (by omega) (fun _ _ e => e) fin sz
  | tup hs ha =>
    cases r1
    exact repr_of_reads' rd sh (fun z => by rw [nd] at z; cases z) gu (by omega) (fun _ _ e => e) fin sz
end
end Cal

/-! An own exception of any built-in base made by a call with positional values and keywords: __new__ lays it, its own __init__ runs. -/
namespace Exn
open PySem PySem.Calls PyProof.Rows PySem.Spec
/-- what the classes above an own exception class must be: the one that makes it, no AttributeError, no NameError -/
structure Tail (bm : List Value) (B : String) : Prop where
  has : bm.contains (.type B) = true
  noA : bm.contains (.type "AttributeError") = false
  noN : bm.contains (.type "NameError") = false
section
variable {M : Model} {A : Around} {E : Value → Shared → Prop} {h : Heap} {g : Array GenState} {d : Drawn} {t : Nat} {os : OsState}
variable {nm q : Str} {C N : Addr} {bs bm bmB : List Value} {hd : Bool} {sn : List Str} {sub : List Value} {ab : Bool} {col : Option Bool} {dd : Option Addr}
  {k0 k1 k2 k3 k5 : Option Value} {B newId initId : String} {prog : Program} {w : World} {R : Result → Shared → Prop}

theorem chk_new (F : ExcBaseFacts B newId initId bmB) (tail : Tail bm B) {us : List Value} {kw : List (Str × Value)} {Q : Unit → Shared → Prop}
    (at_C : h.get? C = some (excClassObj nm q C N bs bm hd sn sub ab col dd k0 k1 k2 k3 k5 newId)) (k : Q () ⟨h, g, d, t, os⟩) :
    wpAny M A (checkBuiltinCall newId ⟨.ref C :: us, kw⟩) Q E ⟨h, g, d, t, os⟩ := by
  have has : (Value.ref C :: bm).contains (.type B) = true := by
    rw [List.contains_cons, tail.has]
    exact Bool.or_true _
  have star := F.noStar
  simp only [F.newRow, F.newSplit, F.newKind, checkBuiltinCall]
  repeat (first
    | refine wpAny_loadPart_at at_C ?_
    | (refine wpAny_isSubtype_exc at_C ?_; rw [has])
    | refine wpAny_staticBase_exc at_C ?_
    | refine wpAny_madeBy_exc at_C ?_
    | simp only [Bool.false_eq_true, bne_self_eq_false, if_false]
    | wp_step)
  exact k

theorem new_kw (F : ExcBaseFacts B newId initId bmB) (tail : Tail bm B) {us : List Value} {kw : List (Str × Value)}
    (at_C : h.get? C = some (excClassObj nm q C N bs bm hd sn sub ab col dd k0 k1 k2 k3 k5 newId)) (few : us.length ≤ sizeLine)
    (k : R (.ok (.ret (.ref (h.objs.size + 1)))) ⟨(h.push (PySem.W.kdv_tup us)).push (PySem.HandSPX.excO C h.objs.size), g, d, t, os⟩) :
    codeAny (model prog w) A (.builtin newId ⟨.ref C :: us, kw⟩) R ⟨h, g, d, t, os⟩ := by
  have e0 := F.ends
  have inB : (Value.ref C :: bm).contains (.type B) = true := by
    rw [List.contains_cons, tail.has]
    exact Bool.or_true _
  have noA : (Value.ref C :: bm).contains (.type "AttributeError") = false := by
    rw [List.contains_cons, tail.noA]
    rfl
  have noN : (Value.ref C :: bm).contains (.type "NameError") = false := by
    rw [List.contains_cons, tail.noN]
    rfl
  refine codeAny_builtinAt F.entry ?_
  unfold Builtin.«BaseException.__new__»
  refine PySem.wpAt_bind ?_
  show PySem.wpAt _ _ _ (stack >>= _) _ _ _
  refine PySem.wpAt_bind (PySem.wpAt_stack fun p below => PySem.wpAt_of_wpAny ?_)
  wp_walk
  refine PySem.wpAt_of_wpAny ?_
  rw [F.owner]
  repeat (first
    | with_reducible refine wpAny_madeHere_exc F.canon at_C ?_
    | with_reducible refine wpAny_loadPart_at at_C ?_
    | (with_reducible refine wpAny_isSubtype_exc at_C ?_; first | rw [inB] | rw [noA] | rw [noN])
    | wp_step)
  show R _ _
  rw [Heap.size_push]
  exact k

/-- C(us, kw): the exception is laid, then its own __init__ runs -/
theorem type_call_kw (F : ExcBaseFacts B newId initId bmB) (tail : Tail bm B) {us : List Value} {kw : List (Str × Value)} {fI : Addr} {Q : Fin → Shared → Prop}
    (at_C : h.get? C = some (excClassObj nm q C N bs bm hd sn sub ab col dd k0 k1 k2 k3 k5 newId)) (few : us.length ≤ sizeLine)
    (init : W.Looks (model prog w) h (typeLookup (.ref C) "__init__") (some (.ref fI))) (bind : ∀ self, W.Looks (model prog w) h (bindSpecial (.ref fI) self) (.ref fI, [self]))
    (k : codeAny (model prog w) A (.call (.ref fI) ⟨.ref (h.objs.size + 1) :: us, kw⟩)
      (fun r s' => match r with | .ok (.ret v) => v = .none ∧ Q (.done (.ret (.ref (h.objs.size + 1)))) s' | .ok _ => False | .error e => E e s')
      ⟨(h.push (W.kdv_tup us)).push (HandSPX.excO C h.objs.size), g, d, t, os⟩) :
    wpAny (model prog w) A (Builtin.«type.__call__» ⟨.ref C :: us, kw⟩) Q E ⟨h, g, d, t, os⟩ := by
  have kept : ∀ b o, h.get? b = some o → ((h.push (W.kdv_tup us)).push (HandSPX.excO C h.objs.size)).get? b = some o :=
    fun b o e => Heap.get?_push_of_some _ (Heap.get?_push_of_some _ e)
  have made : ((h.push (W.kdv_tup us)).push (HandSPX.excO C h.objs.size)).get? (h.objs.size + 1) = some (HandSPX.excO C h.objs.size) := by
    heap_get
  have at_C2 := kept _ _ at_C
  have own : (Value.ref C :: bm).contains (.ref C) = true := by simp
  have init2 := init.keeps kept
  have bind2 := (bind (.ref (h.objs.size + 1))).keeps kept
  repeat (first
    | with_reducible refine wpAny_loadPart_at at_C ?_
    | with_reducible refine wpAny_madeBy_exc at_C ?_
    | wp_step)
  refine codeAny_call_builtin_code (Code.quiet_builtin _ F.quiet) (chk_new F tail at_C (new_kw F tail at_C few ?_))
  show wpAny _ _ _ _ _ _
  unfold isInstance
  repeat (first
    | with_reducible refine wpAny_loadPart_at made ?_
    | (with_reducible refine wpAny_isSubtype_exc at_C2 ?_; rw [own])
    | wp_step)
  show wpAny _ _ (typeLookup (.ref C) _) _ _ _
  refine init2.at (wpAny_holding (wpAny_bind (bind2.at ?_)))
  refine wpAny_bind (wpAny_call (codeAny_mono k fun r s' z => ?_))
  match r, z with
  | .error e, z => exact z
  | .ok .next, z => exact z.elim
  | .ok .brk, z => exact z.elim
  | .ok .cont, z => exact z.elim
  | .ok (.ret v), ⟨e, z⟩ =>
    subst e
    first
      | exact wpAny_pure (wpAny_pure z)
      | (wp_walk; exact z)

theorem call_kw (F : ExcBaseFacts B newId initId bmB) (tail : Tail bm B) {us : List Value} {kw : List (Str × Value)} {fI : Addr}
    (at_C : h.get? C = some (excClassObj nm q C N bs bm hd sn sub ab col dd k0 k1 k2 k3 k5 newId)) (few : us.length ≤ sizeLine)
    (init : W.Looks (model prog w) h (typeLookup (.ref C) "__init__") (some (.ref fI))) (bind : ∀ self, W.Looks (model prog w) h (bindSpecial (.ref fI) self) (.ref fI, [self]))
    (k : codeAny (model prog w) (A.under (.builtin "type.__call__" ⟨.ref C :: us, kw⟩)) (.call (.ref fI) ⟨.ref (h.objs.size + 1) :: us, kw⟩) (W.InitBack (h.objs.size + 1) R)
      ⟨(h.push (W.kdv_tup us)).push (HandSPX.excO C h.objs.size), g, d, t, os⟩) :
    codeAny (model prog w) A (.call (.ref C) ⟨us, kw⟩) R ⟨h, g, d, t, os⟩ := by
  have l1 := tc_lookup
  have l2 := tc_bind (.ref C)
  have ty : (⟨h, g, d, t, os⟩ : Shared).TypeIs (.ref C) "type" := ⟨_, at_C, rfl⟩
  refine codeAny_of_tree ?_
  show wpAny _ _ (callAny (.ref C) _) _ _ _
  repeat (any_goals (first | assumption | with_reducible refine wpAny_loadPart_at at_C ?_ | wp_step))
  refine ⟨rfl, codeAny_call_builtin_at (Code.quiet_builtin _ (by decide +kernel)) entry_typeCall ?_⟩
  have chk : ∀ {Q : Unit → Shared → Prop} {A' : Around} {E' : Value → Shared → Prop}, Q () ⟨h, g, d, t, os⟩ → wpAny (model prog w) A' (checkBuiltinCall "type.__call__" ⟨.ref C :: us, kw⟩) Q E' ⟨h, g, d, t, os⟩ := by
    intro Q A' E' hq
    have l3 := tc_sub
    simp only [tc_split, tc_kind, checkBuiltinCall]
    repeat (any_goals (first | assumption | with_reducible refine wpAny_loadPart_at at_C ?_ | with_reducible refine wpAny_onRaise ?_ | with_reducible refine wpAny_map ?_ | wp_step))
  refine chk (type_call_kw F tail at_C few init bind (codeAny_mono k fun r s' z => ?_))
  match r, z with
  | .error e, z => exact z
  | .ok .next, z => exact z.elim
  | .ok .brk, z => exact z.elim
  | .ok .cont, z => exact z.elim
  | .ok (.ret v), z => exact z
end
end Exn

namespace Exn
open PySem PySem.Spec PyProof.Rows L2

/-- what the written part says of an own exception class over a built-in one, whose mro is bmB; B: the built-in one whose __new__ makes it -/
structure Ecl (K : W.Frag) (C : Addr) (B newId initId : String) (bmB : List Value) : Prop where
  base : ∃ bm, ExcBaseFacts B newId initId bm
  tail : Tail bmB B
  store : ∃ B', StoreFacts B' bmB "object.__setattr__" "object"
  made : W.excInitIn K C bmB newId = true
  over : W.excOver K C bmB = true
  sa : W.findIn K (.ref C) "__setattr__" = some (some (.builtin "object.__setattr__"))
  ga : W.findIn K (.ref C) "__getattribute__" = some (some (.builtin "BaseException.__getattribute__"))
  gt : W.findIn K (.ref C) "__getattr__" = some none
  hd : W.hasDictIn K C = true
  sub : W.subIn K (.ref C) (.type "BaseException") = some true
  ca : W.findIn K (.ref C) "__class__" = some (some (.builtin "object.__class__"))
  mo : W.mroIn K C (.type "object") = some true
  kp : W.keepIn K (.ref C) = true

theorem Tail.of {bm bmB : List Value} {B : String} (t : Tail bmB B) (e : ∀ Y : String, bm.contains (.type Y) = bmB.contains (.type Y)) : Tail bm B := ⟨by rw [e]; exact t.has, by rw [e]; exact t.noA, by rw [e]; exact t.noN⟩
section
variable {prog : Program} {w : World} {A : Around} {E : Value → Shared → Prop} {R : Result → Shared → Prop} {hp : Heap} {g : Array GenState} {d : Drawn} {t : Nat} {os : OsState}
variable {K : W.Frag} {C : Addr} {B newId initId : String} {bmB : List Value}
theorem store_first {x t0 : Addr} {f : Str} {tk : Tok} {v : Value} (T : Ecl K C B newId initId bmB) (X : K.In hp) (at_x : hp.get? x = some (W.excObj C t0 none .none)) (no : W.findIn K (.ref C) f = some none)
    (k : ∀ h' tk' dx, (∀ b o, b ≠ x → hp.get? b = some o → h'.get? b = some o) → hp.objs.size ≤ dx → dx ≠ x → h'.get? x = some (W.excObj C t0 (some dx) .none) → h'.Ns1 dx (fun y => if y = f then some v else none) →
      R (.ok (.ret .none)) ⟨h', g, d, tk', os⟩) :
    codeAny (model prog w) A (.call (.builtin "object.__setattr__") ⟨[.ref x, .str f tk, v], []⟩) R ⟨hp, g, d, t, os⟩ := by
  obtain ⟨cd, hc, hdict⟩ := W.any_some T.hd
  obtain ⟨B', SF⟩ := T.store
  have ne : x ≠ hp.objs.size := Nat.ne_of_lt (Heap.lt_size at_x)
  have I : W.InstAt hp x (W.excObj C t0 none .none) C none := ⟨at_x, rfl, rfl, trivial⟩
  refine W.osa_openX (s := ⟨hp, g, d, t, os⟩) SF X I T.over (NoAttr.taker no) fun b => ?_
  refine wpAny_bind (wpAny_pure (wpAny_bind (W.instanceDict_exc at_x (W.looks_clsIn X hc) hdict ?_)))
  show wpAny _ _ (Builtin.ObjectAttr.storeInDict hp.objs.size (.str f tk) f v) _ _ _
  refine HandSPX.store_in_new ?_ fun h' tk' ns same => ?_
  · refine ⟨_, #[], 0, (Heap.get?_update_ne _ _ _ _ (Ne.symm ne)).trans (Heap.get?_push_at rfl rfl), rfl, fun e he => ?_, fun _ => rfl⟩
    simp at he
  · have px : (hp.push (W.dictOf [] 0)).get? x = some (W.excObj C t0 none .none) := Heap.get?_push_of_some _ at_x
    refine k h' tk' hp.objs.size (fun b o hb ho => ?_) (Nat.le_refl _) (Ne.symm ne) ?_ ns
    · have hb2 : b ≠ hp.objs.size := Nat.ne_of_lt (Heap.lt_size ho)
      rw [same.2 b hb2, Heap.get?_update_ne _ _ _ _ hb]
      exact Heap.get?_push_of_some _ ho
    · rw [same.2 x ne]
      exact Heap.get?_update_self _ px rfl
end

section
variable {X : Cx} {pins : List (Addr × Obj)} {σ : L2.St} {H : Hp} {s : Shared} {A : Around} {E : Value → Shared → Prop}
variable {C : Addr} {B newId initId : String} {bmB : List Value}
/-- self.f = y in an own __init__ -/
theorem keep_one {a : Addr} {f : Str} {y : V} {u : Value} {Q : Unit → Shared → Prop} (T : Ecl X.K C B newId initId bmB) (I : Inv X pins σ H s) (e : H a = some (exo a C none)) (no : W.findIn X.K (.ref C) f = some none) (ry : RelV y u)
    (k : ∀ dx s', H dx = none → dx ≠ a → Inv X pins σ (upd (upd H dx (exd dx [(f, y)])) a (exo a C (some dx))) s' → Q () s') :
    wpAny (model X.prog X.w) A (setAttr (.ref a) f u) Q E s := by
  obtain ⟨t0, at_a⟩ := exo_at I.hok e
  obtain ⟨hp, g, d, t, os⟩ := s
  refine W.set_plain I.kIn (ox := W.excObj C t0 none .none) (od := none) ⟨at_a, rfl, rfl, trivial⟩ T.sa ?_
  refine store_first T I.kIn at_a no fun h' tk' dx keep big ne at_x ns => ?_
  have free : H dx = none := I.hok.fresh big
  have old : ∀ {b : Addr} {o : Obj}, hp.get? b = some o → b ≠ dx := fun {b o} z =>
    Nat.ne_of_lt (Nat.lt_of_lt_of_le (Heap.lt_size z) big)
  have off : ∀ {b : Addr}, H b = none → b ≠ a := fun {b} z y => by
    subst y
    rw [e] at z
    cases z
  have at_d : ∀ {b : Addr} {o : HO}, H b = some o → b ≠ dx := fun {b o} z y => by
    subst y
    rw [free] at z
    cases z
  have un : Un X.fs [] H (upd (upd H dx (exd dx [(f, y)])) a (exo a C (some dx))) hp h' := by
    constructor
    · exact fun b o z n _ _ => keep b o (off n) z
    · exact fun b o z n _ _ => ⟨o.slots, keep b o (off n) z⟩
    · intro b o z n _
      rw [upd_ne (off n), upd_ne (old z)]
      exact n
    · intro b o z _
      by_cases q : b = a
      · exact ⟨_, q ▸ at_x⟩
      · exact ⟨o, keep b o q z⟩
    · intro b xs z
      rw [upd_ne (at_ne e z exo_tup), upd_ne (at_d z)]
      exact z
    · intro b o v z
      rw [upd_ne (at_ne e z exo_frz), upd_ne (at_d z)]
      exact z
    · intro b ps z
      refine ⟨#[], ?_⟩
      rw [upd_ne (at_ne e z exo_tbl), upd_ne (at_d z), z]
      simp
  refine k dx _ free ne (I.un (t' := tk') un fun b o z => ?_)
  by_cases q : b = a
  · subst q
    rw [upd_same] at z
    obtain rfl := Option.some.inj z
    exact exo_ok at_x
  · rw [upd_ne q] at z
    by_cases q2 : b = dx
    · subst q2
      rw [upd_same] at z
      obtain rfl := Option.some.inj z
      exact exd_ok ns (relO_put (fs := []) ry fun _ => True.intro)
    · rw [upd_ne q2] at z
      refine (I.hok b o z).stay (fun c v hc y => keep c v ?_ y) (fun c hc => ?_) (fun c xs hc => ?_)
      · rcases hc with hc | hc
        · exact hc ▸ q
        · exact at_ne e hc exo_own
      · rw [upd_ne (at_ne e hc exo_own), upd_ne (at_d hc)]
        exact hc
      · rw [upd_ne (at_ne e hc exo_tup), upd_ne (at_d hc)]
        exact hc

theorem ps_keep {o e : Expr} {to te : TE} {f : Str} {p' pos : Pos} (T : Ecl X.K C B newId initId bmB) (no : W.findIn X.K (.ref C) f = some none) (ho : PE X o to) (he : PE X e te)
    (hs : swapsWith e (some (.Attribute o f p')) pos.line X.env = pure false := by rfl) :
    PS X (.Assign [.Attribute o f p'] e pos) (fun D σ H => te σ H fun y H1 => to σ H1 fun x H2 => ∃ a, x = .ref a ∧ H2 a = some (exo a C none) ∧
      ∀ dx, H2 dx = none → dx ≠ a → D.nx σ (upd (upd H2 dx (exd dx [(f, y)])) a (exo a C (some dx)))) := by
  refine ⟨fun pins s σ H D I h => plainObj_wpAny_Assign_Attribute ?_ hs⟩
  refine thn (he.run pins s σ H _ I h) fun v s1 ⟨y, H1, I1, r1, q1⟩ => ?_
  refine thn (ho.run pins s1 σ H1 _ I1 q1) fun u s2 ⟨x, H2, I2, r2, a, ex, ea, q⟩ => ?_
  subst ex
  obtain rfl : u = Value.ref a := r2
  exact keep_one T I2 ea no r1 fun dx s' n ne J => ⟨σ, _, J, q dx n ne⟩

/-- such an object stands at a -/
theorem inst_at {a : Addr} {dx : Addr} {fs : List (Str × V)} (I : Inv X pins σ H s) (e : H a = some (exo a C (some dx))) (ed : H dx = some (exd dx fs)) :
    ∃ ox od mA, W.InstAt s.heap a ox C (some od) ∧ s.heap.Ns1 dx mA ∧ s.heap.get? dx = some od ∧ ∀ f, RelO (fs.lookup f) (mA f) := by
  obtain ⟨t0, at_a⟩ := exo_at I.hok e
  obtain ⟨mA, ns, rel⟩ := exd_at I.hok ed
  obtain ⟨o, es, ep, ho, r⟩ := ns
  exact ⟨_, o, mA, ⟨at_a, rfl, rfl, ho⟩, ⟨o, es, ep, ho, r⟩, ho, rel⟩

/-- what an instance of an own exception class is, with a dict of its own or without -/
def Bare (C : Addr) (H : Hp) (a : Addr) : Prop := H a = some (exo a C none) ∨ ∃ dx fs, H a = some (exo a C (some dx)) ∧ H dx = some (exd dx fs)

structure ClsGet (K : W.Frag) : Prop where
  get : W.specialIn K (.builtin "object.__class__") "__get__" = some (some (.builtin "getset_descriptor.__get__"))
  takes : W.takesIn K (.builtin "object.__class__") = some true

theorem cls_some {K : W.Frag} {C : Addr} (h : W.hasDictIn K C = true) : (W.clsIn K C).isSome = true := by
  obtain ⟨cd, hc, _⟩ := W.any_some h
  rw [hc]
  rfl

/-- isinstance(e, c) of such an instance -/
theorem call_isE (T : Ecl X.K C B newId initId bmB) (G : ClsGet X.K) :
    CallR X (.builtin "isinstance") (fun xs H Q => ∃ (a : Addr) (c : V) (u : Value) (b : Bool), xs = [.ref a, c] ∧ ClsV c u ∧ Bare C H a ∧ W.kitOne X.K (.ref C) u = some b ∧ Q (.bl b) H) := by
  intro pins s σ H xs us Q I r h
  obtain ⟨a, c, u, b, rfl, k, bare, e, q⟩ := h
  obtain ⟨u1, u2, rfl, r1, r2⟩ := vals2 r
  have e2 := k.eq r2
  subst e2
  obtain rfl : u1 = Value.ref a := r1
  have fin : ∀ tk, EP X pins σ Q (.bool b) { s with toks := tk } := fun tk => ⟨.bl b, H, I.tok tk, rfl, q⟩
  rcases bare with ea | ⟨dx, fs, ea, ed⟩
  · obtain ⟨t0, at_a⟩ := exo_at I.hok ea
    exact W.kia_one (W.kitx_exc (ox := W.excObj C t0 none .none) (od := none) (cls_some T.hd) T.ga T.gt T.sub T.ca G.get G.takes T.mo) I.kIn ⟨at_a, rfl, rfl, trivial⟩ e (fun z => nomatch z) fin
  · obtain ⟨ox, od, mA, J, _⟩ := inst_at I ea ed
    exact W.kia_one (W.kitx_exc (ox := ox) (od := some od) (cls_some T.hd) T.ga T.gt T.sub T.ca G.get G.takes T.mo) I.kIn J e (fun z => nomatch z) fin

/-- e.f of such an instance -/
theorem pe_at {o : Expr} {to : TE} {f : Str} {pos : Pos} (T : Ecl X.K C B newId initId bmB) (no : W.findIn X.K (.ref C) f = some none) (ho : PE X o to) (hb : attributeBase o f X.env (eval o X.env) = eval o X.env := by rfl) :
    PE X (.Attribute o f pos) (fun σ H Q => to σ H fun x H1 => ∃ a dx fs v, x = .ref a ∧ H1 a = some (exo a C (some dx)) ∧ H1 dx = some (exd dx fs) ∧ fs.lookup f = some v ∧ Q v H1) := by
  refine ⟨fun pins s σ H Q I h => attr_of hb ?_⟩
  refine thn (ho.run pins s σ H _ I h) fun u s1 ⟨x, H1, I1, rx, a, dx, fs, v, ex, ea, ed, l, q⟩ => ?_
  subst ex
  obtain rfl : u = Value.ref a := rx
  obtain ⟨ox, od, mA, J, ns, hod, rel⟩ := inst_at I1 ea ed
  obtain ⟨od', ho', hl⟩ := lookIn_ns ns
  rw [hod] at ho'
  obtain rfl := Option.some.inj ho'
  have r2 := rel f
  rw [l] at r2
  obtain ⟨u', hu, ru⟩ := RelO.some_of (v := v) (o := mA f) r2
  refine HandSPX.exc_get I1.kIn J T.ga T.gt T.sub (W.findObj_own T.hd no rfl ?_) (handed_of ru) ⟨v, H1, I1.tok _, ru, q⟩
  rw [hl, hu]
end
end Exn

namespace Exn
open PySem PySem.Spec PyProof.Rows L2

/-- def __init__(self, f): self.f = f -/
def spKeep (C : Addr) (f : Str) : Sp := fun vs H Q _ => ∃ (a : Addr) (v : V), vs = [.ref a, v] ∧ H a = some (exo a C none) ∧
  ∀ dx, H dx = none → dx ≠ a → Q .non (upd (upd H dx (exd dx [(f, v)])) a (exo a C (some dx)))
/-- def __init__(self): pass -/
def spBare (C : Addr) : Sp := fun vs H Q _ => ∃ a : Addr, vs = [.ref a] ∧ H a = some (exo a C none) ∧ Q .non H

section
variable {P : Program} {w : World} {K : W.Frag} {mg : Str → Option Value} {base : Heap} {C : Addr} {B newId initId : String} {bmB : List Value}
theorem ok_keep {f : Str} {p1 p2 p3 p4 : Pos} {qual : Str} {st : Stmt} {fI : Addr} {fd : FuncData} (F : Fun K "__init__" qual st fI fd) (T : Ecl K C B newId initId bmB) (no : W.findIn K (.ref C) f = some none)
    (hB : defBody st = [.Assign [.Attribute (.Name "self" p1) f p2] (.Name f p3) p4]) (S : FnScope ["self", f] ["self", f] (defScope st)) (v0 : Vis (defScope st) "self") (v1 : Vis (defScope st) f)
    (n1 : (f == ("__debug__" : Str)) = false) (n2 : (f == ("__classdict__" : Str)) = false) : FnOk P w K mg base CX0 1 fI fd ["self", f] (spKeep C f) := by
  refine F.ok S (fun vs H Q E h => ?_) (fun cdv A outer s H vs Q E hr h => ?_)
  · obtain ⟨a, v, rfl, _⟩ := h
    rfl
  · obtain ⟨a, v, rfl, ea, k⟩ := h
    rw [hB]
    refine ⟨_, pss_one (ps_keep T no (pv 0 rfl v0) (pv 1 rfl v1 n1 n2)), ?_⟩
    exact ⟨v, rfl, .ref a, rfl, a, rfl, ea, fun dx n ne => k dx n ne⟩
theorem ok_bare {p4 : Pos} {qual : Str} {st : Stmt} {fI : Addr} {fd : FuncData} (F : Fun K "__init__" qual st fI fd)
    (hB : defBody st = [.Pass p4]) (S : FnScope ["self"] ["self"] (defScope st)) : FnOk P w K mg base CX0 1 fI fd ["self"] (spBare C) := by
  refine F.ok S (fun vs H Q E h => ?_) (fun cdv A outer s H vs Q E hr h => ?_)
  · obtain ⟨a, rfl, _⟩ := h
    rfl
  · obtain ⟨a, rfl, ea, k⟩ := h
    rw [hB]
    exact ⟨_, pss_one ps_pass, k⟩
end

section
variable {X : Cx} {pins : List (Addr × Obj)} {σ : L2.St} {H : Hp} {s : Shared}
variable {C fI : Addr} {B newId initId : String} {bmB : List Value} {k : Nat} {fd : FuncData} {ps : List Str} {sp : Sp}
/-- C(..) of an own exception class: the new exception is handed back -/
theorem run_exn {us ws : List Value} {vs : List V} {kw : List (Str × Value)} {Q : VK} (T : Ecl X.K C B newId initId bmB) (iC : W.findIn X.K (.ref C) "__init__" = some (some (.ref fI))) (tI : W.typeIn X.K (.ref fI) = some (.type "function"))
    (G : FnOk X.prog X.w X.K X.mg X.base CX0 k fI fd ps sp) (hr : Room (k + 1) X.A) (bd : ∀ (s : Shared) (a : Addr), BindsTo s fd ⟨.ref a :: us, kw⟩ (ps.zip (.ref a :: ws))) (r : Vals vs ws) (few : us.length ≤ sizeLine) (I : Inv X pins σ H s)
    (h : ∀ a, H a = none → sp (.ref a :: vs) (upd H a (exo a C none)) (fun v H2 => v = .non ∧ Q (.ref a) H2) E0) :
    wpAny (model X.prog X.w) X.A (call (.ref C) us kw) (EP X pins σ Q) X.xe s := by
  obtain ⟨nm, N, qn, bs, bm, hd, sn, sub, ab, col, dd, k0, k1, k2, k3, k5, at_C, tail⟩ := W.excInit_of I.kIn T.made
  obtain ⟨bm0, base⟩ := T.base
  obtain ⟨hp, g, dr, tk, os⟩ := s
  have big : hp.objs.size ≤ hp.objs.size + 1 := Nat.le_succ _
  have new := h (hp.objs.size + 1) (I.hok.fresh big)
  have kept : ∀ b o, hp.get? b = some o → ((hp.push (W.kdv_tup us)).push (HandSPX.excO C hp.objs.size)).get? b = some o :=
    fun b o e => Heap.get?_push_of_some _ (Heap.get?_push_of_some _ e)
  have made : ((hp.push (W.kdv_tup us)).push (HandSPX.excO C hp.objs.size)).get? (hp.objs.size + 1) = some (HandSPX.excO C hp.objs.size) := by
    heap_get
  have J : Inv X pins σ (upd H (hp.objs.size + 1) (exo (hp.objs.size + 1) C none)) ⟨(hp.push (W.kdv_tup us)).push (HandSPX.excO C hp.objs.size), g, dr, tk, os⟩ :=
    I.laid (t' := tk) kept big (exo_ok made)
  have r2 : Vals (V.ref (hp.objs.size + 1) :: vs) (Value.ref (hp.objs.size + 1) :: ws) := .cons rfl r
  refine wpAny_call (call_kw base (T.tail.of tail) at_C few (W.looks_findIn I.kIn iC) (fun self => W.bind_fn I.kIn self tI) ?_)
  refine codeAny_mono (G.run _ X.stack _ _ ⟨Value.ref (hp.objs.size + 1) :: us, kw⟩ _ _ _ E0 (hr.make C us kw) (J.env0.make C us kw) (bd _ _) r2 new) fun r s' z => ?_
  match r, z with
  | .error e, z => exact z.elim
  | .ok .next, z => exact z.elim
  | .ok .brk, z => exact z.elim
  | .ok .cont, z => exact z.elim
  | .ok (.ret u), z =>
    obtain ⟨v, H', J2, rv, ev, q⟩ := J.after z
    subst ev
    refine ⟨rv, ⟨V.ref (hp.objs.size + 1), H', ?_, rfl, q⟩⟩
    refine ⟨J2.ok, J2.os, J2.bare, J2.base, J2.loc, J2.cell, J2.free, J2.freeC, J2.pin, J2.hok, J2.len⟩
end
end Exn

namespace Exn
open PySem PySem.Spec PyProof.Rows L2

/-- an own exception class whose __init__ keeps one thing, by the name x of the module -/
structure Cl1 (P : Program) (w : World) (K : W.Frag) (mg : Str → Option Value) (base : Heap) (x : Str) (C : Addr) (f : Str) (B newId initId : String) (bmB : List Value) : Prop where
  T : Ecl K C B newId initId bmB
  no : W.findIn K (.ref C) f = some none
  m : mg x = some (.ref C)
  ty : W.typeIn K (.ref C) = some (.type "type")
  run : ∃ fI fd, W.findIn K (.ref C) "__init__" = some (some (.ref fI)) ∧ W.typeIn K (.ref fI) = some (.type "function") ∧ FnOk P w K mg base CX0 1 fI fd ["self", f] (spKeep C f) ∧
    (∀ (s : Shared) (a u : Value), BindsTo s fd ⟨[a, u], []⟩ [("self", a), (f, u)]) ∧ ∀ (s : Shared) (a u : Value), BindsTo s fd ⟨[a], [(f, u)]⟩ [("self", a), (f, u)]

/-- where a made exception stands -/
def made (H : Hp) (C : Addr) (f : Str) (v : V) (a dx : Addr) : Hp := upd (upd H dx (exd dx [(f, v)])) a (exo a C (some dx))
theorem made_eq {H : Hp} {C : Addr} {f : Str} {v : V} {a dx : Addr} (ne : dx ≠ a) : upd (upd (upd H a (exo a C none)) dx (exd dx [(f, v)])) a (exo a C (some dx)) = made H C f v a dx := by
  funext b
  unfold made
  by_cases h1 : b = a
  · rw [h1, upd_same, upd_same]
  · rw [upd_ne h1, upd_ne h1]
    by_cases h2 : b = dx
    · rw [h2, upd_same, upd_same]
    · rw [upd_ne h2, upd_ne h2, upd_ne h1]
/-- C(v): what is asked -/
def tExn (C : Addr) (f : Str) (te : TE) : TE := fun σ H Q => te σ H fun u H1 => ∃ v, [u] = [v] ∧ ∀ a dx, H1 a = none → H1 dx = none → dx ≠ a → Q (.ref a) (made H1 C f v a dx)

section
variable {X : Cx} {C : Addr} {x f : Str} {B newId initId : String} {bmB : List Value} {e : Expr} {te : TE} {p kp pos : Pos}
theorem sp_made {H : Hp} {v : V} {Q : VK} (q : ∀ a dx, H a = none → H dx = none → dx ≠ a → Q (.ref a) (made H C f v a dx)) (a : Addr) (na : H a = none) :
    spKeep C f [.ref a, v] (upd H a (exo a C none)) (fun u H2 => u = .non ∧ Q (.ref a) H2) E0 := by
  refine ⟨a, v, rfl, upd_same, fun dx nd ne => ⟨rfl, ?_⟩⟩
  rw [made_eq ne]
  rw [upd_ne ne] at nd
  exact q a dx na nd ne
theorem pe_exn (c : Cl1 X.prog X.w X.K X.mg X.base x C f B newId initId bmB) (hr : Room 2 X.A) (hg : Gl X x) (he : PE X e te)
    (hdb : (x == ("__debug__" : Str)) = false := by decide) (hs : starEach [e] X.env = (false, eval e X.env) :: starEach [] X.env := by rfl) :
    PE X (.Call (.Name x p) [e] [] pos) (tExn C f te) := by
  obtain ⟨fI, fd, iC, tI, G, b1, b2⟩ := c.run
  refine ⟨fun pins s σ H Q I h => ?_⟩
  refine wpAny_Call_Name_kw (ld_glob I hg c.m ?_ hdb)
  refine W.callWith_K (h₀ := X.base) I.ok.mod.kin c.T.kp (thn ((pa_cons he pa_nil hs).run pos pins s σ H (fun vs H1 => ∃ v, vs = [v] ∧ ∀ a dx, H1 a = none → H1 dx = none → dx ≠ a → Q (.ref a) (made H1 C f v a dx)) I h) fun us s1 ⟨vs, H1, I1, r, v, ev, q⟩ => ⟨I1.kIn, ?_⟩) hs (by rfl)
  subst ev
  obtain ⟨u, rfl, r1⟩ := vals1 r
  exact run_exn c.T iC tI G hr (fun s a => b1 s _ _) (.cons r1 .nil) (by show 1 ≤ sizeLine; decide) I1 fun a na => sp_made q a na
/-- C(f=e) -/
theorem pe_exnK (c : Cl1 X.prog X.w X.K X.mg X.base x C f B newId initId bmB) (hr : Room 2 X.A) (hg : Gl X x) (he : PE X e te)
    (hdb : (x == ("__debug__" : Str)) = false := by decide) (hall : (backToKw pos (keywordEach [⟨some f, e, kp⟩] X.env)).all (·.1.isSome) = true := by rfl)
    (hks : (backToKw pos (keywordEach [⟨some f, e, kp⟩] X.env)).filterMap (·.1) = [f] := by rfl)
    (hpl : ((backTo pos (starEach [] X.env)).any (·.1) || (backToKw pos (keywordEach [⟨some f, e, kp⟩] X.env)).any (·.1.isNone)) = false := by rfl) :
    PE X (.Call (.Name x p) [] [⟨some f, e, kp⟩] pos) (tExn C f te) := by
  obtain ⟨fI, fd, iC, tI, G, b1, b2⟩ := c.run
  refine ⟨fun pins s σ H Q I h => ?_⟩
  refine wpAny_Call_Name_kw (ld_glob I hg c.m ?_ hdb)
  refine W.callWith_KW0 (h₀ := X.base) I.ok.mod.kin c.T.kp hall ?_ hpl
  refine thn ((pk_cons he pk_nil).run pos pins s σ H (fun vs H1 => ∃ v, vs = [v] ∧ ∀ a dx, H1 a = none → H1 dx = none → dx ≠ a → Q (.ref a) (made H1 C f v a dx)) I h) fun us s1 ⟨vs, H1, I1, r, v, ev, q⟩ => ⟨I1.kIn, ?_⟩
  rw [hks]
  subst ev
  obtain ⟨u, rfl, r1⟩ := vals1 r
  exact run_exn (us := []) c.T iC tI G hr (fun s a => b2 s _ _) (.cons r1 .nil) (Nat.zero_le _) I1 fun a na => sp_made q a na
/-- raise C(f=e): what makes it -/
theorem pmk_exnK (c : Cl1 X.prog X.w X.K X.mg X.base x C f B newId initId bmB) (hr : Room 2 X.A) (hg : Gl X x) (he : PE X e te)
    (hdb : (x == ("__debug__" : Str)) = false := by decide) (hall : (backToKw pos (keywordEach [⟨some f, e, kp⟩] X.env)).all (·.1.isSome) = true := by rfl)
    (hks : (backToKw pos (keywordEach [⟨some f, e, kp⟩] X.env)).filterMap (·.1) = [f] := by rfl)
    (hpl : ((backTo pos (starEach [] X.env)).any (·.1) || (backToKw pos (keywordEach [⟨some f, e, kp⟩] X.env)).any (·.1.isNone)) = false := by rfl) :
    PMk X (.Call (.Name x p) [] [⟨some f, e, kp⟩] pos) (fun σ H Q => te σ H fun u H1 => ∃ v, [u] = [v] ∧ ∀ d, H1 d = none → Q (.ref C) (some d) (upd H1 d (.xd [(f, v)]))) := by
  obtain ⟨fI, fd, iC, tI, G, b1, b2⟩ := c.run
  intro pins s σ H Q I h
  refine wpAny_Call_Name_kw (ld_glob I hg c.m ?_ hdb)
  refine W.callWith_KW0 (h₀ := X.base) I.ok.mod.kin c.T.kp hall ?_ hpl
  refine thn ((pk_cons he pk_nil).run pos pins s σ H (fun vs H1 => ∃ v, vs = [v] ∧ ∀ d, H1 d = none → Q (.ref C) (some d) (upd H1 d (.xd [(f, v)]))) I h) fun us s1 ⟨vs, H1, I1, r, v, ev, q⟩ => ⟨I1.kIn, ?_⟩
  rw [hks]
  subst ev
  obtain ⟨u, rfl, r1⟩ := vals1 r
  obtain ⟨nm, N, qn, bs, bm, hd, sn, sub, ab, col, dd, k0, k1, k2, k3, k5, at_C, tail⟩ := W.excInit_of I1.kIn c.T.made
  obtain ⟨bm0, base⟩ := c.T.base
  obtain ⟨hp, g, dr, tk, os⟩ := s1
  have big : hp.objs.size ≤ hp.objs.size + 1 := Nat.le_succ _
  have na : H1 (hp.objs.size + 1) = none := I1.hok.fresh big
  have kept : ∀ b o, hp.get? b = some o → ((hp.push (W.kdv_tup [])).push (HandSPX.excO C hp.objs.size)).get? b = some o :=
    fun b o e => Heap.get?_push_of_some _ (Heap.get?_push_of_some _ e)
  have here : ((hp.push (W.kdv_tup [])).push (HandSPX.excO C hp.objs.size)).get? (hp.objs.size + 1) = some (HandSPX.excO C hp.objs.size) := by
    heap_get
  have J : Inv X pins σ (upd H1 (hp.objs.size + 1) (exo (hp.objs.size + 1) C none)) ⟨(hp.push (W.kdv_tup [])).push (HandSPX.excO C hp.objs.size), g, dr, tk, os⟩ :=
    I1.laid (t' := tk) kept big (exo_ok here)
  have new : spKeep C f [.ref (hp.objs.size + 1), v] (upd H1 (hp.objs.size + 1) (exo (hp.objs.size + 1) C none))
      (fun y H2 => y = .non ∧ ∃ d, H2 = made H1 C f v (hp.objs.size + 1) d ∧ H1 d = none ∧ d ≠ hp.objs.size + 1) E0 := by
    refine ⟨_, v, rfl, upd_same, fun dx nd ne => ⟨rfl, dx, made_eq ne, ?_, ne⟩⟩
    rw [upd_ne ne] at nd
    exact nd
  have r2 : Vals [V.ref (hp.objs.size + 1), v] [Value.ref (hp.objs.size + 1), u] := .cons rfl (.cons r1 .nil)
  refine wpAny_call (call_kw (us := []) base (c.T.tail.of tail) at_C (Nat.zero_le _) (W.looks_findIn I1.kIn iC) (fun self => W.bind_fn I1.kIn self tI) ?_)
  refine codeAny_mono (G.run _ X.stack _ _ ⟨[Value.ref (hp.objs.size + 1)], [(f, u)]⟩ _ _ _ E0 (hr.make C [] [(f, u)]) (J.env0.make C [] [(f, u)]) (b2 _ _ _) r2 new) fun r s' z => ?_
  match r, z with
  | .error e, z => exact z.elim
  | .ok .next, z => exact z.elim
  | .ok .brk, z => exact z.elim
  | .ok .cont, z => exact z.elim
  | .ok (.ret y), z =>
    obtain ⟨v2, H2, os2, bare2, un2, hok2, rv, ev, d, rfl, nd, ne⟩ := z
    subst ev
    obtain ⟨h2, g2, d2, t2, os'⟩ := s'
    have fin := mk_end (X := X) (Q := Q) (d2 := d2) (t2 := t2) (fs := [(f, v)]) (raises_own c.T.sub c.ty) I1 big kept un2 hok2 os2 bare2 upd_same (by unfold made; rw [upd_ne ne, upd_same]) nd (by
      have eq : upd (del (made H1 C f v (hp.objs.size + 1) d) (hp.objs.size + 1)) d (.xd [(f, v)]) = upd H1 d (.xd [(f, v)]) := by
        funext b
        by_cases hb : b = d
        · rw [hb, upd_same, upd_same]
        · rw [upd_ne hb, upd_ne hb]
          by_cases ha : b = hp.objs.size + 1
          · rw [ha, del_same, na]
          · rw [del_ne ha]
            unfold made
            rw [upd_ne ha, upd_ne hb]
      rw [eq]
      exact q d nd)
    exact ⟨rv, fin⟩
end
end Exn

namespace Exn
open PySem PySem.Spec PyProof.Rows L2

/-- an own exception class whose __init__ takes nothing and does nothing -/
structure Cl0 (P : Program) (w : World) (K : W.Frag) (mg : Str → Option Value) (base : Heap) (x : Str) (C : Addr) (B newId initId : String) (bmB : List Value) : Prop where
  T : Ecl K C B newId initId bmB
  m : mg x = some (.ref C)
  run : ∃ fI fd, W.findIn K (.ref C) "__init__" = some (some (.ref fI)) ∧ W.typeIn K (.ref fI) = some (.type "function") ∧ FnOk P w K mg base CX0 1 fI fd ["self"] (spBare C) ∧
    ∀ (s : Shared) (a : Value), BindsTo s fd ⟨[a], []⟩ [("self", a)]
section
variable {X : Cx} {C : Addr} {x f : Str} {B newId initId : String} {bmB : List Value} {p pos : Pos}
theorem pe_exn0 (c : Cl0 X.prog X.w X.K X.mg X.base x C B newId initId bmB) (hr : Room 2 X.A) (hg : Gl X x) (hdb : (x == ("__debug__" : Str)) = false := by decide) :
    PE X (.Call (.Name x p) [] [] pos) (fun σ H Q => ∀ a, H a = none → Q (.ref a) (upd H a (exo a C none))) := by
  obtain ⟨fI, fd, iC, tI, G, b1⟩ := c.run
  refine ⟨fun pins s σ H Q I h => ?_⟩
  refine wpAny_Call_Name_kw (ld_glob I hg c.m ?_ hdb)
  refine W.callWith_K0 I.kIn c.T.kp (run_exn (us := []) (vs := []) (ws := []) c.T iC tI G hr (fun s a => b1 s _) .nil (Nat.zero_le _) I fun a na => ?_)
  exact ⟨a, rfl, upd_same, rfl, h a na⟩

/-- isinstance(e, c), e the caught exception that a suite holds, with a dict of its own -/
theorem call_isS {a : Addr} {oe : Obj} {cls : Value} {d : Option Addr} {pn : List (Addr × Obj)} {D : Addr} (T : Ecl X.K D B newId initId bmB) (G : ClsGet X.K) (hz : Zc cls d oe) (hf : ∃ vs, oe.data = .fields vs) :
    CallR (X.suite a ((a, oe) :: pn)) (.builtin "isinstance") (fun xs H Q => ∃ (c : V) (u : Value) (b : Bool) (dd : Addr) (fs : List (Str × V)), xs = [.ref a, c] ∧ ClsV c u ∧ cls = .ref D ∧ d = some dd ∧ H dd = some (.xd fs) ∧
      W.kitOne X.K (.ref D) u = some b ∧ Q (.bl b) H) := by
  intro pins s σ H xs us Q I r h
  obtain ⟨c, u, b, dd, fs, rfl, k, rfl, rfl, ed, e, q⟩ := h
  obtain ⟨u1, u2, rfl, r1, r2⟩ := vals2 r
  obtain rfl := k.eq r2
  obtain rfl : u1 = Value.ref a := r1
  obtain ⟨at_a, _⟩ := I.pin (a, oe) (List.mem_append_left _ List.mem_cons_self)
  obtain ⟨vs, hd⟩ := hf
  have ox : ObjOk X.prog X.w H s.heap dd (.xd fs) := I.hok dd _ ed
  obtain ⟨mA, ⟨od, es, ep, ho, _⟩, _⟩ := ox
  have J : W.InstAt s.heap a oe D (some od) := ⟨at_a, hz.1, by unfold W.notCls; rw [hd], by rw [hz.2]; exact ho⟩
  exact W.kia_one (W.kitx_exc (ox := oe) (od := some od) (cls_some T.hd) T.ga T.gt T.sub T.ca G.get G.takes T.mo) I.kIn J e (fun z => nomatch z) fun tk => ⟨.bl b, H, I.kept (t' := tk) fun _ _ z => z, rfl, q⟩
end
end Exn
namespace Keys
open PySem PySem.Spec PyProof.Rows
/-! KeyError, as a base of own classes -/
abbrev keyTail : List Value := [.type "KeyError", .type "LookupError", .type "Exception", .type "BaseException", .type "object"]
theorem store_KeyError : StoreFacts "KeyError" keyTail "object.__setattr__" "object" where
  mro := by kernel_rfl
  slot := by
    refine .of (owner := "object") (n := "__setattr__") ?_ (by decide +kernel) (by decide +kernel) (by decide +kernel) ?_ ?_
    · rw [typeLookup_type, builtinLookup_eq_fast]; kernel_rfl
    · first
        | exact .inl (by decide +kernel)
        | exact .inr (by decide +kernel)
    · rw [isSubtype_type]; kernel_rfl
  entry := F.entry_object_sa
  kind := by decide +kernel
  split := by decide +kernel
  hasOwner := by decide +kernel
  args := fun a b c => by unfold argsOk; kernel_rfl
  passes := fun self => by kernel_rfl
theorem tail_KeyError : Exn.Tail keyTail "LookupError" := ⟨by decide +kernel, by decide +kernel, by decide +kernel⟩
abbrev exTail : List Value := [.type "Exception", .type "BaseException", .type "object"]
theorem tail_Exception : Exn.Tail exTail "Exception" := ⟨by decide +kernel, by decide +kernel, by decide +kernel⟩
end Keys

namespace K00
open PySem PySem.Spec PyProof.Rows L2
def top (i : Nat) : Stmt := PySem.Challenge.pw_lightsout_k00_errors_and_what_they_keep.main.body.getD i (.Pass ⟨0, 0, 0, 0⟩)
abbrev sBox : Stmt := top 16
abbrev sTake : Stmt := top 17
abbrev sPick : Stmt := top 18
abbrev sPlaced : Stmt := top 19
abbrev sKinds : Stmt := top 20
abbrev sPlain : Stmt := top 21
abbrev sNamed : Stmt := top 22
abbrev sLaw : Stmt := top 23

/-- the box at p -/
def Box (H : Hp) (p : Addr) : Prop := ∃ b0 b1 b2 : Int, H p = some (.lst [.int b0, .int b1, .int b2]) ∧ 0 ≤ b0 ∧ 0 ≤ b1 ∧ 0 ≤ b2
/-- all but the box is as it was -/
def But (p : Addr) (H H' : Hp) : Prop := ∀ b o, b ≠ p → H b = some o → H' b = some o

def spBox (K : W.Frag) : Sp := fun vs H Q _ => ∃ (a : Addr) (ns : List Int) (k : Nat), vs = [.ref a, .int k] ∧ SqL K H a (ns.map V.int) ∧ ns.length ≤ 63 ∧ k ≤ 2 ∧ (k < ns.length ∨ ns = []) ∧
  ∀ H' p, Same H H' → H p = none → Box H' p → Q (.ref p) H'
def spTake : Sp := fun vs H Q _ => ∃ (p : Addr) (m : Int), vs = [.ref p, .int m] ∧ Box H p ∧ 1 ≤ m ∧ m ≤ 1000 ∧
  ∀ (r : Int) H', 0 ≤ r → r < m → But p H H' → Box H' p → Q (.int r) H'
def spPick : Sp := fun vs H Q _ => ∃ (p q : Addr) (xs : List V), vs = [.ref p, .ref q] ∧ p ≠ q ∧ Box H p ∧ H q = some (.lst xs) ∧ 1 ≤ xs.length ∧ xs.length ≤ 1000 ∧
  ∀ x H', x ∈ xs → But p H H' → Box H' p → Q x H'

structure Nums (mg : Str → Option Value) : Prop where
  len : mg "len" = none
  abs : mg "abs" = none
  int : mg "int" = none

section
variable {P : Program} {w : World} {K : W.Frag} {mg : Str → Option Value} {base : Heap}
theorem scB : FnScope ["_law_script", "_law_k", "_law_cell"] ["_law_script", "_law_k"] (defScope sBox) := ⟨rfl, rfl, rfl, by decide +kernel, rfl, by decide +kernel, by decide +kernel⟩
theorem ok_box {f : Addr} {fd : FuncData} (F : Fun K "_law_box" "_law_box" sBox f fd) (N : Nums mg) : FnOk P w K mg base CX0 1 f fd ["_law_script", "_law_k"] (spBox K) := by
  refine F.ok scB (fun vs H Q E h => ?_) (fun cdv A outer s H vs Q E hr h => ?_)
  · obtain ⟨a, ns, k, rfl, _⟩ := h
    rfl
  · obtain ⟨a, ns, k, rfl, hS, hl, hk, hcase, q⟩ := h
    obtain ⟨t, ht, hq⟩ : ∃ t, PSs (cxOf CX0 P w K mg base ["_law_script", "_law_k", "_law_cell"] "_law_box" (defScope sBox) f cdv A outer s H E).nox ((defBody sBox).drop 2) t ∧
        ∀ c : Int, 0 ≤ c → t { nx := fun _ H' => Q .non H', rt := Q } [some (.ref a), some (.int (k : Nat)), some (.int c)] H := by
      refine ⟨_, pss_one (ps_ret (pe_lst (pa_cons (pe_ix ix_list (pe_lst (pa_cons pe_int (pa_cons (pv 2) pa_nil))) (pe_callTy call_int1 (by rfl) N.int (by decide +kernel) (pa_cons (pe_cmpR op_ge (pv 2) (pe_op op_pow pe_int pe_int) (nomark _)) pa_nil)) (fun _ _ => rfl))
        (pa_cons (pe_op op_add (pe_op op_mod (pe_callTy call_int1 (by rfl) N.int (by decide +kernel) (pa_cons (pe_op op_add (pe_op op_add (pe_op op_mul (pe_op op_mod (pe_callTy call_int1 (by rfl) N.int (by decide +kernel) (pa_cons (pv 2) pa_nil)) pe_int) pe_int) (pe_op op_mul pe_int (pv 1))) pe_int) pa_nil)) pe_int) pe_int)
        (pa_cons pe_int pa_nil))))), fun c hc => ?_⟩
      refine ⟨_, rfl, by show 2 ≤ sizeLine; decide, fun l hl => ?_⟩
      refine ⟨_, rfl, _, _, rfl, rfl, ⟨by decide, by decide, by decide⟩, _, _, rfl, rfl, ?_⟩
      refine .inr ⟨_, rfl, l, _, _, if decide ((10 : Int) ^ (18 : Int).toNat ≤ c) = true then .int c else .int 0, rfl, rfl, SqL.of upd_same, ?_, ?_⟩
      · by_cases hb : (10 : Int) ^ (18 : Int).toNat ≤ c
        · rw [decide_eq_true hb]
          rfl
        · rw [decide_eq_false hb]
          rfl
      · refine ⟨_, rfl, .inl ⟨_, rfl, ?_⟩⟩
        refine ⟨_, _, rfl, rfl, by show (0 : Int) < 2147483629; decide, _, _, rfl, rfl, .inr ⟨by decide, by decide⟩, _, rfl, _, _, rfl, rfl, .inl ⟨by decide, by decide⟩, _, _, rfl, rfl, _, _, rfl, rfl, .inl ⟨_, rfl, ?_⟩⟩
        refine ⟨_, _, rfl, rfl, by show (0 : Int) < 2147483629; decide, _, _, rfl, rfl, by show 3 ≤ sizeLine; decide, fun p hp => ?_⟩
        have npl : p ≠ l := fun z => by
          rw [z, upd_same] at hp
          cases hp
        have hp0 : H p = Option.none := by
          rw [upd_ne npl] at hp
          exact hp
        refine q _ p (fun b o e => ?_) hp0 ?_
        · rw [upd_ne (ne_of_none e hp0), upd_ne (ne_of_none e hl)]
          exact e
        · have hm : ∀ z : Int, 0 ≤ z % 2147483629 + 1 := fun z => by omega
          by_cases hb : (10 : Int) ^ (18 : Int).toNat ≤ c
          · rw [decide_eq_true hb]
            exact ⟨c, _, 0, upd_same, hc, hm _, by decide⟩
          · rw [decide_eq_false hb]
            exact ⟨0, _, 0, upd_same, by decide, hm _, by decide⟩
    refine ⟨_, pss_cons (ps_set (i := 2) scB.nd rfl (Or.inl rfl) (pe_op op_add (pe_op op_mul pe_int (pv 1)) pe_int))
      (pss_cons (ps_if (pt_cmpR op_lt (pv 1) (pe_callB call_len_seq (by rfl) N.len PySem.boot_len (pa_cons (pv 0) pa_nil)) (nomark _))
          (pss_one (ps_set (i := 2) scB.nd rfl (Or.inl rfl) (pe_callB call_abs (by rfl) N.abs (by decide +kernel) (pa_cons (pe_ix ix_list (pv 0) (pv 1) (fun _ _ => rfl)) pa_nil))))
          (pss_one (ps_if (pt_cmpR op_gt (pe_callB call_len_seq (by rfl) N.len PySem.boot_len (pa_cons (pv 0) pa_nil)) pe_int (nomark _)) (pss_one ps_never) pss_nil)))
      ht), ?_⟩
    refine ⟨_, rfl, _, _, rfl, rfl, .inl ⟨by decide, by decide⟩, _, _, rfl, rfl, ?_⟩
    refine ⟨_, rfl, _, rfl, a, _, rfl, .inl hS, _, _, rfl, rfl, _, rfl, ?_⟩
    refine ite2 (fun hb => ?_) (fun hb => ?_)
    · have hb2 := of_decide_eq_true hb
      rw [List.length_map] at hb2
      have hb3 : k < ns.length := by omega
      refine ⟨_, rfl, _, rfl, a, _, _, V.int ns[k], rfl, rfl, hS, atI_nat (by simp [hb3]), _, rfl, hq _ ?_⟩
      by_cases hn : ns[k] < 0
      · rw [if_pos hn]
        omega
      · rw [if_neg hn]
        omega
    · have hb2 : ¬ ((k : Int) < ((ns.map V.int).length : Nat)) := fun z => hb (decide_eq_true z)
      rw [List.length_map] at hb2
      have hn : ns = [] := by
        rcases hcase with z | z
        · omega
        · exact z
      subst hn
      refine ⟨_, rfl, a, _, rfl, .inl hS, _, _, rfl, rfl, _, rfl, ?_⟩
      refine iteF (hq _ ?_)
      show 0 ≤ 3557 * (k : Int) + 20063
      omega
theorem scT : FnScope ["_law_box_here", "_law_many", "_law_digit", "_law_raw"] ["_law_box_here", "_law_many"] (defScope sTake) := ⟨rfl, rfl, rfl, by decide +kernel, rfl, by decide +kernel, by decide +kernel⟩
theorem ok_take {f : Addr} {fd : FuncData} (F : Fun K "_law_take" "_law_take" sTake f fd) (N : Nums mg) : FnOk P w K mg base CX0 1 f fd ["_law_box_here", "_law_many"] spTake := by
  refine F.ok scT (fun vs H Q E h => ?_) (fun cdv A outer s H vs Q E hr h => ?_)
  · obtain ⟨p, m, rfl, _⟩ := h
    rfl
  · obtain ⟨p, m, rfl, ⟨b0, b1, b2, hB, n0, n1, n2⟩, m1, m2, q⟩ := h
    refine ⟨_, pss_cons (ps_if (pt_cmpR op_gt (pe_ix ix_list (pv 0) pe_int (fun _ _ => rfl)) pe_int (nomark _))
        (pss_cons (ps_set (i := 2) scT.nd rfl (Or.inl rfl) (pe_op op_mod (pe_callTy call_int1 (by rfl) N.int (by decide +kernel) (pa_cons (pe_ix ix_list (pv 0) pe_int (fun _ _ => rfl)) pa_nil)) (pv 1)))
        (pss_cons (ps_asg (pe_op op_fdiv (pe_ix ix_list (pv 0) pe_int (fun _ _ => rfl)) (pv 1)) (pg_sub (pv 0) pe_int set_list))
        (pss_one (ps_ret (pv 2))))) pss_nil)
      (pss_cons (ps_asg (pe_op op_add (pe_ix ix_list (pv 0) pe_int (fun _ _ => rfl)) pe_int) (pg_sub (pv 0) pe_int set_list))
      (pss_cons (ps_set (i := 3) scT.nd rfl (Or.inl rfl) (pe_op op_mod (pe_callTy call_int1 (by rfl) N.int (by decide +kernel) (pa_cons (pe_op op_add (pe_op op_mul (pe_op op_add (pe_ix ix_list (pv 0) pe_int (fun _ _ => rfl)) (pe_op op_mul pe_int (pe_ix ix_list (pv 0) pe_int (fun _ _ => rfl)))) pe_int) pe_int) pa_nil)) pe_int))
      (pss_cons (ps_asg (pe_op op_add (pe_op op_mod (pe_callTy call_int1 (by rfl) N.int (by decide +kernel) (pa_cons (pe_op op_add (pe_op op_mul (pv 3) pe_int) pe_int) pa_nil)) pe_int) pe_int) (pg_sub (pv 0) pe_int set_list))
      (pss_one (ps_ret (pe_op op_mod (pe_callTy call_int1 (by rfl) N.int (by decide +kernel) (pa_cons (pe_op op_fdiv (pe_op op_add (pe_op op_mul (pv 3) pe_int) (pe_ix ix_list (pv 0) pe_int (fun _ _ => rfl))) pe_int) pa_nil)) (pv 1)))))))
      , ?_⟩
    refine ⟨_, rfl, p, _, _, V.int b0, rfl, rfl, SqL.of hB, atI_nat (j := 0) rfl, _, _, rfl, rfl, _, rfl, ?_⟩
    refine ite2 (fun hb => ?_) (fun hb => ?_)
    · refine ⟨_, rfl, p, _, _, V.int b0, rfl, rfl, SqL.of hB, atI_nat (j := 0) rfl, .inl ⟨_, rfl, _, rfl, _, _, rfl, rfl, by show 0 < m; omega, ?_⟩⟩
      refine ⟨_, rfl, p, _, _, V.int b0, rfl, rfl, SqL.of hB, atI_nat (j := 0) rfl, _, rfl, _, _, rfl, rfl, ⟨by show 0 < m; omega, by show m < 1073741824; omega⟩, ?_⟩
      refine ⟨_, rfl, p, _, _, 0, rfl, rfl, hB, rfl, ?_⟩
      refine ⟨_, rfl, q (b0 % m) _ (Int.emod_nonneg _ (by omega)) (Int.emod_lt_of_pos _ (by omega)) (fun b o ne e => ?_) ⟨b0 / m, b1, b2, upd_same, Int.ediv_nonneg n0 (by omega), n1, n2⟩⟩
      rw [upd_ne ne]
      exact e
    · refine ⟨_, rfl, p, _, _, V.int b2, rfl, rfl, SqL.of hB, atI_nat (j := 2) rfl, _, _, rfl, rfl, _, rfl, p, _, _, 2, rfl, rfl, hB, rfl, ?_⟩
      refine ⟨_, rfl, p, _, _, V.int b1, rfl, rfl, SqL.of upd_same, atI_nat (j := 1) rfl, _, rfl, p, _, _, V.int (b2 + 1), rfl, rfl, SqL.of upd_same, atI_nat (j := 2) rfl, _, _, rfl, rfl, .inl ⟨by decide, by decide⟩, _, _, rfl, rfl,
        _, _, rfl, rfl, .inr ⟨by decide, by decide⟩, _, _, rfl, rfl, .inl ⟨_, rfl, _, _, rfl, rfl, by show (0 : Int) < 2147483563; decide, ?_⟩⟩
      refine ⟨_, rfl, _, _, rfl, rfl, .inr ⟨by decide, by decide⟩, _, _, rfl, rfl, .inl ⟨_, rfl, _, _, rfl, rfl, by show (0 : Int) < 2147483629; decide, _, _, rfl, rfl, _, rfl, p, _, _, 1, rfl, rfl, upd_same, rfl, ?_⟩⟩
      refine ⟨_, rfl, _, _, rfl, rfl, .inr ⟨by decide, by decide⟩, _, rfl, p, _, _, V.int _, rfl, rfl, SqL.of upd_same, atI_nat (j := 1) rfl, _, _, rfl, rfl, _, _, rfl, rfl, ⟨by decide, by decide⟩, .inl ⟨_, rfl, _, rfl, _, _, rfl, rfl, by show 0 < m; omega, ?_⟩⟩
      refine q _ _ (Int.emod_nonneg _ (by omega)) (Int.emod_lt_of_pos _ (by omega)) (fun b o ne e => ?_) ⟨b0, _, b2 + 1, upd_same, n0, ?_, by omega⟩
      · rw [upd_ne ne, upd_ne ne]
        exact e
      · have hm : ∀ z : Int, 0 ≤ z % 2147483629 + 1 := fun z => by omega
        exact hm _
theorem scP : FnScope ["_law_box_here", "_law_some"] ["_law_box_here", "_law_some"] (defScope sPick) := ⟨rfl, rfl, rfl, by decide +kernel, rfl, by decide +kernel, by decide +kernel⟩
theorem ok_pick {f fT : Addr} {fd fdT : FuncData} (F : Fun K "_law_pick" "_law_pick" sPick f fd) (N : Nums mg) (FT : Fun K "_law_take" "_law_take" sTake fT fdT) (bT : Binds K fdT ["_law_box_here", "_law_many"] []) (mT : mg "_law_take" = some (.ref fT)) :
    FnOk P w K mg base CX0 2 f fd ["_law_box_here", "_law_some"] spPick := by
  have GT : FnOk P w K mg base CX0 1 fT fdT ["_law_box_here", "_law_many"] spTake := ok_take FT N
  refine F.ok scP (fun vs H Q E h => ?_) (fun cdv A outer s H vs Q E hr h => ?_)
  · obtain ⟨p, q, xs, rfl, _⟩ := h
    rfl
  · obtain ⟨p, l, xs, rfl, ne, hB, hL, l1, l2, q⟩ := h
    refine ⟨_, pss_one (ps_ret (pe_ix ix_list (pv 1) (pe_call GT hr rfl mT FT.kp bT .nil pass0 (pa_cons (pv 0) (pa_cons (pe_callB call_len_seq (by rfl) N.len PySem.boot_len (pa_cons (pv 1) pa_nil)) pa_nil))) (fun _ _ => rfl))), ?_⟩
    refine ⟨_, rfl, _, rfl, _, rfl, l, _, rfl, .inl (SqL.of hL), p, _, rfl, hB, by omega, by omega, fun r H' r0 r1 but hB' => ?_⟩
    obtain ⟨j, rfl⟩ : ∃ j : Nat, r = (j : Int) := ⟨r.toNat, by omega⟩
    have hj : j < xs.length := by omega
    refine ⟨l, xs, _, xs[j], rfl, rfl, SqL.of (but _ _ (Ne.symm ne) hL), atI_nat (by simp [hj]), ?_⟩
    exact q _ _ (List.getElem_mem hj) but hB'
end
end K00

namespace K00
open PySem PySem.Spec PyProof.Rows L2
open Exn Keys

abbrev CE (P : Program) (w : World) (K : W.Frag) (mg : Str → Option Value) (base : Heap) (x : Str) (C : Addr) (f : Str) : Prop := Cl1 P w K mg base x C f "Exception" "Exception.__new__" "Exception.__init__" exTail

structure Txt (P : Program) (w : World) (K : W.Frag) (mg : Str → Option Value) (base : Heap) (Cs : Nat → Addr) (L N : Addr) : Prop where
  c0 : CE P w K mg base "InvalidHouse" (Cs 0) "at"
  c1 : CE P w K mg base "InvalidGuest" (Cs 1) "at"
  c2 : CE P w K mg base "InvalidPlan" (Cs 2) "at"
  c3 : CE P w K mg base "InvalidStory" (Cs 3) "at"
  c4 : CE P w K mg base "InvalidLot" (Cs 4) "at"
  c5 : CE P w K mg base "InvalidOrder" (Cs 5) "at"
  c6 : CE P w K mg base "InvalidSensor" (Cs 6) "at"
  c7 : CE P w K mg base "InvalidLog" (Cs 7) "at"
  c8 : CE P w K mg base "InvalidText" (Cs 8) "at"
  c9 : CE P w K mg base "Refused" (Cs 9) "at"
  c10 : CE P w K mg base "InvalidSize" (Cs 10) "word"
  c11 : Cl0 P w K mg base "InvalidCommand" (Cs 11) "Exception" "Exception.__new__" "Exception.__init__" exTail
  cN : Cl1 P w K mg base "NoName" N "name" "LookupError" "LookupError.__new__" "LookupError.__init__" keyTail
  kit : ∀ i j, i < 12 → j < 12 → W.kitOne K (.ref (Cs i)) (.ref (Cs j)) = some (decide (i = j))
  kitL : ∀ i, i < 12 → W.kitOne K (.ref (Cs i)) (.ref L) = some true
  kitE : ∀ i, i < 12 → W.kitOne K (.ref (Cs i)) (.type "Exception") = some true
  kitK : ∀ i, i < 12 → W.kitOne K (.ref (Cs i)) (.type "KeyError") = some false
  kitNL : W.kitOne K (.ref N) (.ref L) = some false
  kitNK : W.kitOne K (.ref N) (.type "KeyError") = some true
  exm : W.exmOne K (.ref N) (.ref N) = some true
  G : ClsGet K
  mL : mg "LightError" = some (.ref L)
  mE : mg "Exception" = none
  mK : mg "KeyError" = none
  isi : mg "isinstance" = none
  enu : mg "enumerate" = none
  nums : Nums mg

def spPlaced (Cs : Nat → Addr) : Sp := fun vs H Q _ => ∃ (k : Nat) (v : V), vs = [.int k, v] ∧ k < 10 ∧ ∀ a dx, H a = none → H dx = none → dx ≠ a → Q (.ref a) (made H (Cs k) "at" v a dx)

section
variable {P : Program} {w : World} {K : W.Frag} {mg : Str → Option Value} {base : Heap} {Cs : Nat → Addr} {L N : Addr}
theorem scPl : FnScope ["_law_number", "_law_thing"] ["_law_number", "_law_thing"] (defScope sPlaced) := ⟨rfl, rfl, rfl, by decide +kernel, rfl, by decide +kernel, by decide +kernel⟩
theorem ok_placed {f : Addr} {fd : FuncData} (F : Fun K "_law_placed" "_law_placed" sPlaced f fd) (T : Txt P w K mg base Cs L N) : FnOk P w K mg base CX0 3 f fd ["_law_number", "_law_thing"] (spPlaced Cs) := by
  refine F.ok scPl (fun vs H Q E h => ?_) (fun cdv A outer s H vs Q E hr h => ?_)
  · obtain ⟨k, v, rfl, _⟩ := h
    rfl
  · obtain ⟨k, v, rfl, hk, q⟩ := h
    have ne : ∀ {i : Nat}, ¬ (decide (V.int (k : Int) = V.int ((i : Nat) : Int)) = true) → k ≠ i := fun {i} h z => h (by rw [z]; exact decide_eq_true rfl)
    have eq : ∀ {i : Nat}, decide (V.int (k : Int) = V.int ((i : Nat) : Int)) = true → k = i := fun {i} h => by
      have z := of_decide_eq_true h
      injection z with z
      omega
    refine ⟨_, pss_cons (ps_if (pt_cmpR op_eq (pv 0) pe_int (nomark _)) (pss_one (ps_ret (pe_exn T.c0 hr rfl (pv 1)))) pss_nil)
      (pss_cons (ps_if (pt_cmpR op_eq (pv 0) pe_int (nomark _)) (pss_one (ps_ret (pe_exnK T.c1 hr rfl (pv 1)))) pss_nil)
      (pss_cons (ps_if (pt_cmpR op_eq (pv 0) pe_int (nomark _)) (pss_one (ps_ret (pe_exn T.c2 hr rfl (pv 1)))) pss_nil)
      (pss_cons (ps_if (pt_cmpR op_eq (pv 0) pe_int (nomark _)) (pss_one (ps_ret (pe_exnK T.c3 hr rfl (pv 1)))) pss_nil)
      (pss_cons (ps_if (pt_cmpR op_eq (pv 0) pe_int (nomark _)) (pss_one (ps_ret (pe_exn T.c4 hr rfl (pv 1)))) pss_nil)
      (pss_cons (ps_if (pt_cmpR op_eq (pv 0) pe_int (nomark _)) (pss_one (ps_ret (pe_exnK T.c5 hr rfl (pv 1)))) pss_nil)
      (pss_cons (ps_if (pt_cmpR op_eq (pv 0) pe_int (nomark _)) (pss_one (ps_ret (pe_exn T.c6 hr rfl (pv 1)))) pss_nil)
      (pss_cons (ps_if (pt_cmpR op_eq (pv 0) pe_int (nomark _)) (pss_one (ps_ret (pe_exnK T.c7 hr rfl (pv 1)))) pss_nil)
      (pss_one (ps_ret (pe_ifExp (pt_cmpR op_eq (pv 0) pe_int (nomark _)) (pe_exn T.c8 hr rfl (pv 1)) (pe_exnK T.c9 hr rfl (pv 1)))))))))))), ?_⟩
    refine ⟨_, rfl, rfl, _, rfl, ite2 (fun h => ?_) (fun h0 => ?_)⟩
    · obtain rfl := eq (i := 0) h
      exact ⟨_, rfl, _, rfl, q⟩
    refine ⟨_, rfl, rfl, _, rfl, ite2 (fun h => ?_) (fun h1 => ?_)⟩
    · obtain rfl := eq (i := 1) h
      exact ⟨_, rfl, _, rfl, q⟩
    refine ⟨_, rfl, rfl, _, rfl, ite2 (fun h => ?_) (fun h2 => ?_)⟩
    · obtain rfl := eq (i := 2) h
      exact ⟨_, rfl, _, rfl, q⟩
    refine ⟨_, rfl, rfl, _, rfl, ite2 (fun h => ?_) (fun h3 => ?_)⟩
    · obtain rfl := eq (i := 3) h
      exact ⟨_, rfl, _, rfl, q⟩
    refine ⟨_, rfl, rfl, _, rfl, ite2 (fun h => ?_) (fun h4 => ?_)⟩
    · obtain rfl := eq (i := 4) h
      exact ⟨_, rfl, _, rfl, q⟩
    refine ⟨_, rfl, rfl, _, rfl, ite2 (fun h => ?_) (fun h5 => ?_)⟩
    · obtain rfl := eq (i := 5) h
      exact ⟨_, rfl, _, rfl, q⟩
    refine ⟨_, rfl, rfl, _, rfl, ite2 (fun h => ?_) (fun h6 => ?_)⟩
    · obtain rfl := eq (i := 6) h
      exact ⟨_, rfl, _, rfl, q⟩
    refine ⟨_, rfl, rfl, _, rfl, ite2 (fun h => ?_) (fun h7 => ?_)⟩
    · obtain rfl := eq (i := 7) h
      exact ⟨_, rfl, _, rfl, q⟩
    refine ⟨_, rfl, rfl, _, rfl, ite2 (fun h => ?_) (fun h8 => ?_)⟩
    · obtain rfl := eq (i := 8) h
      exact ⟨_, rfl, _, rfl, q⟩
    · have e9 : k = 9 := by
        have := ne (i := 0) h0; have := ne (i := 1) h1; have := ne (i := 2) h2; have := ne (i := 3) h3; have := ne (i := 4) h4
        have := ne (i := 5) h5; have := ne (i := 6) h6; have := ne (i := 7) h7; have := ne (i := 8) h8
        omega
      subst e9
      exact ⟨_, rfl, _, rfl, q⟩
end
end K00

namespace K00
open PySem PySem.Spec PyProof.Rows L2
open Exn Keys

/-- a class by its name -/
theorem pe_cls {X : Cx} {x : Str} {C : Addr} {pos : Pos} (hg : Gl X x) (m : X.mg x = some (.ref C)) (hd : (x == ("__debug__" : Str)) = false := by decide) : PE X (.Name x pos) (tC (.ref C)) := pe_glob (v := .ref C) hg m rfl hd
section
variable {P : Program} {w : World} {K : W.Frag} {mg : Str → Option Value} {base : Heap} {Cs : Nat → Addr} {L N : Addr}
theorem Txt.ecl (T : Txt P w K mg base Cs L N) : ∀ j, j < 12 → Ecl K (Cs j) "Exception" "Exception.__new__" "Exception.__init__" exTail
  | 0, _ => T.c0.T
  | 1, _ => T.c1.T
  | 2, _ => T.c2.T
  | 3, _ => T.c3.T
  | 4, _ => T.c4.T
  | 5, _ => T.c5.T
  | 6, _ => T.c6.T
  | 7, _ => T.c7.T
  | 8, _ => T.c8.T
  | 9, _ => T.c9.T
  | 10, _ => T.c10.T
  | 11, _ => T.c11.T
  | n + 12, h => absurd h (by omega)

/-- an error of the class j -/
def spKinds (Cs : Nat → Addr) : Sp := fun vs H Q _ => ∃ (j : Nat) (a : Addr), vs = [.ref a] ∧ j < 12 ∧ Bare (Cs j) H a ∧ ∀ H' p, Same H H' → H p = none → H' p = some (.lst [.int j]) → Q (.ref p) H'
def spPlain (Cs : Nat → Addr) : Sp := fun vs H Q _ => ∃ (j : Nat) (a : Addr), vs = [.ref a] ∧ j < 12 ∧ Bare (Cs j) H a ∧ Q (.bl true) H

theorem scPn : FnScope ["_law_error"] ["_law_error"] (defScope sPlain) := ⟨rfl, rfl, rfl, by decide +kernel, rfl, by decide +kernel, by decide +kernel⟩
theorem ok_plain {f : Addr} {fd : FuncData} (F : Fun K "_law_is_plain" "_law_is_plain" sPlain f fd) (T : Txt P w K mg base Cs L N) : FnOk P w K mg base CX0 1 f fd ["_law_error"] (spPlain Cs) := by
  refine F.ok scPn (fun vs H Q E h => ?_) (fun cdv A outer s H vs Q E hr h => ?_)
  · obtain ⟨k, v, rfl, _⟩ := h
    rfl
  · obtain ⟨j, a, rfl, hj, bare, q⟩ := h
    refine ⟨_, pss_one (ps_ret (pe_and (pe_callB (call_isE (T.ecl j hj) T.G) (by rfl) T.isi (by decide +kernel) (pa_cons (pv 0) (pa_cons (pe_cls rfl T.mL) pa_nil)))
      (pe_and (pe_callB (call_isE (T.ecl j hj) T.G) (by rfl) T.isi (by decide +kernel) (pa_cons (pv 0) (pa_cons (pe_bltn (v := .ty "Exception") rfl T.mE (by decide +kernel) rfl) pa_nil)))
      (pe_one (pe_not (pe_callB (call_isE (T.ecl j hj) T.G) (by rfl) T.isi (by decide +kernel) (pa_cons (pv 0) (pa_cons (pe_bltn (v := .ty "KeyError") rfl T.mK (by decide +kernel) rfl) pa_nil)))))))), ?_⟩
    refine ⟨_, rfl, a, _, _, true, rfl, .own L, bare, T.kitL j hj, true, rfl, ?_⟩
    refine ⟨_, rfl, a, _, _, true, rfl, .ty "Exception", bare, T.kitE j hj, true, rfl, ?_⟩
    exact ⟨_, rfl, a, _, _, false, rfl, .ty "KeyError", bare, T.kitK j hj, false, rfl, q⟩

def flags (j : Nat) : List V := (List.range 12).map fun i => V.bl (decide (j = i))
theorem walk {K : W.Frag} {l : Addr} (j : Nat) : Walk (Ite K l) 12 (fun H => SqL K H l (flags j)) (YPair (fun i => some (.int (i : Nat))) (fun i => (flags j)[i]?)) := walk_enum (xs := flags j)
theorem scK : FnScope ["_law_error", "_law_flags", "_law_at", "_law_flag"] ["_law_error"] (defScope sKinds) := ⟨rfl, rfl, rfl, by decide +kernel, rfl, by decide +kernel, by decide +kernel⟩
theorem ok_kinds {f : Addr} {fd : FuncData} (F : Fun K "_law_kinds" "_law_kinds" sKinds f fd) (T : Txt P w K mg base Cs L N) : FnOk P w K mg base CX0 1 f fd ["_law_error"] (spKinds Cs) := by
  refine F.ok scK (fun vs H Q E h => ?_) (fun cdv A outer s H vs Q E hr h => ?_)
  · obtain ⟨k, v, rfl, _⟩ := h
    rfl
  · obtain ⟨j, a, rfl, hj, bare, q⟩ := h
    have Tj := T.ecl j hj
    refine ⟨_, pss_cons (ps_set (i := 1) scK.nd rfl (Or.inl rfl) (pe_lst (pa_cons (pe_callB (call_isE Tj T.G) (by rfl) T.isi (by decide +kernel) (pa_cons (pv 0) (pa_cons (pe_cls rfl T.c0.m) pa_nil)))
        (pa_cons (pe_callB (call_isE Tj T.G) (by rfl) T.isi (by decide +kernel) (pa_cons (pv 0) (pa_cons (pe_cls rfl T.c1.m) pa_nil)))
        (pa_cons (pe_callB (call_isE Tj T.G) (by rfl) T.isi (by decide +kernel) (pa_cons (pv 0) (pa_cons (pe_cls rfl T.c2.m) pa_nil))) pa_nil)))))
      (pss_cons (ps_expr (pe_bm PySem.F.plainAttrs_list PySem.F.slot_list_extend PySem.F.type_list_extend mt_extend (pv 1) (pa_cons (pe_lst (pa_cons (pe_callB (call_isE Tj T.G) (by rfl) T.isi (by decide +kernel) (pa_cons (pv 0) (pa_cons (pe_cls rfl T.c3.m) pa_nil)))
        (pa_cons (pe_callB (call_isE Tj T.G) (by rfl) T.isi (by decide +kernel) (pa_cons (pv 0) (pa_cons (pe_cls rfl T.c4.m) pa_nil)))
        (pa_cons (pe_callB (call_isE Tj T.G) (by rfl) T.isi (by decide +kernel) (pa_cons (pv 0) (pa_cons (pe_cls rfl T.c5.m) pa_nil))) pa_nil)))) pa_nil)))
      (pss_cons (ps_expr (pe_bm PySem.F.plainAttrs_list PySem.F.slot_list_extend PySem.F.type_list_extend mt_extend (pv 1) (pa_cons (pe_lst (pa_cons (pe_callB (call_isE Tj T.G) (by rfl) T.isi (by decide +kernel) (pa_cons (pv 0) (pa_cons (pe_cls rfl T.c6.m) pa_nil)))
        (pa_cons (pe_callB (call_isE Tj T.G) (by rfl) T.isi (by decide +kernel) (pa_cons (pv 0) (pa_cons (pe_cls rfl T.c7.m) pa_nil)))
        (pa_cons (pe_callB (call_isE Tj T.G) (by rfl) T.isi (by decide +kernel) (pa_cons (pv 0) (pa_cons (pe_cls rfl T.c8.m) pa_nil))) pa_nil)))) pa_nil)))
      (pss_cons (ps_expr (pe_bm PySem.F.plainAttrs_list PySem.F.slot_list_extend PySem.F.type_list_extend mt_extend (pv 1) (pa_cons (pe_lst (pa_cons (pe_callB (call_isE Tj T.G) (by rfl) T.isi (by decide +kernel) (pa_cons (pv 0) (pa_cons (pe_cls rfl T.c9.m) pa_nil)))
        (pa_cons (pe_callB (call_isE Tj T.G) (by rfl) T.isi (by decide +kernel) (pa_cons (pv 0) (pa_cons (pe_cls rfl T.c10.m) pa_nil)))
        (pa_cons (pe_callB (call_isE Tj T.G) (by rfl) T.isi (by decide +kernel) (pa_cons (pv 0) (pa_cons (pe_cls rfl T.c11.m) pa_nil))) pa_nil)))) pa_nil)))
      (pss_one (ps_ret (pe_lc (own := [("_law_at", 2), ("_law_flag", 3)]) (g := gTup K 2 (gCons (gName 2) (gCons (gName 3) gNil))) (by rfl) scK.nd (pi_enum (by rfl) T.enu (pa_cons (pv 1) pa_nil))
        (blkOk_by (own := [("_law_at", 2), ("_law_flag", 3)]) (N := ["_law_error", "_law_flags", "_law_at", "_law_flag"]) (sc := defScope sKinds) (by decide +kernel))
        (fun _ _ _ _ _ => pg_tup rfl (pgs_cons (pg_name (i := 2) scK.nd rfl (Or.inl rfl)) (pgs_cons (pg_name (i := 3) scK.nd rfl (Or.inl rfl)) pgs_nil)))
        (fun _ _ _ _ _ => pts_one (pt_val (pv 3))) (fun _ _ _ _ _ => pv 2))))))), ?_⟩
    have stays : ∀ {H' : Hp}, Same H H' → Bare (Cs j) H' a := fun {H'} s => by
      rcases bare with e | ⟨dx, fs, e, ed⟩
      · exact .inl (s _ _ e)
      · exact .inr ⟨dx, fs, s _ _ e, s _ _ ed⟩
    refine ⟨_, rfl, a, _, _, _, rfl, .own _, bare, T.kit j 0 hj (by decide), _, rfl, a, _, _, _, rfl, .own _, bare, T.kit j 1 hj (by decide), _, rfl, a, _, _, _, rfl, .own _, bare, T.kit j 2 hj (by decide), by show 3 ≤ sizeLine; decide, fun l hl => ?_⟩
    have s1 : Same H (upd H l (.lst [V.bl (decide (j = 0)), V.bl (decide (j = 1)), V.bl (decide (j = 2))])) := fun b o e => by
      rw [upd_ne (ne_of_none e hl)]
      exact e
    have at1 : upd H l (.lst [V.bl (decide (j = 0)), V.bl (decide (j = 1)), V.bl (decide (j = 2))]) l = some (.lst [V.bl (decide (j = 0)), V.bl (decide (j = 1)), V.bl (decide (j = 2))]) := upd_same
    show tSeq _ _ _ _ (upd H l (.lst [V.bl (decide (j = 0)), V.bl (decide (j = 1)), V.bl (decide (j = 2))]))
    revert s1 at1
    generalize upd H l (.lst [V.bl (decide (j = 0)), V.bl (decide (j = 1)), V.bl (decide (j = 2))]) = H1
    intro s1 at1
    have more : ∀ {H1 : Hp} {A B : List V} {m : Addr}, Same H H1 → H1 m = none → Same H (upd (upd H1 m (.lst B)) l (.lst (A ++ B))) := fun {H1 A B m} s n b o e => by
      rw [upd_ne (ne_of_none e hl), upd_ne (ne_of_none (s _ _ e) n)]
      exact s _ _ e
    refine ⟨_, rfl, .inl ⟨rfl, _, .inl (.inl at1)⟩, ?_⟩
    have b1 := stays s1
    refine ⟨_, rfl, a, _, _, _, rfl, .own _, b1, T.kit j 3 hj (by decide), _, rfl, a, _, _, _, rfl, .own _, b1, T.kit j 4 hj (by decide), _, rfl, a, _, _, _, rfl, .own _, b1, T.kit j 5 hj (by decide), by show 3 ≤ sizeLine; decide, fun m1 hm1 => ?_⟩
    have e1 : l ≠ m1 := ne_of_none at1 hm1
    refine ⟨l, m1, _, _, rfl, rfl, (upd_ne e1).trans at1, upd_same, by show 3 + 3 ≤ sizeLine; decide, ?_⟩
    have s2 := more (A := [V.bl (decide (j = 0)), V.bl (decide (j = 1)), V.bl (decide (j = 2))]) (B := [V.bl (decide (j = 3)), V.bl (decide (j = 4)), V.bl (decide (j = 5))]) s1 hm1
    have at2 : upd (upd H1 m1 (.lst [V.bl (decide (j = 3)), V.bl (decide (j = 4)), V.bl (decide (j = 5))])) l (.lst ([V.bl (decide (j = 0)), V.bl (decide (j = 1)), V.bl (decide (j = 2))] ++ [V.bl (decide (j = 3)), V.bl (decide (j = 4)), V.bl (decide (j = 5))])) l = some (.lst [V.bl (decide (j = 0)), V.bl (decide (j = 1)), V.bl (decide (j = 2)), V.bl (decide (j = 3)), V.bl (decide (j = 4)), V.bl (decide (j = 5))]) := upd_same
    show tSeq _ _ _ _ (upd (upd H1 m1 (.lst [V.bl (decide (j = 3)), V.bl (decide (j = 4)), V.bl (decide (j = 5))])) l (.lst ([V.bl (decide (j = 0)), V.bl (decide (j = 1)), V.bl (decide (j = 2))] ++ [V.bl (decide (j = 3)), V.bl (decide (j = 4)), V.bl (decide (j = 5))])))
    revert s2 at2
    generalize upd (upd H1 m1 (.lst [V.bl (decide (j = 3)), V.bl (decide (j = 4)), V.bl (decide (j = 5))])) l (.lst ([V.bl (decide (j = 0)), V.bl (decide (j = 1)), V.bl (decide (j = 2))] ++ [V.bl (decide (j = 3)), V.bl (decide (j = 4)), V.bl (decide (j = 5))])) = H2
    intro s2 at2
    refine ⟨_, rfl, .inl ⟨rfl, _, .inl (.inl at2)⟩, ?_⟩
    have b2 := stays s2
    refine ⟨_, rfl, a, _, _, _, rfl, .own _, b2, T.kit j 6 hj (by decide), _, rfl, a, _, _, _, rfl, .own _, b2, T.kit j 7 hj (by decide), _, rfl, a, _, _, _, rfl, .own _, b2, T.kit j 8 hj (by decide), by show 3 ≤ sizeLine; decide, fun m2 hm2 => ?_⟩
    have e2 : l ≠ m2 := ne_of_none at2 hm2
    refine ⟨l, m2, _, _, rfl, rfl, (upd_ne e2).trans at2, upd_same, by show 6 + 3 ≤ sizeLine; decide, ?_⟩
    have s3 := more (A := [V.bl (decide (j = 0)), V.bl (decide (j = 1)), V.bl (decide (j = 2)), V.bl (decide (j = 3)), V.bl (decide (j = 4)), V.bl (decide (j = 5))]) (B := [V.bl (decide (j = 6)), V.bl (decide (j = 7)), V.bl (decide (j = 8))]) s2 hm2
    have at3 : upd (upd H2 m2 (.lst [V.bl (decide (j = 6)), V.bl (decide (j = 7)), V.bl (decide (j = 8))])) l (.lst ([V.bl (decide (j = 0)), V.bl (decide (j = 1)), V.bl (decide (j = 2)), V.bl (decide (j = 3)), V.bl (decide (j = 4)), V.bl (decide (j = 5))] ++ [V.bl (decide (j = 6)), V.bl (decide (j = 7)), V.bl (decide (j = 8))])) l = some (.lst [V.bl (decide (j = 0)), V.bl (decide (j = 1)), V.bl (decide (j = 2)), V.bl (decide (j = 3)), V.bl (decide (j = 4)), V.bl (decide (j = 5)), V.bl (decide (j = 6)), V.bl (decide (j = 7)), V.bl (decide (j = 8))]) := upd_same
    show tSeq _ _ _ _ (upd (upd H2 m2 (.lst [V.bl (decide (j = 6)), V.bl (decide (j = 7)), V.bl (decide (j = 8))])) l (.lst ([V.bl (decide (j = 0)), V.bl (decide (j = 1)), V.bl (decide (j = 2)), V.bl (decide (j = 3)), V.bl (decide (j = 4)), V.bl (decide (j = 5))] ++ [V.bl (decide (j = 6)), V.bl (decide (j = 7)), V.bl (decide (j = 8))])))
    revert s3 at3
    generalize upd (upd H2 m2 (.lst [V.bl (decide (j = 6)), V.bl (decide (j = 7)), V.bl (decide (j = 8))])) l (.lst ([V.bl (decide (j = 0)), V.bl (decide (j = 1)), V.bl (decide (j = 2)), V.bl (decide (j = 3)), V.bl (decide (j = 4)), V.bl (decide (j = 5))] ++ [V.bl (decide (j = 6)), V.bl (decide (j = 7)), V.bl (decide (j = 8))])) = H3
    intro s3 at3
    refine ⟨_, rfl, .inl ⟨rfl, _, .inl (.inl at3)⟩, ?_⟩
    have b3 := stays s3
    refine ⟨_, rfl, a, _, _, _, rfl, .own _, b3, T.kit j 9 hj (by decide), _, rfl, a, _, _, _, rfl, .own _, b3, T.kit j 10 hj (by decide), _, rfl, a, _, _, _, rfl, .own _, b3, T.kit j 11 hj (by decide), by show 3 ≤ sizeLine; decide, fun m3 hm3 => ?_⟩
    have e3 : l ≠ m3 := ne_of_none at3 hm3
    refine ⟨l, m3, _, _, rfl, rfl, (upd_ne e3).trans at3, upd_same, by show 9 + 3 ≤ sizeLine; decide, ?_⟩
    have s4 := more (A := [V.bl (decide (j = 0)), V.bl (decide (j = 1)), V.bl (decide (j = 2)), V.bl (decide (j = 3)), V.bl (decide (j = 4)), V.bl (decide (j = 5)), V.bl (decide (j = 6)), V.bl (decide (j = 7)), V.bl (decide (j = 8))]) (B := [V.bl (decide (j = 9)), V.bl (decide (j = 10)), V.bl (decide (j = 11))]) s3 hm3
    have at4 : upd (upd H3 m3 (.lst [V.bl (decide (j = 9)), V.bl (decide (j = 10)), V.bl (decide (j = 11))])) l (.lst ([V.bl (decide (j = 0)), V.bl (decide (j = 1)), V.bl (decide (j = 2)), V.bl (decide (j = 3)), V.bl (decide (j = 4)), V.bl (decide (j = 5)), V.bl (decide (j = 6)), V.bl (decide (j = 7)), V.bl (decide (j = 8))] ++ [V.bl (decide (j = 9)), V.bl (decide (j = 10)), V.bl (decide (j = 11))])) l = some (.lst [V.bl (decide (j = 0)), V.bl (decide (j = 1)), V.bl (decide (j = 2)), V.bl (decide (j = 3)), V.bl (decide (j = 4)), V.bl (decide (j = 5)), V.bl (decide (j = 6)), V.bl (decide (j = 7)), V.bl (decide (j = 8)), V.bl (decide (j = 9)), V.bl (decide (j = 10)), V.bl (decide (j = 11))]) := upd_same
    revert s4 at4
    generalize upd (upd H3 m3 (.lst [V.bl (decide (j = 9)), V.bl (decide (j = 10)), V.bl (decide (j = 11))])) l (.lst ([V.bl (decide (j = 0)), V.bl (decide (j = 1)), V.bl (decide (j = 2)), V.bl (decide (j = 3)), V.bl (decide (j = 4)), V.bl (decide (j = 5)), V.bl (decide (j = 6)), V.bl (decide (j = 7)), V.bl (decide (j = 8))] ++ [V.bl (decide (j = 9)), V.bl (decide (j = 10)), V.bl (decide (j = 11))])) = H4
    intro s4 at4
    refine ⟨_, rfl, l, flags j, rfl, .inl (.inl at4), fun D hD => ?_⟩
    have eD : l ≠ D := ne_of_none at4 hD
    refine lc_it (K00.walk j) (fun i H' => (∀ b o, b ≠ D → H4 b = some o → H' b = some o) ∧ H' D = some (.lst (if j < i then [.int j] else []))) ⟨fun b o ne e => by rw [upd_ne ne]; exact e, upd_same⟩
      (fun i H' _ p => .inl (.inl (p.1 _ _ eD at4))) ?_ ?_
    · rintro i x H' H'' hi ⟨keep, at_D⟩ ⟨t, y, z, rfl, ht, rfl, hy, hz⟩
      cases hy
      have hz2 : z = V.bl (decide (j = i)) := by
        have : (flags j)[i]? = some (V.bl (decide (j = i))) := by
          unfold flags
          rw [List.getElem?_map, List.getElem?_range hi]
          rfl
        exact (Option.some.inj (this.symm.trans hz)).symm
      subst hz2
      have eT : D ≠ t := ne_of_none at_D ht
      refine ⟨t, _, rfl, SqT.of upd_same, rfl, _, _, rfl, _, _, rfl, ⟨rfl, rfl, _, rfl, _, rfl, ?_⟩⟩
      have keep2 : ∀ b o, b ≠ D → H4 b = some o → upd H' t (.tup [V.int (i : Nat), V.bl (decide (j = i))]) b = some o := fun b o ne e => by
        have e2 := keep b o ne e
        rw [upd_ne (ne_of_none e2 ht)]
        exact e2
      refine ite2 (fun hb => ?_) (fun hb => ?_)
      · obtain rfl := of_decide_eq_true hb
        refine ⟨_, rfl, [], ?_, by decide, fun b o ne e => ?_, ?_⟩
        · rw [upd_ne eT, at_D, if_neg (Nat.lt_irrefl _)]
        · rw [upd_ne ne]
          exact keep2 b o ne e
        · rw [upd_same, if_pos (Nat.lt_succ_self _)]
          rfl
      · have ne : j ≠ i := fun z => hb (decide_eq_true z)
        refine ⟨keep2, ?_⟩
        rw [upd_ne eT, at_D]
        by_cases h1 : j < i
        · rw [if_pos h1, if_pos (by omega)]
        · rw [if_neg h1, if_neg (by omega)]
    · rintro H' ⟨keep, at_D⟩
      refine q H' D (fun b o e => ?_) (s4.free hD) ?_
      · have e2 := s4 _ _ e
        exact keep b o (ne_of_none e2 hD) e2
      · rw [at_D, if_pos (by show j < 12; exact hj)]
end
end K00

namespace K00
open PySem PySem.Spec PyProof.Rows L2
open Exn Keys
def spNamed : Sp := fun vs H Q _ => ∃ v : V, vs = [v] ∧ ∀ H' p, Same H H' → H p = none → H' p = some (.lst [v]) → Q (.ref p) H'
section
variable {P : Program} {w : World} {K : W.Frag} {mg : Str → Option Value} {base : Heap} {Cs : Nat → Addr} {L N : Addr}
theorem scNa : FnScope ["_law_thing", "e"] ["_law_thing"] (defScope sNamed) := ⟨rfl, rfl, rfl, by decide +kernel, rfl, by decide +kernel, by decide +kernel⟩
theorem ok_named {f : Addr} {fd : FuncData} (F : Fun K "_law_named" "_law_named" sNamed f fd) (T : Txt P w K mg base Cs L N) : FnOk P w K mg base CX0 3 f fd ["_law_thing"] spNamed := by
  refine F.ok scNa (fun vs H Q E h => ?_) (fun cdv A outer s H vs Q E hr h => ?_)
  · obtain ⟨v, rfl, _⟩ := h
    rfl
  · obtain ⟨v, rfl, q⟩ := h
    have xf : XfC K N := ⟨T.cN.T.ga, T.cN.T.gt, T.cN.T.sub, T.cN.T.hd⟩
    refine ⟨_, pss_one (ps_try_as (i := 1) (c := .ref N) (Wout := fun _ _ _ _ => False) rfl rfl scNa.nd rfl rfl ⟨rfl, by decide, .inl T.cN.m⟩ takes0
      (fun W pn xe tk _ => pss_one (ps_raise rfl tk (pmk_exnK T.cN hr rfl (pv 0))))
      (fun a oe cls d pn hz hf => pss_one (ps_ret (pe_ifExp (PW.pt (pw_and (pt_val (pe_callB (call_isS (D := N) T.cN.T T.G hz hf) (by rfl) T.isi (by decide +kernel) (pa_cons (pv 1) (pa_cons (pe_bltn (v := .ty "KeyError") rfl T.mK (by decide +kernel) rfl) pa_nil))))
          (pw_and1 (pt_not (pt_val (pe_callB (call_isS (D := N) T.cN.T T.G hz hf) (by rfl) T.isi (by decide +kernel) (pa_cons (pv 1) (pa_cons (pe_cls rfl T.mL) pa_nil))))))))
        (pe_lst (pa_cons (pe_xf xf T.cN.no hz hf (pv 1)) pa_nil)) (pe_lst pa_nil))))), ?_⟩
    refine ⟨_, rfl, _, rfl, fun d nd => ⟨true, T.exm, fun _ a na => ?_, fun z => nomatch z⟩⟩
    refine ⟨_, rfl, _, _, true, d, _, rfl, .ty "KeyError", rfl, rfl, upd_same, T.kitNK, true, rfl, iteT ?_⟩
    refine ⟨_, rfl, _, _, false, d, _, rfl, .own L, rfl, rfl, upd_same, T.kitNL, false, rfl, iteT ?_⟩
    refine ⟨_, rfl, rfl, rfl, d, _, v, rfl, upd_same, rfl, by show 1 ≤ sizeLine; decide, fun p hp => ?_⟩
    have ne : p ≠ d := fun z => by
      rw [z, upd_same] at hp
      cases hp
    have hp0 : H p = Option.none := by
      rw [upd_ne ne] at hp
      exact hp
    refine q _ p (fun b o e => ?_) hp0 upd_same
    rw [upd_ne (ne_of_none e hp0), upd_ne (ne_of_none e nd)]
    exact e
end
end K00

namespace K00
open PySem PySem.Spec PyProof.Rows L2
open Exn Keys Cal

/-! ### e.f of an exception whose class is told late -/
theorem pe_atG {X : Cx} {o : Expr} {to : TE} {f : Str} {pos : Pos} (ho : PE X o to) (hb : attributeBase o f X.env (eval o X.env) = eval o X.env := by rfl) :
    PE X (.Attribute o f pos) (fun σ H Q => to σ H fun x H1 => ∃ (a C dx : Addr) (fs : List (Str × V)) (v : V) (B n i : String) (bm : List Value), Ecl X.K C B n i bm ∧ W.findIn X.K (.ref C) f = some none ∧
      x = .ref a ∧ H1 a = some (exo a C (some dx)) ∧ H1 dx = some (exd dx fs) ∧ fs.lookup f = some v ∧ Q v H1) := by
  refine ⟨fun pins s σ H Q I h => attr_of hb ?_⟩
  refine thn (ho.run pins s σ H _ I h) fun u s1 ⟨x, H1, I1, rx, a, C, dx, fs, v, B, n, i, bm, T, no, ex, ea, ed, l, q⟩ => ?_
  subst ex
  obtain rfl : u = Value.ref a := rx
  obtain ⟨ox, od, mA, J, ns, hod, rel⟩ := inst_at I1 ea ed
  obtain ⟨od', ho', hl⟩ := lookIn_ns ns
  rw [hod] at ho'
  obtain rfl := Option.some.inj ho'
  have r2 := rel f
  rw [l] at r2
  obtain ⟨u', hu, ru⟩ := RelO.some_of (v := v) (o := mA f) r2
  refine HandSPX.exc_get I1.kIn J T.ga T.gt T.sub (W.findObj_own T.hd no rfl ?_) (handed_of ru) ⟨v, H1, I1.tok _, ru, q⟩
  rw [hl, hu]

/-! ### the things -/
def small (d : PyData) : Bool := d.showable && !d.hasDict && decide (d.depth ≤ 18) && decide (d.shown.length ≤ 1000) && decide ((PyData.list [d]).shown.length ≤ 1000)
theorem small_int {n : Int} (h0 : 0 ≤ n) (h1 : n < 99) : small (.int n) = true := by
  have all : ((List.range 99).all fun n => small (.int (n : Nat))) = true := by decide +kernel
  have := (List.all_eq_true.mp all) n.toNat (List.mem_range.mpr (by omega))
  rwa [Int.toNat_of_nonneg h0] at this
theorem small_one {n : Int} (h0 : 0 ≤ n) (h1 : n < 5) : small (.list [.int n]) = true := by
  have all : ((List.range 5).all fun n => small (.list [.int (n : Nat)])) = true := by decide +kernel
  have := (List.all_eq_true.mp all) n.toNat (List.mem_range.mpr (by omega))
  rwa [Int.toNat_of_nonneg h0] at this
structure Small (d : PyData) : Prop where
  sh : d.showable = true
  nd : d.hasDict = false
  de : d.depth ≤ 18
  l1 : d.shown.length ≤ 1000
  l2 : (PyData.list [d]).shown.length ≤ 1000
theorem small_of {d : PyData} (h : small d = true) : Small d := by
  unfold small at h
  simp only [Bool.and_eq_true, decide_eq_true_eq, Bool.not_eq_true'] at h
  obtain ⟨⟨⟨⟨h1, h2⟩, h3⟩, h4⟩, h5⟩ := h
  exact ⟨h1, h2, h3, h4, h5⟩

def ths (t l e : Addr) (n0 : Int) : List V := [.int n0, .non, .str "abc", .ref t, .ref l, .bl true, .ref e, .int (0 - 1)]
/-- what the law has on its desk: the box at p, the things' list at q; H0: the heap at the law's entry -/
structure Desk (H0 H : Hp) (p q t t2 l e : Addr) (n0 n1 : Int) : Prop where
  same : Same H0 H
  newp : H0 p = none
  box : Box H p
  at_q : H q = some (.lst (ths t l e n0))
  at_t : H t = some (.tup [.str "a", .ref t2])
  at_2 : H t2 = some (.tup [.int 1])
  at_l : H l = some (.lst [.int n1])
  at_e : H e = some (.tup [])
  b0 : 0 ≤ n0 ∧ n0 < 99
  b1 : 0 ≤ n1 ∧ n1 < 5
theorem But.of_same {p : Addr} {H H' : Hp} (s : Same H H') : But p H H' := fun b o _ e => s b o e
theorem But.same {p : Addr} {H0 H H' : Hp} (b : But p H H') (s : Same H0 H) (n : H0 p = none) : Same H0 H' := fun c o e => b c o (fun z => by
  rw [z, n] at e
  cases e) (s c o e)
theorem Box.same {p : Addr} {H H' : Hp} (b : Box H p) (s : Same H H') : Box H' p := by
  obtain ⟨b0, b1, b2, e, h⟩ := b
  exact ⟨b0, b1, b2, s _ _ e, h⟩
theorem Box.ne {p b : Addr} {H : Hp} {o : HO} (x : Box H p) (e : H b = some o) (h : ∀ b0 b1 b2 : Int, o ≠ .lst [.int b0, .int b1, .int b2]) : b ≠ p := by
  obtain ⟨b0, b1, b2, at_p, _⟩ := x
  exact ne_of e at_p (h b0 b1 b2)
section
variable {H0 H H' : Hp} {p q t t2 l e : Addr} {n0 n1 : Int}
theorem Desk.but (d : Desk H0 H p q t t2 l e n0 n1) (b : But p H H') (x : Box H' p) : Desk H0 H' p q t t2 l e n0 n1 where
  same := b.same d.same d.newp
  newp := d.newp
  box := x
  at_q := b _ _ (d.box.ne d.at_q (fun _ _ _ z => by cases z)) d.at_q
  at_t := b _ _ (d.box.ne d.at_t (fun _ _ _ z => by cases z)) d.at_t
  at_2 := b _ _ (d.box.ne d.at_2 (fun _ _ _ z => by cases z)) d.at_2
  at_l := b _ _ (d.box.ne d.at_l (fun _ _ _ z => by cases z)) d.at_l
  at_e := b _ _ (d.box.ne d.at_e (fun _ _ _ z => by cases z)) d.at_e
  b0 := d.b0
  b1 := d.b1
theorem Desk.go (d : Desk H0 H p q t t2 l e n0 n1) (s : Same H H') : Desk H0 H' p q t t2 l e n0 n1 := d.but (But.of_same s) (d.box.same s)
theorem Desk.data {K : W.Frag} {v : V} (h : v ∈ ths t l e n0) (b0 : 0 ≤ n0 ∧ n0 < 99) (b1 : 0 ≤ n1 ∧ n1 < 5) : ∃ x, Small x ∧ ∀ H : Hp, Desk H0 H p q t t2 l e n0 n1 → Dp K H v x := by
  unfold ths at h
  simp only [List.mem_cons, List.not_mem_nil, or_false] at h
  rcases h with rfl | rfl | rfl | rfl | rfl | rfl | rfl | rfl
  · exact ⟨_, small_of (small_int b0.1 b0.2), fun H d => .int _⟩
  · exact ⟨_, small_of (by decide +kernel), fun H d => .non⟩
  · exact ⟨_, small_of (by decide +kernel), fun H d => .str _⟩
  · exact ⟨.tuple [.str "a", .tuple [.int 1]], small_of (by decide +kernel), fun H d => .tup (SqT.of d.at_t) (.cons (.str _) (.cons (.tup (SqT.of d.at_2) (.cons (.int _) .nil)) .nil))⟩
  · exact ⟨_, small_of (small_one b1.1 b1.2), fun H d => .lst (SqL.of d.at_l) (.cons (.int _) .nil)⟩
  · exact ⟨_, small_of (by decide +kernel), fun H d => .bl _⟩
  · exact ⟨.tuple [], small_of (by decide +kernel), fun H d => .tup (SqT.of d.at_e) .nil⟩
  · exact ⟨_, small_of (by decide +kernel), fun H d => .int _⟩
end
theorem Small.one {d : PyData} (s : Small d) : (PyData.list [d]).showable = true ∧ (PyData.list [d]).hasDict = false ∧ (PyData.list [d]).depth ≤ 20 ∧ (PyData.list [d]).shown.length ≤ sizeLine := by
  refine ⟨?_, ?_, ?_, Nat.le_trans s.l2 (by decide)⟩
  · simp [PyData.showable, PyData.showableAll, s.sh]
  · simp [PyData.hasDict, PyData.hasDictAll, s.nd]
  · simp only [PyData.depth, PyData.depthAll]
    have := s.de
    omega
theorem made_same {H : Hp} {C : Addr} {f : Str} {v : V} {a dx : Addr} (na : H a = none) (nd : H dx = none) : Same H (made H C f v a dx) := fun b o e => by
  unfold made
  rw [upd_ne (ne_of_none e na), upd_ne (ne_of_none e nd)]
  exact e
theorem eqv_int (k : Int) : PyData.eqv (.list [.int k]) (.list [.int k]) = true := SeqAt.eqv_refl _ (by rfl)
end K00

namespace K00
open PySem PySem.Spec PyProof.Rows L2
open Exn Keys Cal

/-- a def by its name in the module -/
def Callee (P : Program) (w : World) (K : W.Frag) (mg : Str → Option Value) (base : Heap) (x : Str) (k : Nat) (ps : List Str) (sp : Sp) : Prop :=
  ∃ f fd, mg x = some (.ref f) ∧ W.keepIn K (.ref f) = true ∧ Binds K fd ps [] ∧ FnOk P w K mg base CX0 k f fd ps sp
theorem pe_callee {X : Cx} {x : Str} {k : Nat} {ps : List Str} {sp : Sp} {p pos : Pos} {e : Expr} {es : List Expr} {t : TA} (c : Callee X.prog X.w X.K X.mg X.base x k ps sp) (hr : Room k X.A) (hg : Gl X x) (ha : PA X (e :: es) t)
    (hdb : (x == ("__debug__" : Str)) = false := by decide) (he : starEach (e :: es) X.env = (false, eval e X.env) :: starEach es X.env := by rfl) (hpl : (backTo pos (starEach es X.env)).any (·.1) = false := by rfl) :
    PE X (.Call (.Name x p) (e :: es) [] pos) (tCall sp [] E0 t) := by
  obtain ⟨f, fd, m, kp, b, F⟩ := c
  exact pe_call F hr hg m kp b .nil pass0 ha hdb he hpl

structure Defs (P : Program) (w : World) (K : W.Frag) (mg : Str → Option Value) (base : Heap) (Cs : Nat → Addr) : Prop where
  box : Callee P w K mg base "_law_box" 1 ["_law_script", "_law_k"] (spBox K)
  take : Callee P w K mg base "_law_take" 1 ["_law_box_here", "_law_many"] spTake
  pick : Callee P w K mg base "_law_pick" 2 ["_law_box_here", "_law_some"] spPick
  placed : Callee P w K mg base "_law_placed" 3 ["_law_number", "_law_thing"] (spPlaced Cs)
  kinds : Callee P w K mg base "_law_kinds" 1 ["_law_error"] (spKinds Cs)
  plain : Callee P w K mg base "_law_is_plain" 1 ["_law_error"] (spPlain Cs)
  named : Callee P w K mg base "_law_named" 3 ["_law_thing"] spNamed
  range : mg "range" = none
  max : mg "max" = none
  min : mg "min" = none
  rep : mg "repr" = none

section
variable {P : Program} {w : World} {K : W.Frag} {mg : Str → Option Value} {base : Heap} {Cs : Nat → Addr} {L N : Addr}
theorem Txt.no (T : Txt P w K mg base Cs L N) : ∀ j, j < 10 → W.findIn K (.ref (Cs j)) "at" = some none
  | 0, _ => T.c0.no
  | 1, _ => T.c1.no
  | 2, _ => T.c2.no
  | 3, _ => T.c3.no
  | 4, _ => T.c4.no
  | 5, _ => T.c5.no
  | 6, _ => T.c6.no
  | 7, _ => T.c7.no
  | 8, _ => T.c8.no
  | 9, _ => T.c9.no
  | n + 10, h => absurd h (by omega)
theorem scL : FnScope ["_law_script", "_law_k", "_law_box_here", "_law_things", "_law_number", "_law_thing", "_law_error"] ["_law_script"] (defScope sLaw) := ⟨rfl, rfl, rfl, by decide +kernel, rfl, by decide +kernel, by decide +kernel⟩
theorem law_ok {f a : Addr} {fd : FuncData} {s : Shared} {H : Hp} {ns : List Int} (F : Fun K "law" "law" sLaw f fd) (T : Txt P w K mg base Cs L N) (D : Defs P w K mg base Cs) (e0 : Env0 P w K mg base callerA [] s H) (bind : Binds K fd ["_law_script"] [])
    (sq : SqL K H a (ns.map V.int)) (few : ns.length ≤ 63) :
    codeAny (model P w) callerA (.call (.ref f) ⟨[.ref a], []⟩) (CR CX0 [] P w H s (fun v _ => v = .bl true) E0) s := by
  refine law_run (vs := [V.ref a]) F scL e0 bind (.cons (show RelV (V.ref a) (Value.ref a) from rfl) .nil) rfl fun cdv => ?_
  have hr4 : Room 4 callerA := ⟨rfl, by decide, by decide⟩
  have hr3 : Room 3 (callerA.deeper (envOfC "law" (defScope sLaw) s.heap.objs.size f cdv)) := hr4.deeper _
  have hr2 := hr3.mono (show 2 ≤ 3 by decide)
  have hr1 := hr3.mono (show 1 ≤ 3 by decide)
  have un := hr3.units
  refine ⟨_, pss_cons (ps_for PassesOwn.never rfl (pi_range1 rfl D.range (pa_cons (pe_callB (call_max2 rfl) (by rfl) D.max (by decide +kernel) (pa_cons pe_int (pa_cons (pe_callB (call_min2 rfl) (by rfl) D.min (by decide +kernel) (pa_cons pe_int
        (pa_cons (pe_callB call_len_seq (by rfl) T.nums.len PySem.boot_len (pa_cons (pv 0) pa_nil)) pa_nil))) pa_nil))) pa_nil)) (pg_name (i := 1) scL.nd rfl (Or.inl rfl))
      (pss_cons (ps_set (i := 2) scL.nd rfl (Or.inl rfl) (pe_callee D.box hr1 rfl (pa_cons (pv 0) (pa_cons (pv 1) pa_nil))))
      (pss_cons (ps_set (i := 3) scL.nd rfl (Or.inl rfl) (pe_lst (pa_cons (pe_callee D.take hr1 rfl (pa_cons (pv 2) (pa_cons pe_int pa_nil))) (pa_cons pe_non (pa_cons pe_str (pa_cons (pe_tup (pa_cons pe_str (pa_cons (pe_tup (pa_cons pe_int pa_nil)) pa_nil)))
          (pa_cons (pe_lst (pa_cons (pe_callee D.take hr1 rfl (pa_cons (pv 2) (pa_cons pe_int pa_nil))) pa_nil)) (pa_cons pe_bl (pa_cons (pe_tup pa_nil) (pa_cons (pe_op op_sub pe_int pe_int) pa_nil))))))))))
      (pss_cons (ps_for PassesOwn.never rfl (pi_range1 rfl D.range (pa_cons pe_int pa_nil)) (pg_name (i := 4) scL.nd rfl (Or.inl rfl))
          (pss_cons (ps_set (i := 5) scL.nd rfl (Or.inl rfl) (pe_callee D.pick hr2 rfl (pa_cons (pv 2) (pa_cons (pv 3) pa_nil))))
          (pss_cons (ps_set (i := 6) scL.nd rfl (Or.inl rfl) (pe_callee D.placed hr3 rfl (pa_cons (pv 4) (pa_cons (pv 5) pa_nil))))
          (pss_one (ps_if (PW.pt (pw_or (pt_not (pt_val (pe_callee D.plain hr1 rfl (pa_cons (pv 6) pa_nil)))) (pw_or (pt_cmpR (op_neD un) (pe_callee D.kinds hr1 rfl (pa_cons (pv 6) pa_nil)) (pe_lst (pa_cons (pv 4) pa_nil)) (nomark _))
            (pw_or1 (pt_cmpR op_ne (pe_callB (call_repr calm_guards un) (by rfl) D.rep (by decide +kernel) (pa_cons (pe_atG (pv 6)) pa_nil)) (pe_callB (call_repr calm_guards un) (by rfl) D.rep (by decide +kernel) (pa_cons (pv 5) pa_nil)) (nomark _))))))
            (pss_one ps_never) pss_nil)))))
      (pss_cons (ps_set (i := 5) scL.nd rfl (Or.inl rfl) (pe_callee D.pick hr2 rfl (pa_cons (pv 2) (pa_cons (pv 3) pa_nil))))
      (pss_cons (ps_set (i := 6) scL.nd rfl (Or.inl rfl) (pe_exnK T.c10 hr2 rfl (pv 5)))
      (pss_cons (ps_if (PW.pt (pw_or (pt_not (pt_val (pe_callee D.plain hr1 rfl (pa_cons (pv 6) pa_nil)))) (pw_or (pt_cmpR (op_neD un) (pe_callee D.kinds hr1 rfl (pa_cons (pv 6) pa_nil)) (pe_lst (pa_cons pe_int pa_nil)) (nomark _))
            (pw_or1 (pt_cmpR op_ne (pe_callB (call_repr calm_guards un) (by rfl) D.rep (by decide +kernel) (pa_cons (pe_atG (pv 6)) pa_nil)) (pe_callB (call_repr calm_guards un) (by rfl) D.rep (by decide +kernel) (pa_cons (pv 5) pa_nil)) (nomark _))))))
            (pss_one ps_never) pss_nil)
      (pss_one (ps_if (pt_cmpR op_ne (pe_callB (call_repr calm_guards un) (by rfl) D.rep (by decide +kernel) (pa_cons (pe_callee D.named hr3 rfl (pa_cons (pv 5) pa_nil)) pa_nil))
            (pe_callB (call_repr calm_guards un) (by rfl) D.rep (by decide +kernel) (pa_cons (pe_lst (pa_cons (pv 5) pa_nil)) pa_nil)) (nomark _)) (pss_one ps_never) pss_nil)))))))))
    (pss_one (ps_ret (pe_and (pe_callee D.plain hr1 rfl (pa_cons (pe_exn0 T.c11 hr2 rfl) pa_nil)) (pe_one (pe_cmpR (op_eqD un) (pe_callee D.kinds hr1 rfl (pa_cons (pe_exn0 T.c11 hr2 rfl) pa_nil)) (pe_lst (pa_cons pe_int pa_nil)) (nomark _)))))), ?_⟩
  have len : (((ns.map V.int).length : Nat) : Int) = ns.length := by rw [List.length_map]
  refine ⟨_, rfl, a, _, rfl, .inl sq, _, _, rfl, _, _, rfl, _, rfl, ?_, ?_, for_range (fun i σ H' => ∃ v1 v2 v3 v4 v5 v6 : Option V, σ = [some (.ref a), v1, v2, v3, v4, v5, v6] ∧ Same H H')
    ⟨none, none, none, none, none, none, rfl, Same.refl _⟩ ?_ ?_⟩
  · rw [len]
    split <;> split <;> omega
  · rw [len]
    split <;> split <;> omega
  · rintro i σ H1 hi ⟨v1, v2, v3, v4, v5, v6, rfl, s1⟩
    have hi2 : i ≤ 2 ∧ (i < ns.length ∨ ns = []) := by
      rw [len] at hi
      cases ns with
      | nil => exact ⟨by simp at hi; omega, .inr rfl⟩
      | cons n r =>
        simp only [List.length_cons] at hi ⊢
        refine ⟨?_, .inl ?_⟩
        · split at hi <;> split at hi <;> omega
        · split at hi <;> split at hi <;> omega
    refine ⟨_, rfl, _, rfl, a, ns, i, by rw [Int.zero_add]; rfl, s1.seq sq, few, hi2.1, hi2.2, fun H2 p s2 np x2 => ?_⟩
    have np0 : H p = none := s1.free np
    refine ⟨_, rfl, p, _, rfl, x2, by decide, by decide, fun r0 H3 r00 r01 but3 x3 => ?_⟩
    have sm3 : Same H H3 := But.same but3 (s1.trans s2) np0
    refine ⟨by show 1 ≤ sizeLine; decide, fun t2 n2 => ⟨by show 2 ≤ sizeLine; decide, fun t nt => ?_⟩⟩
    have nt3 : H3 t = none := by
      by_cases z : t = t2
      · rw [z, upd_same] at nt
        cases nt
      · rwa [upd_ne z] at nt
    have nett : t2 ≠ t := fun z => by
      rw [← z, upd_same] at nt
      cases nt
    have up4 : Same H3 (upd (upd H3 t2 (.tup [.int 1])) t (.tup [.str "a", .ref t2])) := fun b o e => by
      rw [upd_ne (ne_of_none e nt3), upd_ne (ne_of_none e n2)]
      exact e
    refine ⟨_, rfl, p, _, rfl, x3.same up4, by decide, by decide, fun r1 H5 r10 r11 but5 x5 => ⟨by show 1 ≤ sizeLine; decide, fun l nl => ⟨Nat.zero_le _, fun e ne => ⟨_, _, rfl, rfl, by show 8 ≤ sizeLine; decide, fun q nq => ?_⟩⟩⟩⟩
    have at_t5 : H5 t = some (.tup [.str "a", .ref t2]) := but5 _ _ ((x3.same up4).ne upd_same (fun _ _ _ z => by cases z)) upd_same
    have at_25 : H5 t2 = some (.tup [.int 1]) := but5 _ _ ((x3.same up4).ne ((upd_ne nett).trans upd_same) (fun _ _ _ z => by cases z)) ((upd_ne nett).trans upd_same)
    have ne5 : H5 e = none := by
      by_cases z : e = l
      · rw [z, upd_same] at ne
        cases ne
      · rwa [upd_ne z] at ne
    have nel : e ≠ l := fun z => by
      rw [z, upd_same] at ne
      cases ne
    have nq6 : upd H5 l (.lst [.int r1]) q = none := by
      by_cases z : q = e
      · rw [z, upd_same] at nq
        cases nq
      · rwa [upd_ne z] at nq
    have nq5 : H5 q = none := by
      by_cases z : q = l
      · rw [z, upd_same] at nq6
        cases nq6
      · rwa [upd_ne z] at nq6
    have nqe : q ≠ e := fun z => by
      rw [z, upd_same] at nq
      cases nq
    have nql : q ≠ l := fun z => by
      rw [z, upd_same] at nq6
      cases nq6
    have up6 : Same H5 (upd (upd (upd H5 l (.lst [.int r1])) e (.tup [])) q (.lst (ths t l e r0))) := fun b o z => by
      rw [upd_ne (ne_of_none z nq5), upd_ne (ne_of_none z ne5), upd_ne (ne_of_none z nl)]
      exact z
    have desk : Desk H (upd (upd (upd H5 l (.lst [.int r1])) e (.tup [])) q (.lst (ths t l e r0))) p q t t2 l e r0 r1 := {
      same := (But.same but5 (sm3.trans up4) np0).trans up6
      newp := np0
      box := x5.same up6
      at_q := upd_same
      at_t := up6 _ _ at_t5
      at_2 := up6 _ _ at_25
      at_l := by rw [upd_ne (Ne.symm nql), upd_ne (Ne.symm nel), upd_same]
      at_e := by rw [upd_ne (Ne.symm nqe), upd_same]
      b0 := ⟨r00, r01⟩
      b1 := ⟨r10, r11⟩ }
    have npq : ∀ {H' : Hp}, Desk H H' p q t t2 l e r0 r1 → p ≠ q := fun {H'} d => (d.box.ne d.at_q (fun _ _ _ z => by cases z)).symm
    refine ⟨_, rfl, by decide, by decide, for_range (n := 10) (fun k σ H' => ∃ v4 v5 v6 : Option V, σ = [some (.ref a), some (.int (0 + (i : Nat))), some (.ref p), some (.ref q), v4, v5, v6] ∧ Desk H H' p q t t2 l e r0 r1)
      ⟨_, _, _, rfl, desk⟩ ?_ ?_⟩
    · rintro k σ H7 hk ⟨v4, v5, v6, rfl, d7⟩
      have hk12 : k < 12 := Nat.lt_trans hk (by decide)
      rw [show (0 : Int) + (k : Int) = k from Int.zero_add _]
      refine ⟨_, rfl, _, rfl, p, q, _, rfl, npq d7, d7.box, d7.at_q, by show 1 ≤ 8; decide, by show 8 ≤ 1000; decide, fun v H8 hv but8 x8 => ?_⟩
      have d8 := d7.but but8 x8
      obtain ⟨x, sm, dp⟩ := Desk.data (K := K) (H0 := H) (p := p) (q := q) (t2 := t2) (n1 := r1) hv d7.b0 d7.b1
      refine ⟨_, rfl, _, rfl, k, v, rfl, hk, fun c dx nc nd ncd => ?_⟩
      have s9 := made_same (C := Cs k) (f := "at") (v := v) nc nd
      have at_c : made H8 (Cs k) "at" v c dx c = some (exo c (Cs k) (some dx)) := upd_same
      have at_d : made H8 (Cs k) "at" v c dx dx = some (exd dx [("at", v)]) := by
        unfold made
        rw [upd_ne ncd, upd_same]
      have d9 := d8.go s9
      have bare : Bare (Cs k) (made H8 (Cs k) "at" v c dx) c := .inr ⟨dx, _, at_c, at_d⟩
      refine ⟨_, rfl, k, c, rfl, hk12, bare, true, rfl, iteF ?_⟩
      refine ⟨_, rfl, k, c, rfl, hk12, bare, fun H10 g s10 ng at_g => ?_⟩
      refine ⟨_, rfl, by show 1 ≤ sizeLine; decide, fun m nm => ?_⟩
      have s11 : Same H10 (upd H10 m (.lst [.int k])) := fun b o z => by
        rw [upd_ne (ne_of_none z nm)]
        exact z
      have d11 := (d9.go s10).go s11
      refine ⟨.list [.int k], .list [.int k], .lst (SqL.of (s11 _ _ at_g)) (.cons (.int _) .nil), .lst (SqL.of upd_same) (.cons (.int _) .nil), rfl, rfl, _, rfl, ?_⟩
      rw [eqv_int]
      refine iteF ?_
      refine ⟨_, rfl, c, Cs k, dx, _, v, _, _, _, _, T.ecl k hk12, T.no k hk, rfl, s11 _ _ (s10 _ _ at_c), s11 _ _ (s10 _ _ at_d), rfl, v, x, rfl, dp _ d11, sm.sh, sm.nd, Nat.le_trans sm.de (by decide), Nat.le_trans sm.l1 (by decide), ?_⟩
      refine ⟨_, rfl, v, x, rfl, dp _ d11, sm.sh, sm.nd, Nat.le_trans sm.de (by decide), Nat.le_trans sm.l1 (by decide), rfl, _, rfl, iteNS rfl ?_⟩
      exact ⟨_, _, _, rfl, d11⟩
    · rintro σ H7 ⟨v4, v5, v6, rfl, d7⟩
      refine ⟨_, rfl, _, rfl, p, q, _, rfl, npq d7, d7.box, d7.at_q, by show 1 ≤ 8; decide, by show 8 ≤ 1000; decide, fun v H8 hv but8 x8 => ?_⟩
      have d8 := d7.but but8 x8
      obtain ⟨x, sm, dp⟩ := Desk.data (K := K) (H0 := H) (p := p) (q := q) (t2 := t2) (n1 := r1) hv d7.b0 d7.b1
      refine ⟨_, rfl, _, rfl, fun c dx nc nd ncd => ?_⟩
      have s9 := made_same (C := Cs 10) (f := "word") (v := v) nc nd
      have at_c : made H8 (Cs 10) "word" v c dx c = some (exo c (Cs 10) (some dx)) := upd_same
      have at_d : made H8 (Cs 10) "word" v c dx dx = some (exd dx [("word", v)]) := by
        unfold made
        rw [upd_ne ncd, upd_same]
      have d9 := d8.go s9
      have bare : Bare (Cs 10) (made H8 (Cs 10) "word" v c dx) c := .inr ⟨dx, _, at_c, at_d⟩
      refine ⟨_, rfl, 10, c, rfl, by decide, bare, true, rfl, iteF ?_⟩
      refine ⟨_, rfl, 10, c, rfl, by decide, bare, fun H10 g s10 ng at_g => ?_⟩
      refine ⟨by show 1 ≤ sizeLine; decide, fun m nm => ?_⟩
      have s11 : Same H10 (upd H10 m (.lst [.int 10])) := fun b o z => by
        rw [upd_ne (ne_of_none z nm)]
        exact z
      have d11 := (d9.go s10).go s11
      refine ⟨.list [.int 10], .list [.int 10], .lst (SqL.of (s11 _ _ at_g)) (.cons (.int _) .nil), .lst (SqL.of upd_same) (.cons (.int _) .nil), rfl, rfl, _, rfl, ?_⟩
      rw [eqv_int]
      refine iteF ?_
      refine ⟨_, rfl, c, Cs 10, dx, _, v, _, _, _, _, T.ecl 10 (by decide), T.c10.no, rfl, s11 _ _ (s10 _ _ at_c), s11 _ _ (s10 _ _ at_d), rfl, v, x, rfl, dp _ d11, sm.sh, sm.nd, Nat.le_trans sm.de (by decide), Nat.le_trans sm.l1 (by decide), ?_⟩
      refine ⟨_, rfl, v, x, rfl, dp _ d11, sm.sh, sm.nd, Nat.le_trans sm.de (by decide), Nat.le_trans sm.l1 (by decide), rfl, _, rfl, iteNS rfl ?_⟩
      -- the error of a name
      obtain ⟨o1, o2, o3, o4⟩ := sm.one
      refine ⟨_, rfl, v, rfl, fun H12 g2 s12 ng2 at_g2 => ?_⟩
      have d12 := d11.go s12
      refine ⟨_, .list [x], rfl, .lst (SqL.of at_g2) (.cons (dp _ d12) .nil), o1, o2, o3, o4, ?_⟩
      refine ⟨_, rfl, by show 1 ≤ sizeLine; decide, fun m2 nm2 => ?_⟩
      have s13 : Same H12 (upd H12 m2 (.lst [v])) := fun b o z => by
        rw [upd_ne (ne_of_none z nm2)]
        exact z
      have d13 := d12.go s13
      refine ⟨_, .list [x], rfl, .lst (SqL.of upd_same) (.cons (dp _ d13) .nil), o1, o2, o3, o4, rfl, _, rfl, iteNS rfl ?_⟩
      exact ⟨_, _, _, _, _, _, rfl, d13.same⟩
  · rintro σ H1 ⟨v1, v2, v3, v4, v5, v6, rfl, s1⟩
    refine fun c nc => ⟨11, c, rfl, by decide, .inl upd_same, true, rfl, iteT ?_⟩
    refine fun c2 nc2 => ⟨11, c2, rfl, by decide, .inl upd_same, fun H2 g s2 ng at_g => ⟨by show 1 ≤ sizeLine; decide, fun m nm => ?_⟩⟩
    refine ⟨.list [.int 11], .list [.int 11], .lst (SqL.of ?_) (.cons (.int _) .nil), .lst (SqL.of upd_same) (.cons (.int _) .nil), rfl, rfl, ?_⟩
    · rw [upd_ne (ne_of_none at_g nm)]
      exact at_g
    · show V.bl _ = V.bl true
      rw [eqv_int]
end
end K00

namespace K00
open PySem PySem.Spec PyProof.Rows L2
open Exn Keys Cal

/-- what the written part must say of an own exception class, at once -/
def clsB (K : W.Frag) (C : Addr) (bm : List Value) (newId : String) (f : Str) : Bool :=
  W.excInitIn K C bm newId && W.excOver K C bm && decide (W.findIn K (.ref C) "__setattr__" = some (some (.builtin "object.__setattr__"))) &&
  decide (W.findIn K (.ref C) "__getattribute__" = some (some (.builtin "BaseException.__getattribute__"))) && decide (W.findIn K (.ref C) "__getattr__" = some none) && W.hasDictIn K C &&
  decide (W.subIn K (.ref C) (.type "BaseException") = some true) && decide (W.findIn K (.ref C) "__class__" = some (some (.builtin "object.__class__"))) && decide (W.mroIn K C (.type "object") = some true) &&
  W.keepIn K (.ref C) && decide (W.findIn K (.ref C) f = some none) && decide (W.typeIn K (.ref C) = some (.type "type"))
theorem ecl_of {K : W.Frag} {C : Addr} {bm : List Value} {B newId initId : String} {f : Str} (h : clsB K C bm newId f = true) (hb : ∃ bm', ExcBaseFacts B newId initId bm') (ht : Tail bm B) (hs : ∃ B', StoreFacts B' bm "object.__setattr__" "object") :
    Ecl K C B newId initId bm ∧ W.findIn K (.ref C) f = some none ∧ W.typeIn K (.ref C) = some (.type "type") := by
  unfold clsB at h
  simp only [Bool.and_eq_true, decide_eq_true_eq] at h
  obtain ⟨⟨⟨⟨⟨⟨⟨⟨⟨⟨⟨h1, h2⟩, h3⟩, h4⟩, h5⟩, h6⟩, h7⟩, h8⟩, h9⟩, h10⟩, h11⟩, h12⟩ := h
  exact ⟨⟨hb, ht, hs, h1, h2, h3, h4, h5, h6, h7, h8, h9, h10⟩, h11, h12⟩

/-- the text of an __init__ that keeps one thing -/
structure InitTxt (st : Stmt) (f : Str) : Prop where
  body : ∃ p1 p2 p3 p4, defBody st = [.Assign [.Attribute (.Name "self" p1) f p2] (.Name f p3) p4]
  sc : FnScope ["self", f] ["self", f] (defScope st)
  v0 : Vis (defScope st) "self"
  v1 : Vis (defScope st) f
  n1 : (f == ("__debug__" : Str)) = false
  n2 : (f == ("__classdict__" : Str)) = false
  bp : ∀ (qual : Str) (kV doc pm : Value) (an : Option Addr) (cdv ct a u : Value), bindArgs (W.fnOf "__init__" qual (defArgs st) (defBody st) (defScope st) .none kV doc pm an cdv ct) ⟨[a, u], []⟩ = pure [(("self" : Str), a), (f, u)]
  bk : ∀ (qual : Str) (kV doc pm : Value) (an : Option Addr) (cdv ct a u : Value), bindArgs (W.fnOf "__init__" qual (defArgs st) (defBody st) (defScope st) .none kV doc pm an cdv ct) ⟨[a], [(f, u)]⟩ = pure [(("self" : Str), a), (f, u)]

section
variable {P : Program} {w : World} {K : W.Frag} {h : Heap} {mg : Str → Option Value} {base : Heap}
theorem cl1_mk {x : Str} {C fI : Addr} {f qual : Str} {st : Stmt} {bm : List Value} {B newId initId : String} {oc kV doc pm cdv ct : Value} {od an : Option Addr} {sl : Array (Option Value)} (X : K.In h) (G : h.Ns mainGlobals mg)
    (aC : W.nsIn K mainGlobals x = some (some (.ref C))) (cb : clsB K C bm newId f = true) (iC : W.findIn K (.ref C) "__init__" = some (some (.ref fI))) (tI : W.typeIn K (.ref fI) = some (.type "function"))
    (l : K.lookup fI = some ⟨oc, od, .func (W.fnOf "__init__" qual (defArgs st) (defBody st) (defScope st) .none kV doc pm an cdv ct), sl⟩) (c : W.codeIn K cdv qual = true) (kI : W.keepIn K (.ref fI) = true)
    (ke : InitTxt st f) (hb : ∃ bm', ExcBaseFacts B newId initId bm') (ht : Tail bm B) (hs : ∃ B', StoreFacts B' bm "object.__setattr__" "object") : Cl1 P w K mg base x C f B newId initId bm := by
  obtain ⟨E, no, ty⟩ := ecl_of (initId := initId) cb hb ht hs
  obtain ⟨p1, p2, p3, p4, hB⟩ := ke.body
  have F := fun_mk (st := st) l c kI
  exact ⟨E, no, W.mg_of X G aC, ty, fI, _, iC, tI, ok_keep F E no hB ke.sc ke.v0 ke.v1 ke.n1 ke.n2, fun s a u => .of_eq (ke.bp ..), fun s a u => .of_eq (ke.bk ..)⟩
theorem callee_mk {x : Str} {f : Addr} {ps : List Str} {sp : Sp} {k : Nat} {st : Stmt} {oc kV doc pm cdv ct : Value} {od an : Option Addr} {sl : Array (Option Value)} (X : K.In h) (G : h.Ns mainGlobals mg)
    (a : W.nsIn K mainGlobals x = some (some (.ref f))) (l : K.lookup f = some ⟨oc, od, .func (W.fnOf x x (defArgs st) (defBody st) (defScope st) .none kV doc pm an cdv ct), sl⟩) (c : W.codeIn K cdv x = true) (kp : W.keepIn K (.ref f) = true)
    (b : ∀ (kV doc pm : Value) (an : Option Addr) (cdv ct : Value) (us : List Value), us.length = ps.length → bindArgs (W.fnOf x x (defArgs st) (defBody st) (defScope st) .none kV doc pm an cdv ct) ⟨us, []⟩ = pure (ps.zip us))
    (ok : ∀ fd, Fun K x x st f fd → FnOk P w K mg base CX0 k f fd ps sp) : Callee P w K mg base x k ps sp := by
  have F := fun_mk (st := st) l c kp
  exact ⟨f, _, W.mg_of X G a, kp, F.binds b, ok _ F⟩
end
/-! ### the texts -/
abbrev iOf (i : Nat) : Stmt := inClass (top i) 0
theorem ke2 : InitTxt (iOf 2) "at" := ⟨⟨_, _, _, _, rfl⟩, ⟨rfl, rfl, rfl, by decide +kernel, rfl, by decide +kernel, by decide +kernel⟩, .inl rfl, .inl rfl, by decide, by decide, fun _ _ _ _ _ _ _ _ _ => rfl, fun _ _ _ _ _ _ _ _ _ => rfl⟩
end K00

namespace K00
open PySem PySem.Spec PyProof.Rows L2
open Exn Keys Cal

theorem ke3 : InitTxt (iOf 3) "at" := ⟨⟨_, _, _, _, rfl⟩, ⟨rfl, rfl, rfl, by decide +kernel, rfl, by decide +kernel, by decide +kernel⟩, .inl rfl, .inl rfl, by decide, by decide, fun _ _ _ _ _ _ _ _ _ => rfl, fun _ _ _ _ _ _ _ _ _ => rfl⟩
theorem ke4 : InitTxt (iOf 4) "at" := ⟨⟨_, _, _, _, rfl⟩, ⟨rfl, rfl, rfl, by decide +kernel, rfl, by decide +kernel, by decide +kernel⟩, .inl rfl, .inl rfl, by decide, by decide, fun _ _ _ _ _ _ _ _ _ => rfl, fun _ _ _ _ _ _ _ _ _ => rfl⟩
theorem ke5 : InitTxt (iOf 5) "at" := ⟨⟨_, _, _, _, rfl⟩, ⟨rfl, rfl, rfl, by decide +kernel, rfl, by decide +kernel, by decide +kernel⟩, .inl rfl, .inl rfl, by decide, by decide, fun _ _ _ _ _ _ _ _ _ => rfl, fun _ _ _ _ _ _ _ _ _ => rfl⟩
theorem ke6 : InitTxt (iOf 6) "at" := ⟨⟨_, _, _, _, rfl⟩, ⟨rfl, rfl, rfl, by decide +kernel, rfl, by decide +kernel, by decide +kernel⟩, .inl rfl, .inl rfl, by decide, by decide, fun _ _ _ _ _ _ _ _ _ => rfl, fun _ _ _ _ _ _ _ _ _ => rfl⟩
theorem ke7 : InitTxt (iOf 7) "at" := ⟨⟨_, _, _, _, rfl⟩, ⟨rfl, rfl, rfl, by decide +kernel, rfl, by decide +kernel, by decide +kernel⟩, .inl rfl, .inl rfl, by decide, by decide, fun _ _ _ _ _ _ _ _ _ => rfl, fun _ _ _ _ _ _ _ _ _ => rfl⟩
theorem ke8 : InitTxt (iOf 8) "at" := ⟨⟨_, _, _, _, rfl⟩, ⟨rfl, rfl, rfl, by decide +kernel, rfl, by decide +kernel, by decide +kernel⟩, .inl rfl, .inl rfl, by decide, by decide, fun _ _ _ _ _ _ _ _ _ => rfl, fun _ _ _ _ _ _ _ _ _ => rfl⟩
theorem ke9 : InitTxt (iOf 9) "at" := ⟨⟨_, _, _, _, rfl⟩, ⟨rfl, rfl, rfl, by decide +kernel, rfl, by decide +kernel, by decide +kernel⟩, .inl rfl, .inl rfl, by decide, by decide, fun _ _ _ _ _ _ _ _ _ => rfl, fun _ _ _ _ _ _ _ _ _ => rfl⟩
theorem ke10 : InitTxt (iOf 10) "at" := ⟨⟨_, _, _, _, rfl⟩, ⟨rfl, rfl, rfl, by decide +kernel, rfl, by decide +kernel, by decide +kernel⟩, .inl rfl, .inl rfl, by decide, by decide, fun _ _ _ _ _ _ _ _ _ => rfl, fun _ _ _ _ _ _ _ _ _ => rfl⟩
theorem ke13 : InitTxt (iOf 13) "at" := ⟨⟨_, _, _, _, rfl⟩, ⟨rfl, rfl, rfl, by decide +kernel, rfl, by decide +kernel, by decide +kernel⟩, .inl rfl, .inl rfl, by decide, by decide, fun _ _ _ _ _ _ _ _ _ => rfl, fun _ _ _ _ _ _ _ _ _ => rfl⟩
theorem ke11 : InitTxt (iOf 11) "word" := ⟨⟨_, _, _, _, rfl⟩, ⟨rfl, rfl, rfl, by decide +kernel, rfl, by decide +kernel, by decide +kernel⟩, .inl rfl, .inl rfl, by decide, by decide, fun _ _ _ _ _ _ _ _ _ => rfl, fun _ _ _ _ _ _ _ _ _ => rfl⟩
theorem ke14 : InitTxt (iOf 14) "name" := ⟨⟨_, _, _, _, rfl⟩, ⟨rfl, rfl, rfl, by decide +kernel, rfl, by decide +kernel, by decide +kernel⟩, .inl rfl, .inl rfl, by decide, by decide, fun _ _ _ _ _ _ _ _ _ => rfl, fun _ _ _ _ _ _ _ _ _ => rfl⟩

def kitB (K : W.Frag) (cs : List Addr) (L N : Addr) : Bool :=
  (List.range 12).all (fun i => (List.range 12).all fun j => decide (W.kitOne K (.ref (cs.getD i 0)) (.ref (cs.getD j 0)) = some (decide (i = j)))) &&
  (List.range 12).all (fun i => decide (W.kitOne K (.ref (cs.getD i 0)) (.ref L) = some true)) &&
  (List.range 12).all (fun i => decide (W.kitOne K (.ref (cs.getD i 0)) (.type "Exception") = some true)) &&
  (List.range 12).all (fun i => decide (W.kitOne K (.ref (cs.getD i 0)) (.type "KeyError") = some false)) &&
  decide (W.kitOne K (.ref N) (.ref L) = some false) && decide (W.kitOne K (.ref N) (.type "KeyError") = some true) && decide (W.exmOne K (.ref N) (.ref N) = some true) &&
  decide (W.specialIn K (.builtin "object.__class__") "__get__" = some (some (.builtin "getset_descriptor.__get__"))) && decide (W.takesIn K (.builtin "object.__class__") = some true)
theorem of_all {p : Nat → Prop} [DecidablePred p] {n : Nat} (h : (List.range n).all (fun i => decide (p i)) = true) {i : Nat} (hi : i < n) : p i := of_decide_eq_true (List.all_eq_true.mp h i (List.mem_range.mpr hi))
theorem exE : ∃ bm', ExcBaseFacts "Exception" "Exception.__new__" "Exception.__init__" bm' := ⟨_, PySem.F.excBase_Exception⟩
theorem exS : ∃ B', StoreFacts B' exTail "object.__setattr__" "object" := ⟨_, PySem.F.store_Exception⟩
theorem keE : ∃ bm', ExcBaseFacts "LookupError" "LookupError.__new__" "LookupError.__init__" bm' := ⟨_, PySem.F.excBase_LookupError⟩
theorem keS : ∃ B', StoreFacts B' keyTail "object.__setattr__" "object" := ⟨_, store_KeyError⟩

theorem all_mk {P : Program} {w : World} {K : W.Frag} {h : Heap} {mg : Str → Option Value} {fa : Addr} {C0 i0 : Addr} {C1 i1 : Addr} {C2 i2 : Addr} {C3 i3 : Addr} {C4 i4 : Addr} {C5 i5 : Addr} {C6 i6 : Addr} {C7 i7 : Addr} {C8 i8 : Addr} {C9 i9 : Addr} {C10 i10 : Addr} {C11 i11 : Addr} {C12 i12 : Addr} {oi0 vi0 di0 pi0 ci0 ti0 : Value} {xi0 ni0 : Option Addr} {si0 : Array (Option Value)} {oi1 vi1 di1 pi1 ci1 ti1 : Value} {xi1 ni1 : Option Addr} {si1 : Array (Option Value)} {oi2 vi2 di2 pi2 ci2 ti2 : Value} {xi2 ni2 : Option Addr} {si2 : Array (Option Value)} {oi3 vi3 di3 pi3 ci3 ti3 : Value} {xi3 ni3 : Option Addr} {si3 : Array (Option Value)} {oi4 vi4 di4 pi4 ci4 ti4 : Value} {xi4 ni4 : Option Addr} {si4 : Array (Option Value)} {oi5 vi5 di5 pi5 ci5 ti5 : Value} {xi5 ni5 : Option Addr} {si5 : Array (Option Value)} {oi6 vi6 di6 pi6 ci6 ti6 : Value} {xi6 ni6 : Option Addr} {si6 : Array (Option Value)} {oi7 vi7 di7 pi7 ci7 ti7 : Value} {xi7 ni7 : Option Addr} {si7 : Array (Option Value)} {oi8 vi8 di8 pi8 ci8 ti8 : Value} {xi8 ni8 : Option Addr} {si8 : Array (Option Value)} {oi9 vi9 di9 pi9 ci9 ti9 : Value} {xi9 ni9 : Option Addr} {si9 : Array (Option Value)} {oi10 vi10 di10 pi10 ci10 ti10 : Value} {xi10 ni10 : Option Addr} {si10 : Array (Option Value)} {oi11 vi11 di11 pi11 ci11 ti11 : Value} {xi11 ni11 : Option Addr} {si11 : Array (Option Value)} {oi12 vi12 di12 pi12 ci12 ti12 : Value} {xi12 ni12 : Option Addr} {si12 : Array (Option Value)} {L : Addr} {f_box : Addr} {o_box v_box d_box p_box c_box t_box : Value} {x_box n_box : Option Addr} {s_box : Array (Option Value)} {f_take : Addr} {o_take v_take d_take p_take c_take t_take : Value} {x_take n_take : Option Addr} {s_take : Array (Option Value)} {f_pick : Addr} {o_pick v_pick d_pick p_pick c_pick t_pick : Value} {x_pick n_pick : Option Addr} {s_pick : Array (Option Value)} {f_placed : Addr} {o_placed v_placed d_placed p_placed c_placed t_placed : Value} {x_placed n_placed : Option Addr} {s_placed : Array (Option Value)} {f_kinds : Addr} {o_kinds v_kinds d_kinds p_kinds c_kinds t_kinds : Value} {x_kinds n_kinds : Option Addr} {s_kinds : Array (Option Value)} {f_plain : Addr} {o_plain v_plain d_plain p_plain c_plain t_plain : Value} {x_plain n_plain : Option Addr} {s_plain : Array (Option Value)} {f_named : Addr} {o_named v_named d_named p_named c_named t_named : Value} {x_named n_named : Option Addr} {s_named : Array (Option Value)} {f_law : Addr} {o_law v_law d_law p_law c_law t_law : Value} {x_law n_law : Option Addr} {s_law : Array (Option Value)}
    (X : K.In h) (G : h.Ns mainGlobals mg) (hfa : mg "law" = some (.ref fa))
    (a0 : W.nsIn K mainGlobals "InvalidHouse" = some (some (.ref C0))) (b0 : clsB K C0 exTail "Exception.__new__" "at" = true) (n0 : W.findIn K (.ref C0) "__init__" = some (some (.ref i0))) (t0 : W.typeIn K (.ref i0) = some (.type "function"))
    (l0 : K.lookup i0 = some ⟨oi0, xi0, .func (W.fnOf "__init__" "InvalidHouse.__init__" (defArgs (iOf 2)) (defBody (iOf 2)) (defScope (iOf 2)) .none vi0 di0 pi0 ni0 ci0 ti0), si0⟩) (c0 : W.codeIn K ci0 "InvalidHouse.__init__" = true) (k0 : W.keepIn K (.ref i0) = true)
    (a1 : W.nsIn K mainGlobals "InvalidGuest" = some (some (.ref C1))) (b1 : clsB K C1 exTail "Exception.__new__" "at" = true) (n1 : W.findIn K (.ref C1) "__init__" = some (some (.ref i1))) (t1 : W.typeIn K (.ref i1) = some (.type "function"))
    (l1 : K.lookup i1 = some ⟨oi1, xi1, .func (W.fnOf "__init__" "InvalidGuest.__init__" (defArgs (iOf 3)) (defBody (iOf 3)) (defScope (iOf 3)) .none vi1 di1 pi1 ni1 ci1 ti1), si1⟩) (c1 : W.codeIn K ci1 "InvalidGuest.__init__" = true) (k1 : W.keepIn K (.ref i1) = true)
    (a2 : W.nsIn K mainGlobals "InvalidPlan" = some (some (.ref C2))) (b2 : clsB K C2 exTail "Exception.__new__" "at" = true) (n2 : W.findIn K (.ref C2) "__init__" = some (some (.ref i2))) (t2 : W.typeIn K (.ref i2) = some (.type "function"))
    (l2 : K.lookup i2 = some ⟨oi2, xi2, .func (W.fnOf "__init__" "InvalidPlan.__init__" (defArgs (iOf 4)) (defBody (iOf 4)) (defScope (iOf 4)) .none vi2 di2 pi2 ni2 ci2 ti2), si2⟩) (c2 : W.codeIn K ci2 "InvalidPlan.__init__" = true) (k2 : W.keepIn K (.ref i2) = true)
    (a3 : W.nsIn K mainGlobals "InvalidStory" = some (some (.ref C3))) (b3 : clsB K C3 exTail "Exception.__new__" "at" = true) (n3 : W.findIn K (.ref C3) "__init__" = some (some (.ref i3))) (t3 : W.typeIn K (.ref i3) = some (.type "function"))
    (l3 : K.lookup i3 = some ⟨oi3, xi3, .func (W.fnOf "__init__" "InvalidStory.__init__" (defArgs (iOf 5)) (defBody (iOf 5)) (defScope (iOf 5)) .none vi3 di3 pi3 ni3 ci3 ti3), si3⟩) (c3 : W.codeIn K ci3 "InvalidStory.__init__" = true) (k3 : W.keepIn K (.ref i3) = true)
    (a4 : W.nsIn K mainGlobals "InvalidLot" = some (some (.ref C4))) (b4 : clsB K C4 exTail "Exception.__new__" "at" = true) (n4 : W.findIn K (.ref C4) "__init__" = some (some (.ref i4))) (t4 : W.typeIn K (.ref i4) = some (.type "function"))
    (l4 : K.lookup i4 = some ⟨oi4, xi4, .func (W.fnOf "__init__" "InvalidLot.__init__" (defArgs (iOf 6)) (defBody (iOf 6)) (defScope (iOf 6)) .none vi4 di4 pi4 ni4 ci4 ti4), si4⟩) (c4 : W.codeIn K ci4 "InvalidLot.__init__" = true) (k4 : W.keepIn K (.ref i4) = true)
    (a5 : W.nsIn K mainGlobals "InvalidOrder" = some (some (.ref C5))) (b5 : clsB K C5 exTail "Exception.__new__" "at" = true) (n5 : W.findIn K (.ref C5) "__init__" = some (some (.ref i5))) (t5 : W.typeIn K (.ref i5) = some (.type "function"))
    (l5 : K.lookup i5 = some ⟨oi5, xi5, .func (W.fnOf "__init__" "InvalidOrder.__init__" (defArgs (iOf 7)) (defBody (iOf 7)) (defScope (iOf 7)) .none vi5 di5 pi5 ni5 ci5 ti5), si5⟩) (c5 : W.codeIn K ci5 "InvalidOrder.__init__" = true) (k5 : W.keepIn K (.ref i5) = true)
    (a6 : W.nsIn K mainGlobals "InvalidSensor" = some (some (.ref C6))) (b6 : clsB K C6 exTail "Exception.__new__" "at" = true) (n6 : W.findIn K (.ref C6) "__init__" = some (some (.ref i6))) (t6 : W.typeIn K (.ref i6) = some (.type "function"))
    (l6 : K.lookup i6 = some ⟨oi6, xi6, .func (W.fnOf "__init__" "InvalidSensor.__init__" (defArgs (iOf 8)) (defBody (iOf 8)) (defScope (iOf 8)) .none vi6 di6 pi6 ni6 ci6 ti6), si6⟩) (c6 : W.codeIn K ci6 "InvalidSensor.__init__" = true) (k6 : W.keepIn K (.ref i6) = true)
    (a7 : W.nsIn K mainGlobals "InvalidLog" = some (some (.ref C7))) (b7 : clsB K C7 exTail "Exception.__new__" "at" = true) (n7 : W.findIn K (.ref C7) "__init__" = some (some (.ref i7))) (t7 : W.typeIn K (.ref i7) = some (.type "function"))
    (l7 : K.lookup i7 = some ⟨oi7, xi7, .func (W.fnOf "__init__" "InvalidLog.__init__" (defArgs (iOf 9)) (defBody (iOf 9)) (defScope (iOf 9)) .none vi7 di7 pi7 ni7 ci7 ti7), si7⟩) (c7 : W.codeIn K ci7 "InvalidLog.__init__" = true) (k7 : W.keepIn K (.ref i7) = true)
    (a8 : W.nsIn K mainGlobals "InvalidText" = some (some (.ref C8))) (b8 : clsB K C8 exTail "Exception.__new__" "at" = true) (n8 : W.findIn K (.ref C8) "__init__" = some (some (.ref i8))) (t8 : W.typeIn K (.ref i8) = some (.type "function"))
    (l8 : K.lookup i8 = some ⟨oi8, xi8, .func (W.fnOf "__init__" "InvalidText.__init__" (defArgs (iOf 10)) (defBody (iOf 10)) (defScope (iOf 10)) .none vi8 di8 pi8 ni8 ci8 ti8), si8⟩) (c8 : W.codeIn K ci8 "InvalidText.__init__" = true) (k8 : W.keepIn K (.ref i8) = true)
    (a9 : W.nsIn K mainGlobals "Refused" = some (some (.ref C9))) (b9 : clsB K C9 exTail "Exception.__new__" "at" = true) (n9 : W.findIn K (.ref C9) "__init__" = some (some (.ref i9))) (t9 : W.typeIn K (.ref i9) = some (.type "function"))
    (l9 : K.lookup i9 = some ⟨oi9, xi9, .func (W.fnOf "__init__" "Refused.__init__" (defArgs (iOf 13)) (defBody (iOf 13)) (defScope (iOf 13)) .none vi9 di9 pi9 ni9 ci9 ti9), si9⟩) (c9 : W.codeIn K ci9 "Refused.__init__" = true) (k9 : W.keepIn K (.ref i9) = true)
    (a10 : W.nsIn K mainGlobals "InvalidSize" = some (some (.ref C10))) (b10 : clsB K C10 exTail "Exception.__new__" "word" = true) (n10 : W.findIn K (.ref C10) "__init__" = some (some (.ref i10))) (t10 : W.typeIn K (.ref i10) = some (.type "function"))
    (l10 : K.lookup i10 = some ⟨oi10, xi10, .func (W.fnOf "__init__" "InvalidSize.__init__" (defArgs (iOf 11)) (defBody (iOf 11)) (defScope (iOf 11)) .none vi10 di10 pi10 ni10 ci10 ti10), si10⟩) (c10 : W.codeIn K ci10 "InvalidSize.__init__" = true) (k10 : W.keepIn K (.ref i10) = true)
    (a11 : W.nsIn K mainGlobals "InvalidCommand" = some (some (.ref C11))) (b11 : clsB K C11 exTail "Exception.__new__" "at" = true) (n11 : W.findIn K (.ref C11) "__init__" = some (some (.ref i11))) (t11 : W.typeIn K (.ref i11) = some (.type "function"))
    (l11 : K.lookup i11 = some ⟨oi11, xi11, .func (W.fnOf "__init__" "InvalidCommand.__init__" (defArgs (iOf 12)) (defBody (iOf 12)) (defScope (iOf 12)) .none vi11 di11 pi11 ni11 ci11 ti11), si11⟩) (c11 : W.codeIn K ci11 "InvalidCommand.__init__" = true) (k11 : W.keepIn K (.ref i11) = true)
    (a12 : W.nsIn K mainGlobals "NoName" = some (some (.ref C12))) (b12 : clsB K C12 keyTail "LookupError.__new__" "name" = true) (n12 : W.findIn K (.ref C12) "__init__" = some (some (.ref i12))) (t12 : W.typeIn K (.ref i12) = some (.type "function"))
    (l12 : K.lookup i12 = some ⟨oi12, xi12, .func (W.fnOf "__init__" "NoName.__init__" (defArgs (iOf 14)) (defBody (iOf 14)) (defScope (iOf 14)) .none vi12 di12 pi12 ni12 ci12 ti12), si12⟩) (c12 : W.codeIn K ci12 "NoName.__init__" = true) (k12 : W.keepIn K (.ref i12) = true)
    (aL : W.nsIn K mainGlobals "LightError" = some (some (.ref L)))
    (e_box : W.nsIn K mainGlobals "_law_box" = some (some (.ref f_box))) (l_box : K.lookup f_box = some ⟨o_box, x_box, .func (W.fnOf "_law_box" "_law_box" (defArgs (top 16)) (defBody (top 16)) (defScope (top 16)) .none v_box d_box p_box n_box c_box t_box), s_box⟩) (g_box : W.codeIn K c_box "_law_box" = true) (k_box : W.keepIn K (.ref f_box) = true)
    (e_take : W.nsIn K mainGlobals "_law_take" = some (some (.ref f_take))) (l_take : K.lookup f_take = some ⟨o_take, x_take, .func (W.fnOf "_law_take" "_law_take" (defArgs (top 17)) (defBody (top 17)) (defScope (top 17)) .none v_take d_take p_take n_take c_take t_take), s_take⟩) (g_take : W.codeIn K c_take "_law_take" = true) (k_take : W.keepIn K (.ref f_take) = true)
    (e_pick : W.nsIn K mainGlobals "_law_pick" = some (some (.ref f_pick))) (l_pick : K.lookup f_pick = some ⟨o_pick, x_pick, .func (W.fnOf "_law_pick" "_law_pick" (defArgs (top 18)) (defBody (top 18)) (defScope (top 18)) .none v_pick d_pick p_pick n_pick c_pick t_pick), s_pick⟩) (g_pick : W.codeIn K c_pick "_law_pick" = true) (k_pick : W.keepIn K (.ref f_pick) = true)
    (e_placed : W.nsIn K mainGlobals "_law_placed" = some (some (.ref f_placed))) (l_placed : K.lookup f_placed = some ⟨o_placed, x_placed, .func (W.fnOf "_law_placed" "_law_placed" (defArgs (top 19)) (defBody (top 19)) (defScope (top 19)) .none v_placed d_placed p_placed n_placed c_placed t_placed), s_placed⟩) (g_placed : W.codeIn K c_placed "_law_placed" = true) (k_placed : W.keepIn K (.ref f_placed) = true)
    (e_kinds : W.nsIn K mainGlobals "_law_kinds" = some (some (.ref f_kinds))) (l_kinds : K.lookup f_kinds = some ⟨o_kinds, x_kinds, .func (W.fnOf "_law_kinds" "_law_kinds" (defArgs (top 20)) (defBody (top 20)) (defScope (top 20)) .none v_kinds d_kinds p_kinds n_kinds c_kinds t_kinds), s_kinds⟩) (g_kinds : W.codeIn K c_kinds "_law_kinds" = true) (k_kinds : W.keepIn K (.ref f_kinds) = true)
    (e_plain : W.nsIn K mainGlobals "_law_is_plain" = some (some (.ref f_plain))) (l_plain : K.lookup f_plain = some ⟨o_plain, x_plain, .func (W.fnOf "_law_is_plain" "_law_is_plain" (defArgs (top 21)) (defBody (top 21)) (defScope (top 21)) .none v_plain d_plain p_plain n_plain c_plain t_plain), s_plain⟩) (g_plain : W.codeIn K c_plain "_law_is_plain" = true) (k_plain : W.keepIn K (.ref f_plain) = true)
    (e_named : W.nsIn K mainGlobals "_law_named" = some (some (.ref f_named))) (l_named : K.lookup f_named = some ⟨o_named, x_named, .func (W.fnOf "_law_named" "_law_named" (defArgs (top 22)) (defBody (top 22)) (defScope (top 22)) .none v_named d_named p_named n_named c_named t_named), s_named⟩) (g_named : W.codeIn K c_named "_law_named" = true) (k_named : W.keepIn K (.ref f_named) = true)
    (e_law : W.nsIn K mainGlobals "law" = some (some (.ref f_law))) (l_law : K.lookup f_law = some ⟨o_law, x_law, .func (W.fnOf "law" "law" (defArgs (top 23)) (defBody (top 23)) (defScope (top 23)) .none v_law d_law p_law n_law c_law t_law), s_law⟩) (g_law : W.codeIn K c_law "law" = true) (k_law : W.keepIn K (.ref f_law) = true)
    (z_Exception : W.nsIn K mainGlobals "Exception" = some none)
    (z_KeyError : W.nsIn K mainGlobals "KeyError" = some none)
    (z_isinstance : W.nsIn K mainGlobals "isinstance" = some none)
    (z_enumerate : W.nsIn K mainGlobals "enumerate" = some none)
    (z_len : W.nsIn K mainGlobals "len" = some none)
    (z_abs : W.nsIn K mainGlobals "abs" = some none)
    (z_int : W.nsIn K mainGlobals "int" = some none)
    (z_range : W.nsIn K mainGlobals "range" = some none)
    (z_max : W.nsIn K mainGlobals "max" = some none)
    (z_min : W.nsIn K mainGlobals "min" = some none)
    (z_repr : W.nsIn K mainGlobals "repr" = some none)
    (kit : kitB K [C0, C1, C2, C3, C4, C5, C6, C7, C8, C9, C10, C11] L C12 = true) :
    ∀ (s : Shared) (a : Addr) (ns : List Int) (base : Heap) (H : Hp), ns.length ≤ 63 → K.In base → base.Ns mainGlobals mg → Env0 P w K mg base callerA [] s H → Only H → SqL K H a (ns.map V.int) →
      codeAny (model P w) callerA (.call (.ref fa) ⟨[.ref a], []⟩) (CR CX0 [] P w H s (fun v _ => v = .bl true) E0) s := by
  intro s a ns base H few _ _ e0 _ sq
  have e := hfa.symm.trans (W.mg_of X G e_law)
  cases e
  unfold kitB at kit
  simp only [Bool.and_eq_true, decide_eq_true_eq] at kit
  obtain ⟨⟨⟨⟨⟨⟨⟨⟨q1, q2⟩, q3⟩, q4⟩, q5⟩, q6⟩, q7⟩, q8⟩, q9⟩ := kit
  have N : Nums mg := ⟨W.mg_none_of X G z_len, W.mg_none_of X G z_abs, W.mg_none_of X G z_int⟩

  have c11' : Cl0 P w K mg base "InvalidCommand" C11 "Exception" "Exception.__new__" "Exception.__init__" exTail := by
    obtain ⟨E, _, _⟩ := ecl_of (initId := "Exception.__init__") b11 exE tail_Exception exS
    exact ⟨E, W.mg_of X G a11, i11, _, n11, t11, ok_bare (st := iOf 12) (fun_mk (st := iOf 12) l11 c11 k11) rfl ⟨rfl, rfl, rfl, by decide +kernel, rfl, by decide +kernel, by decide +kernel⟩, fun s a => .of_eq rfl⟩
  have T : Txt P w K mg base (fun i => [C0, C1, C2, C3, C4, C5, C6, C7, C8, C9, C10, C11].getD i 0) L C12 := {
    c0 := cl1_mk X G a0 b0 n0 t0 l0 c0 k0 ke2 exE tail_Exception exS
    c1 := cl1_mk X G a1 b1 n1 t1 l1 c1 k1 ke3 exE tail_Exception exS
    c2 := cl1_mk X G a2 b2 n2 t2 l2 c2 k2 ke4 exE tail_Exception exS
    c3 := cl1_mk X G a3 b3 n3 t3 l3 c3 k3 ke5 exE tail_Exception exS
    c4 := cl1_mk X G a4 b4 n4 t4 l4 c4 k4 ke6 exE tail_Exception exS
    c5 := cl1_mk X G a5 b5 n5 t5 l5 c5 k5 ke7 exE tail_Exception exS
    c6 := cl1_mk X G a6 b6 n6 t6 l6 c6 k6 ke8 exE tail_Exception exS
    c7 := cl1_mk X G a7 b7 n7 t7 l7 c7 k7 ke9 exE tail_Exception exS
    c8 := cl1_mk X G a8 b8 n8 t8 l8 c8 k8 ke10 exE tail_Exception exS
    c9 := cl1_mk X G a9 b9 n9 t9 l9 c9 k9 ke13 exE tail_Exception exS
    c10 := cl1_mk X G a10 b10 n10 t10 l10 c10 k10 ke11 exE tail_Exception exS
    cN := cl1_mk X G a12 b12 n12 t12 l12 c12 k12 ke14 keE tail_KeyError keS
    c11 := c11'
    kit := fun i j hi hj => by
      have := List.all_eq_true.mp q1 i (List.mem_range.mpr hi)
      exact of_all this hj
    kitL := fun i hi => of_all q2 hi
    kitE := fun i hi => of_all q3 hi
    kitK := fun i hi => of_all q4 hi
    kitNL := q5
    kitNK := q6
    exm := q7
    G := ⟨q8, q9⟩
    mL := W.mg_of X G aL
    mE := W.mg_none_of X G z_Exception
    mK := W.mg_none_of X G z_KeyError
    isi := W.mg_none_of X G z_isinstance
    enu := W.mg_none_of X G z_enumerate
    nums := N }
  have ft := fun_mk (st := sTake) l_take g_take k_take
  have D : Defs P w K mg base (fun i => [C0, C1, C2, C3, C4, C5, C6, C7, C8, C9, C10, C11].getD i 0) := {
    box := callee_mk (st := top 16) X G e_box l_box g_box k_box (fun _ _ _ _ _ _ us hl => match us, hl with | [_, _], _ => rfl) (fun fd F => ok_box F N)
    take := callee_mk (st := top 17) X G e_take l_take g_take k_take (fun _ _ _ _ _ _ us hl => match us, hl with | [_, _], _ => rfl) (fun fd F => ok_take F N)
    pick := callee_mk (st := top 18) X G e_pick l_pick g_pick k_pick (fun _ _ _ _ _ _ us hl => match us, hl with | [_, _], _ => rfl) (fun fd F => ok_pick F N ft (ft.binds (ps := ["_law_box_here", "_law_many"]) (fun _ _ _ _ _ _ us hl => match us, hl with | [_, _], _ => rfl)) (W.mg_of X G e_take))
    placed := callee_mk (st := top 19) X G e_placed l_placed g_placed k_placed (fun _ _ _ _ _ _ us hl => match us, hl with | [_, _], _ => rfl) (fun fd F => ok_placed F T)
    kinds := callee_mk (st := top 20) X G e_kinds l_kinds g_kinds k_kinds (fun _ _ _ _ _ _ us hl => match us, hl with | [_], _ => rfl) (fun fd F => ok_kinds F T)
    plain := callee_mk (st := top 21) X G e_plain l_plain g_plain k_plain (fun _ _ _ _ _ _ us hl => match us, hl with | [_], _ => rfl) (fun fd F => ok_plain F T)
    named := callee_mk (st := top 22) X G e_named l_named g_named k_named (fun _ _ _ _ _ _ us hl => match us, hl with | [_], _ => rfl) (fun fd F => ok_named F T)
    range := W.mg_none_of X G z_range
    max := W.mg_none_of X G z_max
    min := W.mg_none_of X G z_min
    rep := W.mg_none_of X G z_repr }
  have fl := fun_mk (st := sLaw) l_law g_law k_law
  exact law_ok fl T D e0 (fl.binds (ps := ["_law_script"]) (fun _ _ _ _ _ _ us hl => match us, hl with | [_], _ => rfl)) sq few
end K00

open PySem PySem.W PyProof.Rows in
set_option maxRecDepth 100000 in
set_option maxHeartbeats 0 in
theorem PySem.Challenge.cw_lightsout_k00_errors_and_what_they_keep_holds : PySem.Challenge.rw_lightsout_k00_errors_and_what_they_keep.Holds := by
  w_on; o_law; k_head; (case hw => w_witness2)
  k_fill
  refine Cal.walk (l := PySem.Challenge.rw_lightsout_k00_errors_and_what_they_keep) (n := 63) rfl (by decide) rfl (fun w h Y => PySem.W.kIn_of Y) ?F
  case F =>
    intro w mg fa h KX G hmg
    refine' K00.all_mk KX G hmg ?a0 ?b0 ?n0 ?t0 ?l0 ?c0 ?k0 ?a1 ?b1 ?n1 ?t1 ?l1 ?c1 ?k1 ?a2 ?b2 ?n2 ?t2 ?l2 ?c2 ?k2 ?a3 ?b3 ?n3 ?t3 ?l3 ?c3 ?k3 ?a4 ?b4 ?n4 ?t4 ?l4 ?c4 ?k4 ?a5 ?b5 ?n5 ?t5 ?l5 ?c5 ?k5 ?a6 ?b6 ?n6 ?t6 ?l6 ?c6 ?k6 ?a7 ?b7 ?n7 ?t7 ?l7 ?c7 ?k7 ?a8 ?b8 ?n8 ?t8 ?l8 ?c8 ?k8 ?a9 ?b9 ?n9 ?t9 ?l9 ?c9 ?k9 ?a10 ?b10 ?n10 ?t10 ?l10 ?c10 ?k10 ?a11 ?b11 ?n11 ?t11 ?l11 ?c11 ?k11 ?a12 ?b12 ?n12 ?t12 ?l12 ?c12 ?k12 ?aL ?e_box ?l_box ?g_box ?k_box ?e_take ?l_take ?g_take ?k_take ?e_pick ?l_pick ?g_pick ?k_pick ?e_placed ?l_placed ?g_placed ?k_placed ?e_kinds ?l_kinds ?g_kinds ?k_kinds ?e_plain ?l_plain ?g_plain ?k_plain ?e_named ?l_named ?g_named ?k_named ?e_law ?l_law ?g_law ?k_law ?z_Exception ?z_KeyError ?z_isinstance ?z_enumerate ?z_len ?z_abs ?z_int ?z_range ?z_max ?z_min ?z_repr ?kit
    (case a0 => k_is)
    (case b0 => kernel_rfl)
    (case n0 => k_is)
    (case t0 => k_is)
    (case l0 => k_is)
    (case c0 => k_is)
    (case k0 => k_is)
    (case a1 => k_is)
    (case b1 => kernel_rfl)
    (case n1 => k_is)
    (case t1 => k_is)
    (case l1 => k_is)
    (case c1 => k_is)
    (case k1 => k_is)
    (case a2 => k_is)
    (case b2 => kernel_rfl)
    (case n2 => k_is)
    (case t2 => k_is)
    (case l2 => k_is)
    (case c2 => k_is)
    (case k2 => k_is)
    (case a3 => k_is)
    (case b3 => kernel_rfl)
    (case n3 => k_is)
    (case t3 => k_is)
    (case l3 => k_is)
    (case c3 => k_is)
    (case k3 => k_is)
    (case a4 => k_is)
    (case b4 => kernel_rfl)
    (case n4 => k_is)
    (case t4 => k_is)
    (case l4 => k_is)
    (case c4 => k_is)
    (case k4 => k_is)
    (case a5 => k_is)
    (case b5 => kernel_rfl)
    (case n5 => k_is)
    (case t5 => k_is)
    (case l5 => k_is)
    (case c5 => k_is)
    (case k5 => k_is)
    (case a6 => k_is)
    (case b6 => kernel_rfl)
    (case n6 => k_is)
    (case t6 => k_is)
    (case l6 => k_is)
    (case c6 => k_is)
    (case k6 => k_is)
    (case a7 => k_is)
    (case b7 => kernel_rfl)
    (case n7 => k_is)
    (case t7 => k_is)
    (case l7 => k_is)
    (case c7 => k_is)
    (case k7 => k_is)
    (case a8 => k_is)
    (case b8 => kernel_rfl)
    (case n8 => k_is)
    (case t8 => k_is)
    (case l8 => k_is)
    (case c8 => k_is)
    (case k8 => k_is)
    (case a9 => k_is)
    (case b9 => kernel_rfl)
    (case n9 => k_is)
    (case t9 => k_is)
    (case l9 => k_is)
    (case c9 => k_is)
    (case k9 => k_is)
    (case a10 => k_is)
    (case b10 => kernel_rfl)
    (case n10 => k_is)
    (case t10 => k_is)
    (case l10 => k_is)
    (case c10 => k_is)
    (case k10 => k_is)
    (case a11 => k_is)
    (case b11 => kernel_rfl)
    (case n11 => k_is)
    (case t11 => k_is)
    (case l11 => k_is)
    (case c11 => k_is)
    (case k11 => k_is)
    (case a12 => k_is)
    (case b12 => kernel_rfl)
    (case n12 => k_is)
    (case t12 => k_is)
    (case l12 => k_is)
    (case c12 => k_is)
    (case k12 => k_is)
    (case aL => k_is)
    (case e_box => k_is)
    (case l_box => k_is)
    (case g_box => k_is)
    (case k_box => k_is)
    (case e_take => k_is)
    (case l_take => k_is)
    (case g_take => k_is)
    (case k_take => k_is)
    (case e_pick => k_is)
    (case l_pick => k_is)
    (case g_pick => k_is)
    (case k_pick => k_is)
    (case e_placed => k_is)
    (case l_placed => k_is)
    (case g_placed => k_is)
    (case k_placed => k_is)
    (case e_kinds => k_is)
    (case l_kinds => k_is)
    (case g_kinds => k_is)
    (case k_kinds => k_is)
    (case e_plain => k_is)
    (case l_plain => k_is)
    (case g_plain => k_is)
    (case k_plain => k_is)
    (case e_named => k_is)
    (case l_named => k_is)
    (case g_named => k_is)
    (case k_named => k_is)
    (case e_law => k_is)
    (case l_law => k_is)
    (case g_law => k_is)
    (case k_law => k_is)
    (case z_Exception => k_is)
    (case z_KeyError => k_is)
    (case z_isinstance => k_is)
    (case z_enumerate => k_is)
    (case z_len => k_is)
    (case z_abs => k_is)
    (case z_int => k_is)
    (case z_range => k_is)
    (case z_max => k_is)
    (case z_min => k_is)
    (case z_repr => k_is)
    (case kit => kernel_rfl)
#print axioms PySem.Challenge.cw_lightsout_k00_errors_and_what_they_keep_holds

