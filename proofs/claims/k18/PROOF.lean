import PyProof.Rows.All
import Wide.All
import OpenK.AllK
import Wide.FinOn
import HandS.Base
import HandS.Call
import HandS.List
import HandS.Ends
import HandS.Words
import PyProof.ReprRoads
import KE.KExcInit
import KE.KExcIs
import HandS.Exc
import HandS.ExcInit
import KE.KFromBytes
import HandS.IsInst
import HandS.TryOnly
import HandS.WordsExc
import KE.GoesEnum
import KE.GoesMore
import HandS.Comp
import HandS.Iter
import HandS.Walk
import HandS.TupMul
import HandS.WordsList
import HandS.Style
import HandS.TupAny
import HandS.Star
import HandS.NoneIn
import HandS.Dict
import HandS.Text
import HandS.DictComp
import HandS.CallLocal
import HandS.DeepEq
import HandS.ClsMeth
import HandS.EndTab
import HandS.Lambda
import PyProof.StrLawsChain
import PyProof.StrLawsTight
import KE.KTryMore
import HandS.ExcField
import KE.KExcLine
import KE.RegKIsAll
import PySem.Challenge.RW_lightsout_k18_deeds_in_all_house_rows
set_option Elab.async false
set_option linter.all false
set_option maxRecDepth 100000
set_option maxHeartbeats 16000000
/-! The law's own def, run from the law's caller alone: what its body knows more is that no repr runs around it. -/
namespace Cal
open PySem PySem.Spec PyProof.Rows L2

/-- what the law's call wants -/
abbrev Won (P : Program) (w : World) (s : Shared) (fa a : Addr) : Prop :=
  codeAny (model P w) callerA (.call (.ref fa) ⟨[.ref a], []⟩)
    (fun r s' => r = .ok (.ret (.bool true)) ∧ OldK s.heap s'.heap ∧ s'.os = s.os ∧ AllBare s'.gens) s

theorem won {P : Program} {w : World} {K : PySem.W.Frag} {mg mb : Str → Option Value} {fa a : Addr} {s : Shared} {vs : List Value} {ns : List Int}
    (kIn : K.In s.heap) (glo : s.heap.Ns mainGlobals mg) (bns : s.heap.Ns builtinsNs mb) (bbo : ∀ x : Str, x ≠ "__name__" → mb x = bootBuiltins x)
    (lim : s.heap.NoLimit) (gen : s.gens = #[]) (obj : s.heap.get? a = some { cls := .type "list", data := .seq vs.toArray })
    (its : IntsAre vs ns) (few : ns.length ≤ sizeLine)
    (run : ∀ (base : Heap) (H : Hp), K.In base → base.Ns mainGlobals mg → Env0 P w K mg base callerA [] s H → Only H → SqL K H a (ns.map V.int) →
      codeAny (model P w) callerA (.call (.ref fa) ⟨[.ref a], []⟩) (CR CX0 [] P w H s (fun v _ => v = .bl true) E0) s) :
    Won P w s fa a := by
  have vals := vals_ints its
  have size := its.length
  suffices main : ∀ H : Hp, Only H → SqL K H a (ns.map V.int) → HOk P w H s.heap → (∀ b, H b ≠ none → b = a ∧ K.lookup a = none) → Won P w s fa a by
    cases look : K.lookup a with
    | some o =>
      have o2 := kIn a o look
      rw [obj] at o2
      obtain rfl := Option.some.inj o2
      refine main (fun _ => none) (fun _ => Or.inl rfl) (Or.inr ⟨_, vs.toArray, _, look, rfl, rfl, rfl, ?_, ?_⟩) (fun b u z => nomatch z) (fun b z => (z rfl).elim)
      · simpa [size] using few
      · simpa using vals
    | none =>
      let H : Hp := fun b => if b = a then some (.frz { cls := .type "list", data := .seq vs.toArray } (.lst (ns.map V.int))) else none
      have at_a : H a = some (.frz { cls := .type "list", data := .seq vs.toArray } (.lst (ns.map V.int))) := if_pos rfl
      have off : ∀ {b}, b ≠ a → H b = none := fun z => if_neg z
      refine main H (fun b => ?_) (Or.inl (Or.inr ⟨_, at_a⟩)) (fun b u z => ?_) (fun b z => ?_)
      · by_cases e : b = a
        · subst e
          exact Or.inr ⟨_, _, at_a⟩
        · exact Or.inl (off e)
      · by_cases e : b = a
        · subst e
          rw [at_a] at z
          obtain rfl := Option.some.inj z
          exact ⟨obj, by simpa using few, vs, _, vals, obj⟩
        · rw [off e] at z
          cases z
      · by_cases e : b = a
        · exact ⟨e, look⟩
        · exact (z (off e)).elim
  intro H only sq ok here
  have free : ∀ {b : Addr} {o : Obj}, s.heap.get? b = some o → o.data ≠ .seq vs.toArray → H b = none := fun {b o} e d => by
    rcases only b with z | ⟨_, _, z⟩
    · exact z
    · obtain ⟨rfl, _⟩ := here b (by rw [z]; simp)
      rw [obj] at e
      obtain rfl := Option.some.inj e
      exact (d rfl).elim
  have space : ∀ {b : Addr} {m : Str → Option Value}, s.heap.Ns b m → (hidT s.heap H).Ns b m := fun {b m} ⟨o, es, ep, e, d, r⟩ =>
    ⟨o, es, ep, hidT_get e (free e (by rw [d]; intro z; cases z)), d, r⟩
  have kIn2 : K.In (hidT s.heap H) := fun b o e => hidT_get (kIn b o e) (by
    rcases only b with z | ⟨_, _, z⟩
    · exact z
    · obtain ⟨rfl, n⟩ := here b (by rw [z]; simp)
      rw [n] at e
      cases e)
  obtain ⟨mc, l1, l2⟩ := lim
  have env : Env0 P w K mg (hidT s.heap H) callerA [] s H := {
    frames := rfl
    mod := ⟨kIn2, space glo, ⟨mb, space bns, bbo⟩, ⟨mc, space l1, l2⟩⟩
    bs := fun b o e => of_hidT e
    bsz := Nat.le_of_eq (hidT_size _ _)
    funs := trivial
    frf := fun b hb => by simp [frs] at hb
    hok := ok
    bare := .of_eq gen }
  refine codeAny_mono (run _ H kIn2 (space glo) env only sq) fun r s' z => ?_
  match r, z with
  | .error e, z => exact z.elim
  | .ok .next, z => exact z.elim
  | .ok .brk, z => exact z.elim
  | .ok .cont, z => exact z.elim
  | .ok (.ret u), ⟨v, H', os, bare, un, ok', rv, q⟩ =>
    subst q
    obtain rfl : u = Value.bool true := rv
    refine ⟨rfl, OldK.of_keep fun b o e => ?_, os, bare⟩
    rcases only b with z | ⟨ob, xs, z⟩
    · exact un.keep b o e z (by simp [frs]) (by simp)
    · have y1 := (ok b _ z).1
      have y2 := (ok' b _ (un.frzs b ob _ z)).1
      rw [e] at y1
      obtain rfl := Option.some.inj y1
      exact y2

/-- the goal that k_head leaves, from the law's body run at its caller -/
theorem walk {l : PySem.W.OpenLaw} {n : Nat} {q : Program} {loose : List Str} {XP : (Str → Option Value) → Heap → Prop} {YP : World → Heap → Prop} {d : DefRec} {K : Params → PySem.W.Frag}
    (most : l.most = some n) (few : n ≤ sizeLine) (dfl : d.params.defaults = []) (hY : ∀ (w : World) (h : Heap), YP w h → (K w.params).In h)
    (run : ∀ (w : World) (mg : Str → Option Value) (fa : Addr) (h : Heap), (K w.params).In h → h.Ns mainGlobals mg → mg d.name = some (.ref fa) →
      ∀ (s : Shared) (a : Addr) (ns : List Int) (base : Heap) (H : Hp), ns.length ≤ n → (K w.params).In base → base.Ns mainGlobals mg → Env0 l.prog w (K w.params) mg base callerA [] s H → Only H → SqL (K w.params) H a (ns.map V.int) →
        codeAny (model l.prog w) callerA (.call (.ref fa) ⟨[.ref a], []⟩) (CR CX0 [] l.prog w H s (fun v _ => v = .bl true) E0) s) :
    PySem.W.WalkO q loose XP YP l.row.toRowW d [] (fun f vs => PySem.call f vs) := by
  refine Att.attach_call most dfl fun w s₀ s₁ mg mb fa o pm cd doc a vs ns G Y ho hd hcd hmg hobj hints hlen hg => ?_
  have KX := hY w _ Y
  exact won KX G.T.g G.T.b G.T.builtins G.T.nolimit hg hobj hints (Nat.le_trans hlen few) fun base H b1 b2 e0 only sq => run w mg fa _ KX G.T.g hmg s₁ a ns base H hlen b1 b2 e0 only sq

/-- the law's def, by its body: what a body of Fun.ok is, with the caller told -/
theorem law_run {P : Program} {w : World} {K : PySem.W.Frag} {mg : Str → Option Value} {base : Heap} {x qual : Str} {st : Stmt} {f : Addr} {fd : FuncData} {N ps : List Str} {s : Shared} {H : Hp} {us : List Value} {vs : List V} {Q : VK}
    (F : Fun K x qual st f fd) (S : FnScope N ps (defScope st)) (e0 : Env0 P w K mg base callerA [] s H) (bind : Binds K fd ps []) (r : Vals vs us) (hl : vs.length = ps.length)
    (body : ∀ cdv : Value, ∃ t, PSs (cxOf CX0 P w K mg base N qual (defScope st) f cdv callerA [] s H E0).nox (defBody st) t ∧ t { nx := fun _ H' => Q .non H', rt := Q } (start N vs) H) :
    codeAny (model P w) callerA (.call (.ref f) ⟨us, []⟩) (CR CX0 [] P w H s Q E0) s := by
  obtain ⟨oc, od, kV, doc, pm, an, cdv, ct, osl, rfl, lk, hcd⟩ := F.ex
  obtain ⟨t, ht, hq⟩ := body cdv
  have keep : ∀ b o, base.get? b = some o → s.heap.get? b = some o := fun b o e => (e0.bs b o e).1
  have kIn := e0.mod.kin.keeps keep
  have ul : us.length = ps.length := by rw [← r.length]; exact hl
  have hb := bind s us kIn (by simpa using ul)
  rw [List.append_nil] at hb
  refine codeAny_call_function (by decide) (kIn _ _ lk) rfl S.co S.gen rfl (PySem.W.codeRec_of kIn hcd) (hb _ _ _ _ ?_)
  refine wpAny_newFunctionEnv_cells S.kind (fun ⟨y, v⟩ hy => ?_) fun env he s1 z => ?_
  · have := S.par y (List.of_mem_zip hy).1
    rcases this with q | q
    · exact Or.inl q
    · exact Or.inr ⟨q, PySem.W.cellsFrom_some _ _ _ (Or.inl q)⟩
  · subst he
    refine ⟨(e0.mod.nolimit.keeps keep).keeps z.toInCall.keep, codeAny_func ?_⟩
    have I : Inv (cxOf CX0 P w K mg base N qual (defScope st) f cdv callerA [] s H E0) [] (start N vs) H s1 := inv_start S rfl e0 hl r z
    refine wpAny_mono (ht.nox.run [] s1 _ H _ I hq) (fun fl s' y => ?_) fun _ _ y => y
    match fl, y with
    | .ret u, ⟨v, σ', H', J, rv, q⟩ => exact ⟨v, H', J.os, J.bare, J.base, J.hok, rv, q⟩
    | .next, ⟨σ', H', J, q⟩ => exact ⟨.non, H', J.os, J.bare, J.base, J.hok, rfl, q⟩
    | .brk, ⟨_, _, _, q⟩ => exact q.elim
    | .cont, ⟨_, _, _, q⟩ => exact q.elim

/-- no repr runs around the law's own body -/
theorem calm_guards {P : Program} {w : World} {K : PySem.W.Frag} {mg : Str → Option Value} {base : Heap} {N : List Str} {qual : Str} {sc : Scope} {f : Addr} {cdv : Value} {s : Shared} {H : Hp} :
    (cxOf CX0 P w K mg base N qual sc f cdv callerA [] s H E0).nox.A.guards = some [] := rfl

/-! ### repr of data -/
section
variable {X : Cx}
def rRepr (K : PySem.W.Frag) : List V → Hp → VK → Prop := fun xs H Q =>
  ∃ (x : V) (d : PyData), xs = [x] ∧ Dp K H x d ∧ d.showable = true ∧ d.hasDict = false ∧ d.depth ≤ 20 ∧ d.shown.length ≤ sizeLine ∧ Q (.str d.shown) H
theorem call_repr (gu : X.A.guards = some []) (un : X.A.units + 64 < cLine) : CallR X (.builtin "repr") (rRepr X.K) := by
  intro pins s σ H xs us Q I r h
  obtain ⟨x, d, rfl, dp, sh, nd, de, sz, q⟩ := h
  obtain ⟨u, rfl, r1⟩ := vals1 r
  obtain ⟨as, rd⟩ := Dp.reads I d x u dp r1
  have fin : ∀ (h' : Heap) (v : Tok) (tk : Nat), (∀ b o, s.heap.get? b = some o → h'.get? b = some o) → EP X pins σ Q (.str d.shown v) { s with heap := h', toks := tk } :=
    fun h' v tk k => ⟨.str d.shown, H, I.kept k, ⟨v, rfl⟩, q⟩
  cases dp with
  | non =>
    cases r1
    exact PySem.P.repr_of_none (fin s.heap _ _ fun _ _ e => e)
  | bl b =>
    cases r1
    exact PySem.P.repr_of_bool (fin s.heap _ _ fun _ _ e => e)
  | int i =>
    obtain ⟨t, rfl⟩ := r1
    refine PySem.P.repr_of_int (by simpa [PyData.showable] using sh) ?_
    have := fin s.heap s.toks (s.toks + 1) fun _ _ e => e
    simpa only [PyData.shown] using this
  | str y =>
    obtain ⟨t, rfl⟩ := r1
    have := fin s.heap s.toks (s.toks + 1) fun _ _ e => e
    simp only [PyData.shown] at this sz
    exact PySem.P.repr_of_str this sz
  | lst hs ha =>
    cases r1
    exact repr_of_reads' rd sh (fun z => by rw [nd] at z; cases z) gu (by omega) (fun _ _ e => e) fin sz
  | tup hs ha =>
    cases r1
    exact repr_of_reads' rd sh (fun z => by rw [nd] at z; cases z) gu (by omega) (fun _ _ e => e) fin sz
end
end Cal

/-! An own exception of any built-in base made by a call with positional values and keywords: __new__ lays it, its own __init__ runs. -/
namespace Exn
open PySem PySem.Calls PyProof.Rows PySem.Spec
/-- what the classes above an own exception class must be: the one that makes it, no AttributeError, no NameError -/
structure Tail (bm : List Value) (B : String) : Prop where
  has : bm.contains (.type B) = true
  noA : bm.contains (.type "AttributeError") = false
  noN : bm.contains (.type "NameError") = false
section
variable {M : Model} {A : Around} {E : Value → Shared → Prop} {h : Heap} {g : Array GenState} {d : Drawn} {t : Nat} {os : OsState}
variable {nm q : Str} {C N : Addr} {bs bm bmB : List Value} {hd : Bool} {sn : List Str} {sub : List Value} {ab : Bool} {col : Option Bool} {dd : Option Addr}
  {k0 k1 k2 k3 k5 : Option Value} {B newId initId : String} {prog : Program} {w : World} {R : Result → Shared → Prop}

theorem chk_new (F : ExcBaseFacts B newId initId bmB) (tail : Tail bm B) {us : List Value} {kw : List (Str × Value)} {Q : Unit → Shared → Prop}
    (at_C : h.get? C = some (excClassObj nm q C N bs bm hd sn sub ab col dd k0 k1 k2 k3 k5 newId)) (k : Q () ⟨h, g, d, t, os⟩) :
    wpAny M A (checkBuiltinCall newId ⟨.ref C :: us, kw⟩) Q E ⟨h, g, d, t, os⟩ := by
  have has : (Value.ref C :: bm).contains (.type B) = true := by
    rw [List.contains_cons, tail.has]
    exact Bool.or_true _
  have star := F.noStar
  simp only [F.newRow, F.newSplit, F.newKind, checkBuiltinCall]
  repeat (first
    | refine wpAny_loadPart_at at_C ?_
    | (refine wpAny_isSubtype_exc at_C ?_; rw [has])
    | refine wpAny_staticBase_exc at_C ?_
    | refine wpAny_madeBy_exc at_C ?_
    | simp only [Bool.false_eq_true, bne_self_eq_false, if_false]
    | wp_step)
  exact k

theorem new_kw (F : ExcBaseFacts B newId initId bmB) (tail : Tail bm B) {us : List Value} {kw : List (Str × Value)}
    (at_C : h.get? C = some (excClassObj nm q C N bs bm hd sn sub ab col dd k0 k1 k2 k3 k5 newId)) (few : us.length ≤ sizeLine)
    (k : R (.ok (.ret (.ref (h.objs.size + 1)))) ⟨(h.push (PySem.W.kdv_tup us)).push (PySem.HandSPX.excO C h.objs.size), g, d, t, os⟩) :
    codeAny (model prog w) A (.builtin newId ⟨.ref C :: us, kw⟩) R ⟨h, g, d, t, os⟩ := by
  have e0 := F.ends
  have inB : (Value.ref C :: bm).contains (.type B) = true := by
    rw [List.contains_cons, tail.has]
    exact Bool.or_true _
  have noA : (Value.ref C :: bm).contains (.type "AttributeError") = false := by
    rw [List.contains_cons, tail.noA]
    rfl
  have noN : (Value.ref C :: bm).contains (.type "NameError") = false := by
    rw [List.contains_cons, tail.noN]
    rfl
  refine codeAny_builtinAt F.entry ?_
  unfold Builtin.«BaseException.__new__»
  refine PySem.wpAt_bind ?_
  show PySem.wpAt _ _ _ (stack >>= _) _ _ _
  refine PySem.wpAt_bind (PySem.wpAt_stack fun p below => PySem.wpAt_of_wpAny ?_)
  wp_walk
  refine PySem.wpAt_of_wpAny ?_
  rw [F.owner]
  repeat (first
    | with_reducible refine wpAny_madeHere_exc F.canon at_C ?_
    | with_reducible refine wpAny_loadPart_at at_C ?_
    | (with_reducible refine wpAny_isSubtype_exc at_C ?_; first | rw [inB] | rw [noA] | rw [noN])
    | wp_step)
  show R _ _
  rw [Heap.size_push]
  exact k

/-- C(us, kw): the exception is laid, then its own __init__ runs -/
theorem type_call_kw (F : ExcBaseFacts B newId initId bmB) (tail : Tail bm B) {us : List Value} {kw : List (Str × Value)} {fI : Addr} {Q : Fin → Shared → Prop}
    (at_C : h.get? C = some (excClassObj nm q C N bs bm hd sn sub ab col dd k0 k1 k2 k3 k5 newId)) (few : us.length ≤ sizeLine)
    (init : W.Looks (model prog w) h (typeLookup (.ref C) "__init__") (some (.ref fI))) (bind : ∀ self, W.Looks (model prog w) h (bindSpecial (.ref fI) self) (.ref fI, [self]))
    (k : codeAny (model prog w) A (.call (.ref fI) ⟨.ref (h.objs.size + 1) :: us, kw⟩)
      (fun r s' => match r with | .ok (.ret v) => v = .none ∧ Q (.done (.ret (.ref (h.objs.size + 1)))) s' | .ok _ => False | .error e => E e s')
      ⟨(h.push (W.kdv_tup us)).push (HandSPX.excO C h.objs.size), g, d, t, os⟩) :
    wpAny (model prog w) A (Builtin.«type.__call__» ⟨.ref C :: us, kw⟩) Q E ⟨h, g, d, t, os⟩ := by
  have kept : ∀ b o, h.get? b = some o → ((h.push (W.kdv_tup us)).push (HandSPX.excO C h.objs.size)).get? b = some o :=
    fun b o e => Heap.get?_push_of_some _ (Heap.get?_push_of_some _ e)
  have made : ((h.push (W.kdv_tup us)).push (HandSPX.excO C h.objs.size)).get? (h.objs.size + 1) = some (HandSPX.excO C h.objs.size) := by
    heap_get
  have at_C2 := kept _ _ at_C
  have own : (Value.ref C :: bm).contains (.ref C) = true := by simp
  have init2 := init.keeps kept
  have bind2 := (bind (.ref (h.objs.size + 1))).keeps kept
  repeat (first
    | with_reducible refine wpAny_loadPart_at at_C ?_
    | with_reducible refine wpAny_madeBy_exc at_C ?_
    | wp_step)
  refine codeAny_call_builtin_code (Code.quiet_builtin _ F.quiet) (chk_new F tail at_C (new_kw F tail at_C few ?_))
  show wpAny _ _ _ _ _ _
  unfold isInstance
  repeat (first
    | with_reducible refine wpAny_loadPart_at made ?_
    | (with_reducible refine wpAny_isSubtype_exc at_C2 ?_; rw [own])
    | wp_step)
  show wpAny _ _ (typeLookup (.ref C) _) _ _ _
  refine init2.at (wpAny_holding (wpAny_bind (bind2.at ?_)))
  refine wpAny_bind (wpAny_call (codeAny_mono k fun r s' z => ?_))
  match r, z with
  | .error e, z => exact z
  | .ok .next, z => exact z.elim
  | .ok .brk, z => exact z.elim
  | .ok .cont, z => exact z.elim
  | .ok (.ret v), ⟨e, z⟩ =>
    subst e
    first
      | exact wpAny_pure (wpAny_pure z)
      | (wp_walk; exact z)

theorem call_kw (F : ExcBaseFacts B newId initId bmB) (tail : Tail bm B) {us : List Value} {kw : List (Str × Value)} {fI : Addr}
    (at_C : h.get? C = some (excClassObj nm q C N bs bm hd sn sub ab col dd k0 k1 k2 k3 k5 newId)) (few : us.length ≤ sizeLine)
    (init : W.Looks (model prog w) h (typeLookup (.ref C) "__init__") (some (.ref fI))) (bind : ∀ self, W.Looks (model prog w) h (bindSpecial (.ref fI) self) (.ref fI, [self]))
    (k : codeAny (model prog w) (A.under (.builtin "type.__call__" ⟨.ref C :: us, kw⟩)) (.call (.ref fI) ⟨.ref (h.objs.size + 1) :: us, kw⟩) (W.InitBack (h.objs.size + 1) R)
      ⟨(h.push (W.kdv_tup us)).push (HandSPX.excO C h.objs.size), g, d, t, os⟩) :
    codeAny (model prog w) A (.call (.ref C) ⟨us, kw⟩) R ⟨h, g, d, t, os⟩ := by
  have l1 := tc_lookup
  have l2 := tc_bind (.ref C)
  have ty : (⟨h, g, d, t, os⟩ : Shared).TypeIs (.ref C) "type" := ⟨_, at_C, rfl⟩
  refine codeAny_of_tree ?_
  show wpAny _ _ (callAny (.ref C) _) _ _ _
  repeat (any_goals (first | assumption | with_reducible refine wpAny_loadPart_at at_C ?_ | wp_step))
  refine ⟨rfl, codeAny_call_builtin_at (Code.quiet_builtin _ (by decide +kernel)) entry_typeCall ?_⟩
  have chk : ∀ {Q : Unit → Shared → Prop} {A' : Around} {E' : Value → Shared → Prop}, Q () ⟨h, g, d, t, os⟩ → wpAny (model prog w) A' (checkBuiltinCall "type.__call__" ⟨.ref C :: us, kw⟩) Q E' ⟨h, g, d, t, os⟩ := by
    intro Q A' E' hq
    have l3 := tc_sub
    simp only [tc_split, tc_kind, checkBuiltinCall]
    repeat (any_goals (first | assumption | with_reducible refine wpAny_loadPart_at at_C ?_ | with_reducible refine wpAny_onRaise ?_ | with_reducible refine wpAny_map ?_ | wp_step))
  refine chk (type_call_kw F tail at_C few init bind (codeAny_mono k fun r s' z => ?_))
  match r, z with
  | .error e, z => exact z
  | .ok .next, z => exact z.elim
  | .ok .brk, z => exact z.elim
  | .ok .cont, z => exact z.elim
  | .ok (.ret v), z => exact z
end
end Exn

namespace Exn
open PySem PySem.Spec PyProof.Rows L2

/-- what the written part says of an own exception class over a built-in one, whose mro is bmB; B: the built-in one whose __new__ makes it -/
structure Ecl (K : W.Frag) (C : Addr) (B newId initId : String) (bmB : List Value) : Prop where
  base : ∃ bm, ExcBaseFacts B newId initId bm
  tail : Tail bmB B
  store : ∃ B', StoreFacts B' bmB "object.__setattr__" "object"
  made : W.excInitIn K C bmB newId = true
  over : W.excOver K C bmB = true
  sa : W.findIn K (.ref C) "__setattr__" = some (some (.builtin "object.__setattr__"))
  ga : W.findIn K (.ref C) "__getattribute__" = some (some (.builtin "BaseException.__getattribute__"))
  gt : W.findIn K (.ref C) "__getattr__" = some none
  hd : W.hasDictIn K C = true
  sub : W.subIn K (.ref C) (.type "BaseException") = some true
  ca : W.findIn K (.ref C) "__class__" = some (some (.builtin "object.__class__"))
  mo : W.mroIn K C (.type "object") = some true
  kp : W.keepIn K (.ref C) = true

theorem Tail.of {bm bmB : List Value} {B : String} (t : Tail bmB B) (e : ∀ Y : String, bm.contains (.type Y) = bmB.contains (.type Y)) : Tail bm B := ⟨by rw [e]; exact t.has, by rw [e]; exact t.noA, by rw [e]; exact t.noN⟩
section
variable {prog : Program} {w : World} {A : Around} {E : Value → Shared → Prop} {R : Result → Shared → Prop} {hp : Heap} {g : Array GenState} {d : Drawn} {t : Nat} {os : OsState}
variable {K : W.Frag} {C : Addr} {B newId initId : String} {bmB : List Value}
theorem store_first {x t0 : Addr} {f : Str} {tk : Tok} {v : Value} (T : Ecl K C B newId initId bmB) (X : K.In hp) (at_x : hp.get? x = some (W.excObj C t0 none .none)) (no : W.findIn K (.ref C) f = some none)
    (k : ∀ h' tk' dx, (∀ b o, b ≠ x → hp.get? b = some o → h'.get? b = some o) → hp.objs.size ≤ dx → dx ≠ x → h'.get? x = some (W.excObj C t0 (some dx) .none) → h'.Ns1 dx (fun y => if y = f then some v else none) →
      R (.ok (.ret .none)) ⟨h', g, d, tk', os⟩) :
    codeAny (model prog w) A (.call (.builtin "object.__setattr__") ⟨[.ref x, .str f tk, v], []⟩) R ⟨hp, g, d, t, os⟩ := by
  obtain ⟨cd, hc, hdict⟩ := W.any_some T.hd
  obtain ⟨B', SF⟩ := T.store
  have ne : x ≠ hp.objs.size := Nat.ne_of_lt (Heap.lt_size at_x)
  have I : W.InstAt hp x (W.excObj C t0 none .none) C none := ⟨at_x, rfl, rfl, trivial⟩
  refine W.osa_openX (s := ⟨hp, g, d, t, os⟩) SF X I T.over (NoAttr.taker no) fun b => ?_
  refine wpAny_bind (wpAny_pure (wpAny_bind (W.instanceDict_exc at_x (W.looks_clsIn X hc) hdict ?_)))
  show wpAny _ _ (Builtin.ObjectAttr.storeInDict hp.objs.size (.str f tk) f v) _ _ _
  refine HandSPX.store_in_new ?_ fun h' tk' ns same => ?_
  · refine ⟨_, #[], 0, (Heap.get?_update_ne _ _ _ _ (Ne.symm ne)).trans (Heap.get?_push_at rfl rfl), rfl, fun e he => ?_, fun _ => rfl⟩
    simp at he
  · have px : (hp.push (W.dictOf [] 0)).get? x = some (W.excObj C t0 none .none) := Heap.get?_push_of_some _ at_x
    refine k h' tk' hp.objs.size (fun b o hb ho => ?_) (Nat.le_refl _) (Ne.symm ne) ?_ ns
    · have hb2 : b ≠ hp.objs.size := Nat.ne_of_lt (Heap.lt_size ho)
      rw [same.2 b hb2, Heap.get?_update_ne _ _ _ _ hb]
      exact Heap.get?_push_of_some _ ho
    · rw [same.2 x ne]
      exact Heap.get?_update_self _ px rfl
end

section
variable {X : Cx} {pins : List (Addr × Obj)} {σ : L2.St} {H : Hp} {s : Shared} {A : Around} {E : Value → Shared → Prop}
variable {C : Addr} {B newId initId : String} {bmB : List Value}
/-- self.f = y in an own __init__ -/
theorem keep_one {a : Addr} {f : Str} {y : V} {u : Value} {Q : Unit → Shared → Prop} (T : Ecl X.K C B newId initId bmB) (I : Inv X pins σ H s) (e : H a = some (exo a C none)) (no : W.findIn X.K (.ref C) f = some none) (ry : RelV y u)
    (k : ∀ dx s', H dx = none → dx ≠ a → Inv X pins σ (upd (upd H dx (exd dx [(f, y)])) a (exo a C (some dx))) s' → Q () s') :
    wpAny (model X.prog X.w) A (setAttr (.ref a) f u) Q E s := by
  obtain ⟨t0, at_a⟩ := exo_at I.hok e
  obtain ⟨hp, g, d, t, os⟩ := s
  refine W.set_plain I.kIn (ox := W.excObj C t0 none .none) (od := none) ⟨at_a, rfl, rfl, trivial⟩ T.sa ?_
  refine store_first T I.kIn at_a no fun h' tk' dx keep big ne at_x ns => ?_
  have free : H dx = none := I.hok.fresh big
  have old : ∀ {b : Addr} {o : Obj}, hp.get? b = some o → b ≠ dx := fun {b o} z =>
    Nat.ne_of_lt (Nat.lt_of_lt_of_le (Heap.lt_size z) big)
  have off : ∀ {b : Addr}, H b = none → b ≠ a := fun {b} z y => by
    subst y
    rw [e] at z
    cases z
  have at_d : ∀ {b : Addr} {o : HO}, H b = some o → b ≠ dx := fun {b o} z y => by
    subst y
    rw [free] at z
    cases z
  have un : Un X.fs [] H (upd (upd H dx (exd dx [(f, y)])) a (exo a C (some dx))) hp h' := by
    constructor
    · exact fun b o z n _ _ => keep b o (off n) z
    · exact fun b o z n _ _ => ⟨o.slots, keep b o (off n) z⟩
    · intro b o z n _
      rw [upd_ne (off n), upd_ne (old z)]
      exact n
    · intro b o z _
      by_cases q : b = a
      · exact ⟨_, q ▸ at_x⟩
      · exact ⟨o, keep b o q z⟩
    · intro b xs z
      rw [upd_ne (at_ne e z exo_tup), upd_ne (at_d z)]
      exact z
    · intro b o v z
      rw [upd_ne (at_ne e z exo_frz), upd_ne (at_d z)]
      exact z
    · intro b ps z
      refine ⟨#[], ?_⟩
      rw [upd_ne (at_ne e z exo_tbl), upd_ne (at_d z), z]
      simp
  refine k dx _ free ne (I.un (t' := tk') un fun b o z => ?_)
  by_cases q : b = a
  · subst q
    rw [upd_same] at z
    obtain rfl := Option.some.inj z
    exact exo_ok at_x
  · rw [upd_ne q] at z
    by_cases q2 : b = dx
    · subst q2
      rw [upd_same] at z
      obtain rfl := Option.some.inj z
      exact exd_ok ns (relO_put (fs := []) ry fun _ => True.intro)
    · rw [upd_ne q2] at z
      refine (I.hok b o z).stay (fun c v hc y => keep c v ?_ y) (fun c hc => ?_) (fun c xs hc => ?_)
      · rcases hc with hc | hc
        · exact hc ▸ q
        · exact at_ne e hc exo_own
      · rw [upd_ne (at_ne e hc exo_own), upd_ne (at_d hc)]
        exact hc
      · rw [upd_ne (at_ne e hc exo_tup), upd_ne (at_d hc)]
        exact hc

theorem ps_keep {o e : Expr} {to te : TE} {f : Str} {p' pos : Pos} (T : Ecl X.K C B newId initId bmB) (no : W.findIn X.K (.ref C) f = some none) (ho : PE X o to) (he : PE X e te)
    (hs : swapsWith e (some (.Attribute o f p')) pos.line X.env = pure false := by rfl) :
    PS X (.Assign [.Attribute o f p'] e pos) (fun D σ H => te σ H fun y H1 => to σ H1 fun x H2 => ∃ a, x = .ref a ∧ H2 a = some (exo a C none) ∧
      ∀ dx, H2 dx = none → dx ≠ a → D.nx σ (upd (upd H2 dx (exd dx [(f, y)])) a (exo a C (some dx)))) := by
  refine ⟨fun pins s σ H D I h => plainObj_wpAny_Assign_Attribute ?_ hs⟩
  refine thn (he.run pins s σ H _ I h) fun v s1 ⟨y, H1, I1, r1, q1⟩ => ?_
  refine thn (ho.run pins s1 σ H1 _ I1 q1) fun u s2 ⟨x, H2, I2, r2, a, ex, ea, q⟩ => ?_
  subst ex
  obtain rfl : u = Value.ref a := r2
  exact keep_one T I2 ea no r1 fun dx s' n ne J => ⟨σ, _, J, q dx n ne⟩

/-- such an object stands at a -/
theorem inst_at {a : Addr} {dx : Addr} {fs : List (Str × V)} (I : Inv X pins σ H s) (e : H a = some (exo a C (some dx))) (ed : H dx = some (exd dx fs)) :
    ∃ ox od mA, W.InstAt s.heap a ox C (some od) ∧ s.heap.Ns1 dx mA ∧ s.heap.get? dx = some od ∧ ∀ f, RelO (fs.lookup f) (mA f) := by
  obtain ⟨t0, at_a⟩ := exo_at I.hok e
  obtain ⟨mA, ns, rel⟩ := exd_at I.hok ed
  obtain ⟨o, es, ep, ho, r⟩ := ns
  exact ⟨_, o, mA, ⟨at_a, rfl, rfl, ho⟩, ⟨o, es, ep, ho, r⟩, ho, rel⟩

/-- what an instance of an own exception class is, with a dict of its own or without -/
def Bare (C : Addr) (H : Hp) (a : Addr) : Prop := H a = some (exo a C none) ∨ ∃ dx fs, H a = some (exo a C (some dx)) ∧ H dx = some (exd dx fs)

structure ClsGet (K : W.Frag) : Prop where
  get : W.specialIn K (.builtin "object.__class__") "__get__" = some (some (.builtin "getset_descriptor.__get__"))
  takes : W.takesIn K (.builtin "object.__class__") = some true

theorem cls_some {K : W.Frag} {C : Addr} (h : W.hasDictIn K C = true) : (W.clsIn K C).isSome = true := by
  obtain ⟨cd, hc, _⟩ := W.any_some h
  rw [hc]
  rfl

/-- isinstance(e, c) of such an instance -/
theorem call_isE (T : Ecl X.K C B newId initId bmB) (G : ClsGet X.K) :
    CallR X (.builtin "isinstance") (fun xs H Q => ∃ (a : Addr) (c : V) (u : Value) (b : Bool), xs = [.ref a, c] ∧ ClsV c u ∧ Bare C H a ∧ W.kitOne X.K (.ref C) u = some b ∧ Q (.bl b) H) := by
  intro pins s σ H xs us Q I r h
  obtain ⟨a, c, u, b, rfl, k, bare, e, q⟩ := h
  obtain ⟨u1, u2, rfl, r1, r2⟩ := vals2 r
  have e2 := k.eq r2
  subst e2
  obtain rfl : u1 = Value.ref a := r1
  have fin : ∀ tk, EP X pins σ Q (.bool b) { s with toks := tk } := fun tk => ⟨.bl b, H, I.tok tk, rfl, q⟩
  rcases bare with ea | ⟨dx, fs, ea, ed⟩
  · obtain ⟨t0, at_a⟩ := exo_at I.hok ea
    exact W.kia_one (W.kitx_exc (ox := W.excObj C t0 none .none) (od := none) (cls_some T.hd) T.ga T.gt T.sub T.ca G.get G.takes T.mo) I.kIn ⟨at_a, rfl, rfl, trivial⟩ e (fun z => nomatch z) fin
  · obtain ⟨ox, od, mA, J, _⟩ := inst_at I ea ed
    exact W.kia_one (W.kitx_exc (ox := ox) (od := some od) (cls_some T.hd) T.ga T.gt T.sub T.ca G.get G.takes T.mo) I.kIn J e (fun z => nomatch z) fin

/-- e.f of such an instance -/
theorem pe_at {o : Expr} {to : TE} {f : Str} {pos : Pos} (T : Ecl X.K C B newId initId bmB) (no : W.findIn X.K (.ref C) f = some none) (ho : PE X o to) (hb : attributeBase o f X.env (eval o X.env) = eval o X.env := by rfl) :
    PE X (.Attribute o f pos) (fun σ H Q => to σ H fun x H1 => ∃ a dx fs v, x = .ref a ∧ H1 a = some (exo a C (some dx)) ∧ H1 dx = some (exd dx fs) ∧ fs.lookup f = some v ∧ Q v H1) := by
  refine ⟨fun pins s σ H Q I h => attr_of hb ?_⟩
  refine thn (ho.run pins s σ H _ I h) fun u s1 ⟨x, H1, I1, rx, a, dx, fs, v, ex, ea, ed, l, q⟩ => ?_
  subst ex
  obtain rfl : u = Value.ref a := rx
  obtain ⟨ox, od, mA, J, ns, hod, rel⟩ := inst_at I1 ea ed
  obtain ⟨od', ho', hl⟩ := lookIn_ns ns
  rw [hod] at ho'
  obtain rfl := Option.some.inj ho'
  have r2 := rel f
  rw [l] at r2
  obtain ⟨u', hu, ru⟩ := RelO.some_of (v := v) (o := mA f) r2
  refine HandSPX.exc_get I1.kIn J T.ga T.gt T.sub (W.findObj_own T.hd no rfl ?_) (handed_of ru) ⟨v, H1, I1.tok _, ru, q⟩
  rw [hl, hu]
end
end Exn

namespace Exn
open PySem PySem.Spec PyProof.Rows L2

/-- def __init__(self, f): self.f = f -/
def spKeep (C : Addr) (f : Str) : Sp := fun vs H Q _ => ∃ (a : Addr) (v : V), vs = [.ref a, v] ∧ H a = some (exo a C none) ∧
  ∀ dx, H dx = none → dx ≠ a → Q .non (upd (upd H dx (exd dx [(f, v)])) a (exo a C (some dx)))
/-- def __init__(self): pass -/
def spBare (C : Addr) : Sp := fun vs H Q _ => ∃ a : Addr, vs = [.ref a] ∧ H a = some (exo a C none) ∧ Q .non H

section
variable {P : Program} {w : World} {K : W.Frag} {mg : Str → Option Value} {base : Heap} {C : Addr} {B newId initId : String} {bmB : List Value}
theorem ok_keep {f : Str} {p1 p2 p3 p4 : Pos} {qual : Str} {st : Stmt} {fI : Addr} {fd : FuncData} (F : Fun K "__init__" qual st fI fd) (T : Ecl K C B newId initId bmB) (no : W.findIn K (.ref C) f = some none)
    (hB : defBody st = [.Assign [.Attribute (.Name "self" p1) f p2] (.Name f p3) p4]) (S : FnScope ["self", f] ["self", f] (defScope st)) (v0 : Vis (defScope st) "self") (v1 : Vis (defScope st) f)
    (n1 : (f == ("__debug__" : Str)) = false) (n2 : (f == ("__classdict__" : Str)) = false) : FnOk P w K mg base CX0 1 fI fd ["self", f] (spKeep C f) := by
  refine F.ok S (fun vs H Q E h => ?_) (fun cdv A outer s H vs Q E hr h => ?_)
  · obtain ⟨a, v, rfl, _⟩ := h
    rfl
  · obtain ⟨a, v, rfl, ea, k⟩ := h
    rw [hB]
    refine ⟨_, pss_one (ps_keep T no (pv 0 rfl v0) (pv 1 rfl v1 n1 n2)), ?_⟩
    exact ⟨v, rfl, .ref a, rfl, a, rfl, ea, fun dx n ne => k dx n ne⟩
theorem ok_bare {p4 : Pos} {qual : Str} {st : Stmt} {fI : Addr} {fd : FuncData} (F : Fun K "__init__" qual st fI fd)
    (hB : defBody st = [.Pass p4]) (S : FnScope ["self"] ["self"] (defScope st)) : FnOk P w K mg base CX0 1 fI fd ["self"] (spBare C) := by
  refine F.ok S (fun vs H Q E h => ?_) (fun cdv A outer s H vs Q E hr h => ?_)
  · obtain ⟨a, rfl, _⟩ := h
    rfl
  · obtain ⟨a, rfl, ea, k⟩ := h
    rw [hB]
    exact ⟨_, pss_one ps_pass, k⟩
end

section
variable {X : Cx} {pins : List (Addr × Obj)} {σ : L2.St} {H : Hp} {s : Shared}
variable {C fI : Addr} {B newId initId : String} {bmB : List Value} {k : Nat} {fd : FuncData} {ps : List Str} {sp : Sp}
/-- C(..) of an own exception class: the new exception is handed back -/
theorem run_exn {us ws : List Value} {vs : List V} {kw : List (Str × Value)} {Q : VK} (T : Ecl X.K C B newId initId bmB) (iC : W.findIn X.K (.ref C) "__init__" = some (some (.ref fI))) (tI : W.typeIn X.K (.ref fI) = some (.type "function"))
    (G : FnOk X.prog X.w X.K X.mg X.base CX0 k fI fd ps sp) (hr : Room (k + 1) X.A) (bd : ∀ (s : Shared) (a : Addr), BindsTo s fd ⟨.ref a :: us, kw⟩ (ps.zip (.ref a :: ws))) (r : Vals vs ws) (few : us.length ≤ sizeLine) (I : Inv X pins σ H s)
    (h : ∀ a, H a = none → sp (.ref a :: vs) (upd H a (exo a C none)) (fun v H2 => v = .non ∧ Q (.ref a) H2) E0) :
    wpAny (model X.prog X.w) X.A (call (.ref C) us kw) (EP X pins σ Q) X.xe s := by
  obtain ⟨nm, N, qn, bs, bm, hd, sn, sub, ab, col, dd, k0, k1, k2, k3, k5, at_C, tail⟩ := W.excInit_of I.kIn T.made
  obtain ⟨bm0, base⟩ := T.base
  obtain ⟨hp, g, dr, tk, os⟩ := s
  have big : hp.objs.size ≤ hp.objs.size + 1 := Nat.le_succ _
  have new := h (hp.objs.size + 1) (I.hok.fresh big)
  have kept : ∀ b o, hp.get? b = some o → ((hp.push (W.kdv_tup us)).push (HandSPX.excO C hp.objs.size)).get? b = some o :=
    fun b o e => Heap.get?_push_of_some _ (Heap.get?_push_of_some _ e)
  have made : ((hp.push (W.kdv_tup us)).push (HandSPX.excO C hp.objs.size)).get? (hp.objs.size + 1) = some (HandSPX.excO C hp.objs.size) := by
    heap_get
  have J : Inv X pins σ (upd H (hp.objs.size + 1) (exo (hp.objs.size + 1) C none)) ⟨(hp.push (W.kdv_tup us)).push (HandSPX.excO C hp.objs.size), g, dr, tk, os⟩ :=
    I.laid (t' := tk) kept big (exo_ok made)
  have r2 : Vals (V.ref (hp.objs.size + 1) :: vs) (Value.ref (hp.objs.size + 1) :: ws) := .cons rfl r
  refine wpAny_call (call_kw base (T.tail.of tail) at_C few (W.looks_findIn I.kIn iC) (fun self => W.bind_fn I.kIn self tI) ?_)
  refine codeAny_mono (G.run _ X.stack _ _ ⟨Value.ref (hp.objs.size + 1) :: us, kw⟩ _ _ _ E0 (hr.make C us kw) (J.env0.make C us kw) (bd _ _) r2 new) fun r s' z => ?_
  match r, z with
  | .error e, z => exact z.elim
  | .ok .next, z => exact z.elim
  | .ok .brk, z => exact z.elim
  | .ok .cont, z => exact z.elim
  | .ok (.ret u), z =>
    obtain ⟨v, H', J2, rv, ev, q⟩ := J.after z
    subst ev
    refine ⟨rv, ⟨V.ref (hp.objs.size + 1), H', ?_, rfl, q⟩⟩
    refine ⟨J2.ok, J2.os, J2.bare, J2.base, J2.loc, J2.cell, J2.free, J2.freeC, J2.pin, J2.hok, J2.len⟩
end
end Exn

namespace Exn
open PySem PySem.Spec PyProof.Rows L2

/-- an own exception class whose __init__ keeps one thing, by the name x of the module -/
structure Cl1 (P : Program) (w : World) (K : W.Frag) (mg : Str → Option Value) (base : Heap) (x : Str) (C : Addr) (f : Str) (B newId initId : String) (bmB : List Value) : Prop where
  T : Ecl K C B newId initId bmB
  no : W.findIn K (.ref C) f = some none
  m : mg x = some (.ref C)
  ty : W.typeIn K (.ref C) = some (.type "type")
  run : ∃ fI fd, W.findIn K (.ref C) "__init__" = some (some (.ref fI)) ∧ W.typeIn K (.ref fI) = some (.type "function") ∧ FnOk P w K mg base CX0 1 fI fd ["self", f] (spKeep C f) ∧
    (∀ (s : Shared) (a u : Value), BindsTo s fd ⟨[a, u], []⟩ [("self", a), (f, u)]) ∧ ∀ (s : Shared) (a u : Value), BindsTo s fd ⟨[a], [(f, u)]⟩ [("self", a), (f, u)]

/-- where a made exception stands -/
def made (H : Hp) (C : Addr) (f : Str) (v : V) (a dx : Addr) : Hp := upd (upd H dx (exd dx [(f, v)])) a (exo a C (some dx))
theorem made_eq {H : Hp} {C : Addr} {f : Str} {v : V} {a dx : Addr} (ne : dx ≠ a) : upd (upd (upd H a (exo a C none)) dx (exd dx [(f, v)])) a (exo a C (some dx)) = made H C f v a dx := by
  funext b
  unfold made
  by_cases h1 : b = a
  · rw [h1, upd_same, upd_same]
  · rw [upd_ne h1, upd_ne h1]
    by_cases h2 : b = dx
    · rw [h2, upd_same, upd_same]
    · rw [upd_ne h2, upd_ne h2, upd_ne h1]
/-- C(v): what is asked -/
def tExn (C : Addr) (f : Str) (te : TE) : TE := fun σ H Q => te σ H fun u H1 => ∃ v, [u] = [v] ∧ ∀ a dx, H1 a = none → H1 dx = none → dx ≠ a → Q (.ref a) (made H1 C f v a dx)

section
variable {X : Cx} {C : Addr} {x f : Str} {B newId initId : String} {bmB : List Value} {e : Expr} {te : TE} {p kp pos : Pos}
theorem sp_made {H : Hp} {v : V} {Q : VK} (q : ∀ a dx, H a = none → H dx = none → dx ≠ a → Q (.ref a) (made H C f v a dx)) (a : Addr) (na : H a = none) :
    spKeep C f [.ref a, v] (upd H a (exo a C none)) (fun u H2 => u = .non ∧ Q (.ref a) H2) E0 := by
  refine ⟨a, v, rfl, upd_same, fun dx nd ne => ⟨rfl, ?_⟩⟩
  rw [made_eq ne]
  rw [upd_ne ne] at nd
  exact q a dx na nd ne
theorem pe_exn (c : Cl1 X.prog X.w X.K X.mg X.base x C f B newId initId bmB) (hr : Room 2 X.A) (hg : Gl X x) (he : PE X e te)
    (hdb : (x == ("__debug__" : Str)) = false := by decide) (hs : starEach [e] X.env = (false, eval e X.env) :: starEach [] X.env := by rfl) :
    PE X (.Call (.Name x p) [e] [] pos) (tExn C f te) := by
  obtain ⟨fI, fd, iC, tI, G, b1, b2⟩ := c.run
  refine ⟨fun pins s σ H Q I h => ?_⟩
  refine wpAny_Call_Name_kw (ld_glob I hg c.m ?_ hdb)
  refine W.callWith_K (h₀ := X.base) I.ok.mod.kin c.T.kp (thn ((pa_cons he pa_nil hs).run pos pins s σ H (fun vs H1 => ∃ v, vs = [v] ∧ ∀ a dx, H1 a = none → H1 dx = none → dx ≠ a → Q (.ref a) (made H1 C f v a dx)) I h) fun us s1 ⟨vs, H1, I1, r, v, ev, q⟩ => ⟨I1.kIn, ?_⟩) hs (by rfl)
  subst ev
  obtain ⟨u, rfl, r1⟩ := vals1 r
  exact run_exn c.T iC tI G hr (fun s a => b1 s _ _) (.cons r1 .nil) (by show 1 ≤ sizeLine; decide) I1 fun a na => sp_made q a na
/-- C(f=e) -/
theorem pe_exnK (c : Cl1 X.prog X.w X.K X.mg X.base x C f B newId initId bmB) (hr : Room 2 X.A) (hg : Gl X x) (he : PE X e te)
    (hdb : (x == ("__debug__" : Str)) = false := by decide) (hall : (backToKw pos (keywordEach [⟨some f, e, kp⟩] X.env)).all (·.1.isSome) = true := by rfl)
    (hks : (backToKw pos (keywordEach [⟨some f, e, kp⟩] X.env)).filterMap (·.1) = [f] := by rfl)
    (hpl : ((backTo pos (starEach [] X.env)).any (·.1) || (backToKw pos (keywordEach [⟨some f, e, kp⟩] X.env)).any (·.1.isNone)) = false := by rfl) :
    PE X (.Call (.Name x p) [] [⟨some f, e, kp⟩] pos) (tExn C f te) := by
  obtain ⟨fI, fd, iC, tI, G, b1, b2⟩ := c.run
  refine ⟨fun pins s σ H Q I h => ?_⟩
  refine wpAny_Call_Name_kw (ld_glob I hg c.m ?_ hdb)
  refine W.callWith_KW0 (h₀ := X.base) I.ok.mod.kin c.T.kp hall ?_ hpl
  refine thn ((pk_cons he pk_nil).run pos pins s σ H (fun vs H1 => ∃ v, vs = [v] ∧ ∀ a dx, H1 a = none → H1 dx = none → dx ≠ a → Q (.ref a) (made H1 C f v a dx)) I h) fun us s1 ⟨vs, H1, I1, r, v, ev, q⟩ => ⟨I1.kIn, ?_⟩
  rw [hks]
  subst ev
  obtain ⟨u, rfl, r1⟩ := vals1 r
  exact run_exn (us := []) c.T iC tI G hr (fun s a => b2 s _ _) (.cons r1 .nil) (Nat.zero_le _) I1 fun a na => sp_made q a na
/-- raise C(f=e): what makes it -/
theorem pmk_exnK (c : Cl1 X.prog X.w X.K X.mg X.base x C f B newId initId bmB) (hr : Room 2 X.A) (hg : Gl X x) (he : PE X e te)
    (hdb : (x == ("__debug__" : Str)) = false := by decide) (hall : (backToKw pos (keywordEach [⟨some f, e, kp⟩] X.env)).all (·.1.isSome) = true := by rfl)
    (hks : (backToKw pos (keywordEach [⟨some f, e, kp⟩] X.env)).filterMap (·.1) = [f] := by rfl)
    (hpl : ((backTo pos (starEach [] X.env)).any (·.1) || (backToKw pos (keywordEach [⟨some f, e, kp⟩] X.env)).any (·.1.isNone)) = false := by rfl) :
    PMk X (.Call (.Name x p) [] [⟨some f, e, kp⟩] pos) (fun σ H Q => te σ H fun u H1 => ∃ v, [u] = [v] ∧ ∀ d, H1 d = none → Q (.ref C) (some d) (upd H1 d (.xd [(f, v)]))) := by
  obtain ⟨fI, fd, iC, tI, G, b1, b2⟩ := c.run
  intro pins s σ H Q I h
  refine wpAny_Call_Name_kw (ld_glob I hg c.m ?_ hdb)
  refine W.callWith_KW0 (h₀ := X.base) I.ok.mod.kin c.T.kp hall ?_ hpl
  refine thn ((pk_cons he pk_nil).run pos pins s σ H (fun vs H1 => ∃ v, vs = [v] ∧ ∀ d, H1 d = none → Q (.ref C) (some d) (upd H1 d (.xd [(f, v)]))) I h) fun us s1 ⟨vs, H1, I1, r, v, ev, q⟩ => ⟨I1.kIn, ?_⟩
  rw [hks]
  subst ev
  obtain ⟨u, rfl, r1⟩ := vals1 r
  obtain ⟨nm, N, qn, bs, bm, hd, sn, sub, ab, col, dd, k0, k1, k2, k3, k5, at_C, tail⟩ := W.excInit_of I1.kIn c.T.made
  obtain ⟨bm0, base⟩ := c.T.base
  obtain ⟨hp, g, dr, tk, os⟩ := s1
  have big : hp.objs.size ≤ hp.objs.size + 1 := Nat.le_succ _
  have na : H1 (hp.objs.size + 1) = none := I1.hok.fresh big
  have kept : ∀ b o, hp.get? b = some o → ((hp.push (W.kdv_tup [])).push (HandSPX.excO C hp.objs.size)).get? b = some o :=
    fun b o e => Heap.get?_push_of_some _ (Heap.get?_push_of_some _ e)
  have here : ((hp.push (W.kdv_tup [])).push (HandSPX.excO C hp.objs.size)).get? (hp.objs.size + 1) = some (HandSPX.excO C hp.objs.size) := by
    heap_get
  have J : Inv X pins σ (upd H1 (hp.objs.size + 1) (exo (hp.objs.size + 1) C none)) ⟨(hp.push (W.kdv_tup [])).push (HandSPX.excO C hp.objs.size), g, dr, tk, os⟩ :=
    I1.laid (t' := tk) kept big (exo_ok here)
  have new : spKeep C f [.ref (hp.objs.size + 1), v] (upd H1 (hp.objs.size + 1) (exo (hp.objs.size + 1) C none))
      (fun y H2 => y = .non ∧ ∃ d, H2 = made H1 C f v (hp.objs.size + 1) d ∧ H1 d = none ∧ d ≠ hp.objs.size + 1) E0 := by
    refine ⟨_, v, rfl, upd_same, fun dx nd ne => ⟨rfl, dx, made_eq ne, ?_, ne⟩⟩
    rw [upd_ne ne] at nd
    exact nd
  have r2 : Vals [V.ref (hp.objs.size + 1), v] [Value.ref (hp.objs.size + 1), u] := .cons rfl (.cons r1 .nil)
  refine wpAny_call (call_kw (us := []) base (c.T.tail.of tail) at_C (Nat.zero_le _) (W.looks_findIn I1.kIn iC) (fun self => W.bind_fn I1.kIn self tI) ?_)
  refine codeAny_mono (G.run _ X.stack _ _ ⟨[Value.ref (hp.objs.size + 1)], [(f, u)]⟩ _ _ _ E0 (hr.make C [] [(f, u)]) (J.env0.make C [] [(f, u)]) (b2 _ _ _) r2 new) fun r s' z => ?_
  match r, z with
  | .error e, z => exact z.elim
  | .ok .next, z => exact z.elim
  | .ok .brk, z => exact z.elim
  | .ok .cont, z => exact z.elim
  | .ok (.ret y), z =>
    obtain ⟨v2, H2, os2, bare2, un2, hok2, rv, ev, d, rfl, nd, ne⟩ := z
    subst ev
    obtain ⟨h2, g2, d2, t2, os'⟩ := s'
    have fin := mk_end (X := X) (Q := Q) (d2 := d2) (t2 := t2) (fs := [(f, v)]) (raises_own c.T.sub c.ty) I1 big kept un2 hok2 os2 bare2 upd_same (by unfold made; rw [upd_ne ne, upd_same]) nd (by
      have eq : upd (del (made H1 C f v (hp.objs.size + 1) d) (hp.objs.size + 1)) d (.xd [(f, v)]) = upd H1 d (.xd [(f, v)]) := by
        funext b
        by_cases hb : b = d
        · rw [hb, upd_same, upd_same]
        · rw [upd_ne hb, upd_ne hb]
          by_cases ha : b = hp.objs.size + 1
          · rw [ha, del_same, na]
          · rw [del_ne ha]
            unfold made
            rw [upd_ne ha, upd_ne hb]
      rw [eq]
      exact q d nd)
    exact ⟨rv, fin⟩
end
end Exn

namespace Exn
open PySem PySem.Spec PyProof.Rows L2

/-- an own exception class whose __init__ takes nothing and does nothing -/
structure Cl0 (P : Program) (w : World) (K : W.Frag) (mg : Str → Option Value) (base : Heap) (x : Str) (C : Addr) (B newId initId : String) (bmB : List Value) : Prop where
  T : Ecl K C B newId initId bmB
  m : mg x = some (.ref C)
  run : ∃ fI fd, W.findIn K (.ref C) "__init__" = some (some (.ref fI)) ∧ W.typeIn K (.ref fI) = some (.type "function") ∧ FnOk P w K mg base CX0 1 fI fd ["self"] (spBare C) ∧
    ∀ (s : Shared) (a : Value), BindsTo s fd ⟨[a], []⟩ [("self", a)]
section
variable {X : Cx} {C : Addr} {x f : Str} {B newId initId : String} {bmB : List Value} {p pos : Pos}
theorem pe_exn0 (c : Cl0 X.prog X.w X.K X.mg X.base x C B newId initId bmB) (hr : Room 2 X.A) (hg : Gl X x) (hdb : (x == ("__debug__" : Str)) = false := by decide) :
    PE X (.Call (.Name x p) [] [] pos) (fun σ H Q => ∀ a, H a = none → Q (.ref a) (upd H a (exo a C none))) := by
  obtain ⟨fI, fd, iC, tI, G, b1⟩ := c.run
  refine ⟨fun pins s σ H Q I h => ?_⟩
  refine wpAny_Call_Name_kw (ld_glob I hg c.m ?_ hdb)
  refine W.callWith_K0 I.kIn c.T.kp (run_exn (us := []) (vs := []) (ws := []) c.T iC tI G hr (fun s a => b1 s _) .nil (Nat.zero_le _) I fun a na => ?_)
  exact ⟨a, rfl, upd_same, rfl, h a na⟩

/-- isinstance(e, c), e the caught exception that a suite holds, with a dict of its own -/
theorem call_isS {a : Addr} {oe : Obj} {cls : Value} {d : Option Addr} {pn : List (Addr × Obj)} {D : Addr} (T : Ecl X.K D B newId initId bmB) (G : ClsGet X.K) (hz : Zc cls d oe) (hf : ∃ vs, oe.data = .fields vs) :
    CallR (X.suite a ((a, oe) :: pn)) (.builtin "isinstance") (fun xs H Q => ∃ (c : V) (u : Value) (b : Bool) (dd : Addr) (fs : List (Str × V)), xs = [.ref a, c] ∧ ClsV c u ∧ cls = .ref D ∧ d = some dd ∧ H dd = some (.xd fs) ∧
      W.kitOne X.K (.ref D) u = some b ∧ Q (.bl b) H) := by
  intro pins s σ H xs us Q I r h
  obtain ⟨c, u, b, dd, fs, rfl, k, rfl, rfl, ed, e, q⟩ := h
  obtain ⟨u1, u2, rfl, r1, r2⟩ := vals2 r
  obtain rfl := k.eq r2
  obtain rfl : u1 = Value.ref a := r1
  obtain ⟨at_a, _⟩ := I.pin (a, oe) (List.mem_append_left _ List.mem_cons_self)
  obtain ⟨vs, hd⟩ := hf
  have ox : ObjOk X.prog X.w H s.heap dd (.xd fs) := I.hok dd _ ed
  obtain ⟨mA, ⟨od, es, ep, ho, _⟩, _⟩ := ox
  have J : W.InstAt s.heap a oe D (some od) := ⟨at_a, hz.1, by unfold W.notCls; rw [hd], by rw [hz.2]; exact ho⟩
  exact W.kia_one (W.kitx_exc (ox := oe) (od := some od) (cls_some T.hd) T.ga T.gt T.sub T.ca G.get G.takes T.mo) I.kIn J e (fun z => nomatch z) fun tk => ⟨.bl b, H, I.kept (t' := tk) fun _ _ z => z, rfl, q⟩
end
end Exn
namespace Keys
open PySem PySem.Spec PyProof.Rows
/-! KeyError, as a base of own classes -/
abbrev keyTail : List Value := [.type "KeyError", .type "LookupError", .type "Exception", .type "BaseException", .type "object"]
theorem store_KeyError : StoreFacts "KeyError" keyTail "object.__setattr__" "object" where
  mro := by kernel_rfl
  slot := by
    refine .of (owner := "object") (n := "__setattr__") ?_ (by decide +kernel) (by decide +kernel) (by decide +kernel) ?_ ?_
    · rw [typeLookup_type, builtinLookup_eq_fast]; kernel_rfl
    · first
        | exact .inl (by decide +kernel)
        | exact .inr (by decide +kernel)
    · rw [isSubtype_type]; kernel_rfl
  entry := F.entry_object_sa
  kind := by decide +kernel
  split := by decide +kernel
  hasOwner := by decide +kernel
  args := fun a b c => by unfold argsOk; kernel_rfl
  passes := fun self => by kernel_rfl
theorem tail_KeyError : Exn.Tail keyTail "LookupError" := ⟨by decide +kernel, by decide +kernel, by decide +kernel⟩
abbrev exTail : List Value := [.type "Exception", .type "BaseException", .type "object"]
theorem tail_Exception : Exn.Tail exTail "Exception" := ⟨by decide +kernel, by decide +kernel, by decide +kernel⟩
end Keys

/-! enumerate over a tuple -/
namespace EnuT
open PySem PySem.Spec PyProof.Rows L2

set_option maxHeartbeats 4000000 in
theorem meets_one {v : Value} {o : Obj} {G : Heap → Prop} (B : Begins v o G) :
    Meets (Builtin.«enumerate.__new__» ⟨[.type "enumerate", v], []⟩) (fun _ R s => G s.heap ∧
      R (.ok (.ret (.ref (s.heap.push o).objs.size)))
        { s with heap := (s.heap.push o).push { cls := .type "enumerate", data := .fields #[.none, .bool false, .ref s.heap.objs.size, rawInt 0, .none, .none] } }) :=
  .of_wp fun prog w A R s h => by
    obtain ⟨hp, g, d, tk, os⟩ := s
    obtain ⟨h1, h⟩ := h
    have sub := sub_enumerate
    have iter : ∀ {A' : Around} {E : Value → Shared → Prop} {Q : Value → Shared → Prop}, Q (.ref hp.objs.size) ⟨hp.push o, g, d, tk, os⟩ →
        wpAny (model prog w) A' (pyIter v) Q E ⟨hp, g, d, tk, os⟩ := fun q => B.iter prog w _ _ ⟨hp, g, d, tk, os⟩ _ h1 q
    wp_walk using iter
    refine wpAny_stack_any fun st => wpAny_pure ?_
    split
    · rename_i c _ _ _ _ _
      cases (c == Value.type "enumerate") <;> (wp_walk using iter; exact ⟨_, rfl, h⟩)
    · wp_walk using iter
      exact ⟨_, rfl, h⟩

theorem call_one {prog : Program} {w : World} {A : Around} {E : Value → Shared → Prop} {s : Shared} {v : Value} {o : Obj} {G : Heap → Prop} {Q : Value → Shared → Prop} (B : Begins v o G) (h1 : G s.heap)
    (k : ∀ h', IsEnum h' (s.heap.objs.size + 1) s.heap.objs.size 0 .none → h'.get? s.heap.objs.size = some o →
      (∀ b u, s.heap.get? b = some u → h'.get? b = some u) → Q (.ref (s.heap.objs.size + 1)) { s with heap := h' }) :
    wpAny (model prog w) A (call (.type "enumerate") [v]) Q E s := by
  refine callType_new F.called_enumerate (by decide) (F.typeCall_enumerate_1 _) (F.newCall_enumerate_1 _) (fun obj => F.args_object_init_2 obj _) F.entry_enumerate_new (meets_one B) ⟨h1, ?_⟩
  have sz : (s.heap.push o).objs.size = s.heap.objs.size + 1 := Heap.size_push ..
  show _ ∧ _
  rw [sz]
  have at_e : IsEnum ((s.heap.push o).push { cls := .type "enumerate", data := .fields #[.none, .bool false, .ref s.heap.objs.size, rawInt 0, .none, .none] }) (s.heap.objs.size + 1) s.heap.objs.size 0 .none := by
    have z := Heap.get?_push_size (s.heap.push o) (o := { cls := .type "enumerate", data := .fields #[.none, .bool false, .ref s.heap.objs.size, rawInt 0, .none, .none] }) rfl
    rw [sz] at z
    exact z
  refine ⟨⟨_, at_e, rfl⟩, k _ at_e (Heap.get?_push_of_some _ (Heap.get?_push_size _ B.free)) fun b u e => Heap.get?_push_of_some _ (Heap.get?_push_of_some _ e)⟩

/-- the tuple at a, each item in a new pair -/
def Iet (K : W.Frag) (a : Addr) : It :=
  ⟨fun i H => ∃ (xs : List V) (x : V), SqT K H a xs ∧ xs[i]? = some x,
    fun i H v H' => ∃ T x, v = .ref T ∧ H T = none ∧ H' = upd H T (.tup [.int (i : Nat), x]) ∧ ∀ xs, SqT K H a xs → xs[i]? = some x,
    fun i H => ∃ xs : List V, SqT K H a xs ∧ xs.length = i⟩

theorem turn_et {P : Program} {w : World} {K : W.Frag} {elts : List Expr} {kk : Nat} {tpos : Pos} (a e it : Addr) :
    Turn P w K (.Tuple elts kk tpos) (Iet K a) [e, it] e (fun i h => (∃ old, IsEnum h e it ((i : Nat) : Int) old) ∧ h.IsTupleIter it a i ∧ e ≠ it) where
  mem := List.mem_cons_self ..
  obj := fun i h st b hb => by
    obtain ⟨⟨old, he⟩, ⟨o, ho, hc, hd⟩, _⟩ := st
    have hb2 : b = e ∨ b = it := by simpa using hb
    rcases hb2 with rfl | rfl
    · exact ⟨_, he, fun v q => nomatch q⟩
    · exact ⟨o, ho, fun v q => by rw [hd] at q; cases q⟩
  keep := fun i h h' st k => by
    obtain ⟨⟨old, he⟩, hi, ne⟩ := st
    exact ⟨⟨old, k e (List.mem_cons_self ..) _ he⟩, hi.at fun o q => k it (by simp) o q, ne⟩
  item := by
    intro X hP hw hK hc i pins s σ H E I hf st hg
    subst hP hw hK
    obtain ⟨⟨old, he⟩, hit, ne⟩ := st
    obtain ⟨xs, x, hq, hx⟩ := hg
    obtain ⟨its, rv, p, hz⟩ := I.tuple hq
    obtain ⟨u, hu, ru⟩ := rv.get hx
    have tup : s.heap.IsTuple a its.toArray := p
    have ea : e ≠ a := fun z => by
      obtain ⟨o, ho, hc, _⟩ := p
      rw [← z] at ho
      have he' : s.heap.get? e = some _ := he
      rw [ho] at he'
      cases he'
      exact absurd (Value.type.inj hc) (by decide)
    have ia : a ≠ it := fun z => by
      obtain ⟨o, ho, hc, _⟩ := p
      obtain ⟨o', ho', hc', _⟩ := hit
      rw [z, ho'] at ho
      cases ho
      rw [hc'] at hc
      exact absurd (Value.type.inj hc) (by decide)
    have le : e < s.heap.objs.size := Heap.lt_size he
    have li : it < s.heap.objs.size := by
      obtain ⟨_, q, _⟩ := hit
      exact Heap.lt_size q
    have lt : i < its.toArray.size := by
      have := (List.getElem?_eq_some_iff.mp hu).1
      simpa using this
    refine wpAny_pyNext_enum_itemD (Draws.tuple (A := X.A.in1) (I.ok.hd hc) it a ia its.toArray) he ⟨hit, tup⟩ lt ne (by simp [ne, ea]) fun y h' tk hy ho st' hT hsz hk => ?_
    have eu : y = u := by
      have z : its.toArray[i]? = some y := hy
      rw [List.getElem?_toArray, hu] at z
      exact (Option.some.inj z).symm
    subst eu
    refine ⟨_, rfl, wpAny_letOwnedTupleGo_enum (s := { s with heap := h', toks := tk + 1 }) ho fun h'' he' sb => ?_⟩
    have at_T : h''.get? s.heap.objs.size = some { cls := .type "tuple", data := .seq #[.int i tk, y] } := (sb.2 _ (Nat.ne_of_gt le)).trans hT
    have new : ObjOk X.prog X.w (upd H s.heap.objs.size (.tup [.int (i : Nat), x])) h'' s.heap.objs.size (.tup [.int (i : Nat), x]) :=
      ⟨by show 2 ≤ sizeLine; decide, [.int i tk, y], .cons ⟨_, rfl⟩ (.cons ru .nil), ⟨_, at_T, rfl, _, rfl⟩⟩
    have J : Inv X pins σ (upd H s.heap.objs.size (.tup [.int (i : Nat), x])) { s with heap := h'', toks := tk + 1 } := by
      refine I.turnedNew (ch := [e, it]) (fun b ob hb q => ?_) hf (Nat.le_refl _) new
      have b1 : b ≠ e := fun z => hb (by simp [z])
      have b2 : b ≠ it := fun z => hb (by simp [z])
      exact (sb.2 b b1).trans (hk b ob b1 b2 q)
    refine ⟨.ref s.heap.objs.size, _, J, rfl, ⟨_, x, rfl, I.hok.fresh (Nat.le_refl _), rfl, fun ys hy => ?_⟩, ⟨⟨y, ?_⟩, st'.1.at fun o q => (sb.2 it (Ne.symm ne)).trans q, ne⟩, fun b hb => ?_⟩
    · rw [I.tuple_inj hy hq]
      exact hx
    · have e1 : ((i + 1 : Nat) : Int) = (i : Int) + 1 := by omega
      rw [e1]
      exact he'
    · have lb : b < s.heap.objs.size := by
        have hb2 : b = e ∨ b = it := by simpa using hb
        rcases hb2 with rfl | rfl
        · exact le
        · exact li
      rw [upd_ne (Nat.ne_of_lt lb)]
      exact (hf b hb).1
  done := by
    intro X hP hw hK hc i pins s σ H E I hf st hg
    subst hP hw hK
    obtain ⟨⟨old, he⟩, hit, ne⟩ := st
    obtain ⟨xs, hq, hx⟩ := hg
    obtain ⟨its, rv, p, hz⟩ := I.tuple hq
    have tup : s.heap.IsTuple a its.toArray := p
    have ia : a ≠ it := fun z => by
      obtain ⟨o, ho, hc, _⟩ := p
      obtain ⟨o', ho', hc', _⟩ := hit
      rw [z, ho'] at ho
      cases ho
      rw [hc'] at hc
      exact absurd (Value.type.inj hc) (by decide)
    obtain ⟨f0, f1, f2, f3, f4, f5⟩ := hf it (by simp)
    have sz : i = its.toArray.size := by
      have := rv.length
      simp
      omega
    subst sz
    refine wpAny_pyNext_enum_endD (Draws.tuple (A := X.A.in1) (I.ok.hd hc) it a ia its.toArray) he ⟨hit, tup⟩ fun h' eb => ⟨rfl, I.turned (t' := s.toks) (fun b o hb q => eb b o hb q) f0 f1 f3 f4 f5⟩
  self := fun A i s Q E st h => by
    obtain ⟨⟨_, he⟩, _⟩ := st
    exact wpAny_pyIter_enum he h

/-- enumerate over a list or over a tuple -/
def iEnS (K : W.Frag) (ta : TA) : TI := fun σ H R => ta σ H fun vs H1 => ∃ a, vs = [V.ref a] ∧ ((∃ xs, SqL K H1 a xs ∧ R (Ite K a) H1) ∨ (∃ xs, SqT K H1 a xs ∧ R (Iet K a) H1))
theorem pi_enumS {X : Cx} {e : Expr} {ta : TA} {p pos tpos : Pos} {elts : List Expr} {kk : Nat} (hg : Gl X "enumerate") (hm : X.mg "enumerate" = none) (ha : PA X [e] ta) (hs : starEach [e] X.env = [(false, eval e X.env)] := by rfl) :
    PI X (.Tuple elts kk tpos) (.Call (.Name "enumerate" p) [e] [] pos) (iEnS X.K ta) where
  run := fun pins s σ H R I h =>
    Call_ (ld_blt I hg hm boot_enumerate (PyProof.Rows.callWith_type1 (thn (ha.run pos pins s σ H _ I h) fun us s1 x => by
      obtain ⟨vs, H1, I1, r1, a, rfl, q⟩ := x
      obtain ⟨u, rfl, ra⟩ := vals1 r1
      cases ra
      rcases q with ⟨xs, hq, q⟩ | ⟨xs, hq, q⟩
      · obtain ⟨its, rv, p', hz⟩ := I1.list hq
        refine call_enumerate_list (PlainL.isList p') fun h' he hit hsz hk => ?_
        have I2 := I1.kept (t' := s1.toks) hk
        refine wpAny_pyIter_enum he ⟨_, [s1.heap.objs.size + 1, s1.heap.objs.size], _, Ite X.K a, H1, rfl, I2, turn_enum a _ _, ?_, ?_, q⟩
        · exact ⟨⟨_, he⟩, hit, Nat.succ_ne_self _⟩
        · intro b hb
          have le : s1.heap.objs.size ≤ b := by
           rcases (by simpa using hb : b = s1.heap.objs.size + 1 ∨ b = s1.heap.objs.size) with rfl | rfl <;> omega
          exact I1.fpOk le (I1.hok.fresh le)
      · obtain ⟨its, rv, p', hz⟩ := I1.tuple hq
        have tup : s1.heap.IsTuple a its.toArray := p'
        refine call_one (begins_tuple a its.toArray) tup fun h' he hit hk => ?_
        have I2 := I1.kept (t' := s1.toks) hk
        refine wpAny_pyIter_enum he ⟨_, [s1.heap.objs.size + 1, s1.heap.objs.size], _, Iet X.K a, H1, rfl, I2, turn_et a _ _, ?_, ?_, q⟩
        · exact ⟨⟨_, he⟩, ⟨_, hit, rfl, rfl⟩, Nat.succ_ne_self _⟩
        · intro b hb
          have le : s1.heap.objs.size ≤ b := by
           rcases (by simpa using hb : b = s1.heap.objs.size + 1 ∨ b = s1.heap.objs.size) with rfl | rfl <;> omega
          exact I1.fpOk le (I1.hok.fresh le)) hs rfl) (by decide) (by decide)) rfl
theorem walk_enumT {K : W.Frag} {a : Addr} {xs : List V} : Walk (Iet K a) xs.length (fun H => SqT K H a xs) (YPair (fun i => some (.int (i : Nat))) (fun i => xs[i]?)) where
  goes := fun i H hi hq => ⟨xs, xs[i], hq, by simp [hi]⟩
  stops := fun H hq => ⟨xs, hq, rfl⟩
  yields := fun i H v H' hi hq h => by
    obtain ⟨T, x, rfl, hT, rfl, hx⟩ := h
    exact ⟨T, _, x, rfl, hT, rfl, rfl, hx xs hq⟩

/-- a dict comprehension over what walks -/
theorem dc_it {J : It} {n : Nat} {G : Hp → Prop} {Y : Nat → Hp → V → Hp → Prop} (w : Walk J n G Y) {g : TG} {tt : TT} {tk tv : TE} {vs : List Nat} {σ : L2.St} {H1 : Hp} {D : Addr} {Qd : Hp → Prop} (Pv : Nat → Hp → Prop)
    (h0 : Pv 0 (upd H1 D (.dK []))) (hl : ∀ i H, i ≤ n → Pv i H → G H)
    (hs : ∀ (i : Nat) (x : V) (H H' : Hp), i < n → Pv i H → Y i H x H' → g x (wipe σ vs) H' fun σ2 H2 => wipe σ2 vs = wipe σ vs ∧ tt σ2 H2 fun b H3 => if b = true then tk σ2 H3 fun y H4 => tv σ2 H4 fun z H5 =>
      ∃ kvs k, y = kV k ∧ H5 D = some (.dK kvs) ∧ kvs.length < sizeLine ∧ Pv (i + 1) (upd H5 D (.dK (putK kvs k z))) else Pv (i + 1) H3)
    (hd : ∀ H, Pv n H → Qd H) :
    ∃ W : Nat → Nat → Hp → Prop, (∃ m, W 0 m (upd H1 D (.dK []))) ∧ ∀ i m H, W i m H → (J.stop i H ∧ Qd H) ∨ (J.go i H ∧ ∃ Nx : Hp → Prop, (∀ H', Nx H' → ∃ m', m' < m ∧ W (i + 1) m' H') ∧
      ∀ x H', J.yld i H x H' → g x (wipe σ vs) H' fun σ2 H2 => wipe σ2 vs = wipe σ vs ∧ tt σ2 H2 fun b H3 => if b = true then tk σ2 H3 fun y H4 => tv σ2 H4 fun z H5 =>
        ∃ kvs k, y = kV k ∧ H5 D = some (.dK kvs) ∧ kvs.length < sizeLine ∧ Nx (upd H5 D (.dK (putK kvs k z))) else Nx H3) := by
  refine ⟨fun i m H => i ≤ n ∧ m = n - i ∧ Pv i H, ⟨n, Nat.zero_le _, rfl, h0⟩, ?_⟩
  rintro i m H ⟨hi, rfl, hp⟩
  by_cases h : i < n
  · refine .inr ⟨w.goes i H h (hl i H hi hp), Pv (i + 1), fun H' q => ⟨n - (i + 1), by omega, by omega, rfl, q⟩, fun x H' hy => ?_⟩
    exact hs i x H H' h hp (w.yields i H x H' h (hl i H hi hp) hy)
  · obtain rfl : i = n := by omega
    exact .inl ⟨w.stops H (hl _ H hi hp), hd H hp⟩

/-! ### tuple * 0 and tuple * 1 -/
end EnuT

/-! a def called by keywords alone -/
namespace EnuT
open PySem PySem.Spec PyProof.Rows L2
theorem pe_callK0 {X : Cx} {CX : CXT} {k : Nat} {f : Addr} {fd : FuncData} {ps ks : List Str} {sp : Sp} {E : XK} {x : Str} {p pos : Pos} {kws : List Keyword} {tk : TA} {g : List Value → List Value → List Value} {gV : List V → List V → List V}
    (F : FnOk X.prog X.w X.K X.mg X.base CX k f fd ps sp) (hr : Room k X.A) (hg : Gl X x) (hm : X.mg x = some (.ref f)) (kp : W.keepIn X.K (.ref f) = true) (hb : KBinds X.K fd ps ks g gV) (hx : Passes CX X E) (hk : PK X kws tk)
    (hall : (backToKw pos (keywordEach kws X.env)).all (·.1.isSome) = true := by rfl) (hks : (backToKw pos (keywordEach kws X.env)).filterMap (·.1) = ks := by rfl) (hdb : (x == ("__debug__" : Str)) = false := by decide)
    (hpl : ((backTo pos (starEach [] X.env)).any (·.1) || (backToKw pos (keywordEach kws X.env)).any (·.1.isNone)) = false := by rfl) :
    PE X (.Call (.Name x p) [] kws pos) (tCallK sp gV E tNil tk) := by
  refine ⟨fun pins s σ H Q I h => ?_⟩
  refine wpAny_Call_Name_kw (ld_glob I hg hm ?_ hdb)
  refine W.callWith_KW0 (h₀ := X.base) I.ok.mod.kin kp hall ?_ hpl
  refine thn (hk.run pos pins s σ H (fun zs H2 => sp (gV [] zs) H2 Q E) I h) fun ws s1 ⟨zs, H1, I1, r, q⟩ => ⟨I1.kIn, ?_⟩
  rw [hks]
  exact run_fnk F hr hb hx I1 .nil r q
end EnuT

/-! data, what holds them in the heap, and a def's state said by data alone -/
namespace DL
open PySem PySem.Spec PyProof.Rows L2

/-- data: what a value is, with all that it holds -/
inductive D where
  | non | bl (b : Bool) | int (i : Int) | str (s : Str)
  | any | lst (xs : List D) | tup (xs : List D) | dic (ks : List Str) (xs : List D) | obj (c : Str) (xs : List D)
  deriving Inhabited
/-- the written part, and what an instance of a class with such content is -/
structure DG where
  K : PySem.W.Frag
  inst : Str → List D → Addr → Hp → Prop
/-- all but what is at O stays -/
def SameO (O : Addr → Prop) (H H' : Hp) : Prop := ∀ b o, ¬ O b → H b = some o → H' b = some o
theorem same_new {H : Hp} {p : Addr} {o : HO} (n : H p = none) : Same H (upd H p o) := fun b u e => by rw [upd_ne (ne_of_none e n)]; exact e
/-- what holds, and goes on to hold whatever becomes of O -/
def Stb (O : Addr → Prop) (P : Hp → Prop) (H : Hp) : Prop := ∀ H', SameO O H H' → P H'
mutual
def DV (G : DG) (O : Addr → Prop) (H : Hp) : D → V → Prop
  | .non, v => v = .non
  | .bl b, v => v = .bl b
  | .int i, v => v = .int i
  | .str s, v => v = .str s
  | .any, _ => True
  | .lst ds, v => ∃ a xs, v = .ref a ∧ Stb O (fun H => H a = some (.lst xs)) H ∧ DVs G O H ds xs
  | .tup ds, v => ∃ a xs, v = .ref a ∧ Stb O (fun H => SqT G.K H a xs) H ∧ DVs G O H ds xs
  | .dic ks ds, v => ∃ a xs, v = .ref a ∧ Stb O (fun H => H a = some (.dK ((ks.map Sum.inr).zip xs))) H ∧ ks.length = xs.length ∧ DVs G O H ds xs
  | .obj c ds, v => ∃ a, v = .ref a ∧ Stb O (G.inst c ds a) H
def DVs (G : DG) (O : Addr → Prop) (H : Hp) : List D → List V → Prop
  | [], xs => xs = []
  | d :: ds, xs => ∃ v vs, xs = v :: vs ∧ DV G O H d v ∧ DVs G O H ds vs
end
/-- from O at H to O' at H': what no value of O knows stays unknown, all else stays as it is -/
def Step (O : Addr → Prop) (H : Hp) (O' : Addr → Prop) (H' : Hp) : Prop := ∀ b o, ¬ O b → H b = some o → ¬ O' b ∧ H' b = some o
section
variable {G : DG} {O O' : Addr → Prop} {H H' H2 : Hp}
theorem Stb.step {P : Hp → Prop} (h : Stb O P H) (s : Step O H O' H') : Stb O' P H' := fun H2 q => h H2 fun b o nb e => by
  obtain ⟨n, e'⟩ := s b o nb e
  exact q b o n e'
theorem Stb.now {P : Hp → Prop} (h : Stb O P H) : P H := h H fun _ _ _ e => e
theorem SameO.refl : SameO O H H := fun _ _ _ e => e
theorem SameO.trans (a : SameO O H H') (b : SameO O H' H2) : SameO O H H2 := fun c o n e => b c o n (a c o n e)
theorem SameO.of (s : Same H H') : SameO O H H' := fun b o _ e => s b o e
theorem SameO.mono (s : SameO O H H') (h : ∀ a, O a → O' a) : SameO O' H H' := fun b o n e => s b o (fun z => n (h b z)) e
theorem Step.of (s : SameO O H H') : Step O H O H' := fun b o n e => ⟨n, s b o n e⟩
theorem Step.less (h : ∀ a, O' a → O a) : Step O H O' H := fun b o n e => ⟨fun z => n (h b z), e⟩
mutual
theorem DV.step (s : Step O H O' H') : ∀ (d : D) (v : V), DV G O H d v → DV G O' H' d v
  | .non, _, h => h
  | .bl _, _, h => h
  | .int _, _, h => h
  | .str _, _, h => h
  | .any, _, _ => trivial
  | .lst ds, _, ⟨a, xs, e, q, r⟩ => ⟨a, xs, e, q.step s, DVs.step s ds xs r⟩
  | .tup ds, _, ⟨a, xs, e, q, r⟩ => ⟨a, xs, e, q.step s, DVs.step s ds xs r⟩
  | .dic ks ds, _, ⟨a, xs, e, q, l, r⟩ => ⟨a, xs, e, q.step s, l, DVs.step s ds xs r⟩
  | .obj c ds, _, ⟨a, e, q⟩ => ⟨a, e, q.step s⟩
theorem DVs.step (s : Step O H O' H') : ∀ (ds : List D) (vs : List V), DVs G O H ds vs → DVs G O' H' ds vs
  | [], _, h => h
  | d :: ds, _, ⟨v, vs, e, h, t⟩ => ⟨v, vs, e, DV.step s d v h, DVs.step s ds vs t⟩
end
theorem DV.mono {d : D} {v : V} (h : DV G O H d v) (s : SameO O H H') : DV G O H' d v := DV.step (Step.of s) d v h
theorem DVs.mono {d : List D} {v : List V} (h : DVs G O H d v) (s : SameO O H H') : DVs G O H' d v := DVs.step (Step.of s) d v h
theorem DV.less {d : D} {v : V} (h : DV G O H d v) (s : ∀ a, O' a → O a) : DV G O' H d v := DV.step (Step.less s) d v h
theorem DVs.less {d : List D} {v : List V} (h : DVs G O H d v) (s : ∀ a, O' a → O a) : DVs G O' H d v := DVs.step (Step.less s) d v h
theorem DVs.len : ∀ {ds : List D} {vs : List V}, DVs G O H ds vs → ds.length = vs.length
  | [], _, h => by
    have h : _ = [] := h
    subst h
    rfl
  | d :: ds, _, ⟨v, vs, e, _, t⟩ => by
    subst e
    rw [List.length_cons, List.length_cons, DVs.len t]
theorem DVs.get : ∀ {ds : List D} {vs : List V} {i : Nat} {v : V}, DVs G O H ds vs → vs[i]? = some v → ∃ d, ds[i]? = some d ∧ DV G O H d v
  | [], _, i, v, h, e => by
    have h : _ = [] := h
    rw [h] at e
    cases e
  | d :: ds, _, 0, v, ⟨x, xs, q, h, _⟩, e => by
    subst q
    cases e
    exact ⟨d, rfl, h⟩
  | d :: ds, _, i + 1, v, ⟨x, xs, q, _, t⟩, e => by
    subst q
    exact DVs.get (i := i) t e
theorem DVs.get' : ∀ {ds : List D} {vs : List V} {i : Nat} {d : D}, DVs G O H ds vs → ds[i]? = some d → ∃ v, vs[i]? = some v ∧ DV G O H d v
  | [], _, i, v, h, e => by cases e
  | d :: ds, _, 0, _, ⟨x, xs, q, h, _⟩, e => by
    subst q
    cases e
    exact ⟨x, rfl, h⟩
  | d :: ds, _, i + 1, v, ⟨x, xs, q, _, t⟩, e => by
    subst q
    exact DVs.get' (i := i) t e
theorem DVs.append : ∀ {ds es : List D} {vs us : List V}, DVs G O H ds vs → DVs G O H es us → DVs G O H (ds ++ es) (vs ++ us)
  | [], _, _, _, h, q => by
    have h : _ = [] := h
    rw [h]
    exact q
  | d :: ds, _, _, _, ⟨x, xs, e, h, t⟩, q => by
    subst e
    exact ⟨x, _, rfl, h, DVs.append t q⟩
theorem DVs.take : ∀ {ds : List D} {vs : List V} (n : Nat), DVs G O H ds vs → DVs G O H (ds.take n) (vs.take n)
  | _, _, 0, _ => rfl
  | [], _, n + 1, h => by
    have h : _ = [] := h
    rw [h]
    exact rfl
  | d :: ds, _, n + 1, ⟨x, xs, e, h, t⟩ => by
    subst e
    exact ⟨x, _, rfl, h, DVs.take n t⟩
theorem DVs.drop : ∀ {ds : List D} {vs : List V} (n : Nat), DVs G O H ds vs → DVs G O H (ds.drop n) (vs.drop n)
  | _, _, 0, h => h
  | [], _, n + 1, h => by
    have h : _ = [] := h
    rw [h]
    exact rfl
  | d :: ds, _, n + 1, ⟨x, xs, e, h, t⟩ => by
    subst e
    exact DVs.drop n t
theorem DVs.nil : DVs G O H [] [] := rfl
theorem DVs.cons {d : D} {v : V} {ds : List D} {vs : List V} (h : DV G O H d v) (t : DVs G O H ds vs) : DVs G O H (d :: ds) (v :: vs) := ⟨v, vs, rfl, h, t⟩
theorem DVs.set : ∀ {ds : List D} {vs : List V} {d : D} {v : V} (i : Nat), DVs G O H ds vs → DV G O H d v → DVs G O H (ds.set i d) (vs.set i v)
  | [], _, _, _, _, h, _ => by
    have h : _ = [] := h
    rw [h]
    exact rfl
  | _ :: ds, _, d, v, 0, ⟨x, xs, e, h, t⟩, q => by
    subst e
    exact ⟨v, xs, rfl, q, t⟩
  | _ :: ds, _, d, v, i + 1, ⟨x, xs, e, h, t⟩, q => by
    subst e
    exact ⟨x, _, rfl, h, DVs.set i t q⟩
/-- a new tuple -/
theorem DV.tup_new {ds : List D} {vs : List V} {p : Addr} (h : DVs G O H ds vs) (e : H p = none) (n : ¬ O p) : DV G O (upd H p (.tup vs)) (.tup ds) (.ref p) :=
  ⟨p, vs, rfl, fun H' s => SqT.of (s p _ n upd_same), h.mono (SameO.of (same_new e))⟩
theorem DV.lst_new {ds : List D} {vs : List V} {p : Addr} (h : DVs G O H ds vs) (e : H p = none) (n : ¬ O p) : DV G O (upd H p (.lst vs)) (.lst ds) (.ref p) :=
  ⟨p, vs, rfl, fun H' s => s p _ n upd_same, h.mono (SameO.of (same_new e))⟩
end

/-! ### a def's state -/
/-- what a slot holds: anything; data; the list of one's own with that number; the box -/
inductive Sl where
  | any | dat (d : D) | own (k : Nat) | box
/-- what stands around a def: what its callers own, what of it may change here, what is held of that, where the box is -/
structure Fr where
  G : DG
  O : Addr → Prop
  M : Addr → Prop
  B : Hp → Prop
  p : Addr
  MO : ∀ a, M a → O a
  BM : ∀ H H', (∀ b o, M b → H b = some o → H' b = some o) → B H → B H'
  BA : ∀ H, B H → ∀ a, M a → ∃ o, H a = some o
def Ow (F : Fr) (as : List (Option Addr)) : Addr → Prop := fun a => F.O a ∨ some a ∈ as
/-- what stands at an address of one's own -/
def CtAt (G : DG) (O : Addr → Prop) (H : Hp) (a : Addr) : D → Prop
  | .lst ds => ∃ vs, H a = some (.lst vs) ∧ DVs G O H ds vs
  | .dic ks ds => ∃ vs, H a = some (.dK ((ks.map Sum.inr).zip vs)) ∧ ks.length = vs.length ∧ DVs G O H ds vs
  | _ => False
section
variable {G : DG} {O O' : Addr → Prop} {H H' : Hp} {a : Addr}
theorem CtAt.step (s : Step O H O' H') (k : ∀ o, H a = some o → H' a = some o) : ∀ {d : D}, CtAt G O H a d → CtAt G O' H' a d
  | .lst ds, ⟨vs, e, r⟩ => ⟨vs, k _ e, DVs.step s ds vs r⟩
  | .dic ks ds, ⟨vs, e, l, r⟩ => ⟨vs, k _ e, l, DVs.step s ds vs r⟩
theorem CtAt.some : ∀ {d : D}, CtAt G O H a d → ∃ o, H a = some o
  | .lst _, ⟨_, e, _⟩ => ⟨_, e⟩
  | .dic _ _, ⟨_, e, _⟩ => ⟨_, e⟩
/-- nobody's any more: a datum -/
theorem CtAt.dat (n : ¬ O a) : ∀ {d : D}, CtAt G O H a d → DV G O H d (.ref a)
  | .lst _, ⟨vs, e, r⟩ => ⟨a, vs, rfl, fun _ s => s a _ n e, r⟩
  | .dic _ _, ⟨vs, e, l, r⟩ => ⟨a, vs, rfl, fun _ s => s a _ n e, l, r⟩
end
def SlOk (F : Fr) (as : List (Option Addr)) (H : Hp) : Option V → Sl → Prop
  | _, .any => True
  | o, .dat d => ∃ v, o = some v ∧ DV F.G (Ow F as) H d v
  | o, .own k => ∃ a, o = some (.ref a) ∧ as[k]? = some (some a)
  | o, .box => o = some (.ref F.p)
structure StOk (F : Fr) (H0 : Hp) (as : List (Option Addr)) (σ : L2.St) (H : Hp) (ρ : List Sl) (ω : List D) : Prop where
  al : ∀ a, F.O a → ∃ o, H0 a = some o
  fr : SameO F.M H0 H
  new : ∀ a, some a ∈ as → H0 a = none
  nd : ∀ (i j : Nat) (a : Addr), as[i]? = some (some a) → as[j]? = some (some a) → i = j
  bx : F.B H
  ow : ∀ (k : Nat) (a : Addr), as[k]? = some (some a) → ∃ d, ω[k]? = some d ∧ CtAt F.G (Ow F as) H a d
  ol : ω.length = as.length
  en : Paired (SlOk F as H) σ ρ
section
variable {F : Fr} {H0 H H' : Hp} {as as' : List (Option Addr)} {σ : L2.St} {ρ : List Sl} {ω : List D}
theorem StOk.notM (st : StOk F H0 as σ H ρ ω) {a : Addr} (h : some a ∈ as) : ¬ F.O a := fun z => by
  obtain ⟨o, e⟩ := st.al a z
  rw [st.new a h] at e
  cases e
/-- what is new is nobody's -/
theorem StOk.fresh (st : StOk F H0 as σ H ρ ω) {a : Addr} (h : H a = none) : ¬ Ow F as a ∧ H0 a = none ∧ ¬ F.O a := by
  have hO : ¬ F.O a := fun z => by
    by_cases m : F.M a
    · obtain ⟨o, e⟩ := F.BA H st.bx a m
      rw [h] at e
      cases e
    · obtain ⟨o, e⟩ := st.al a z
      have := st.fr a o m e
      rw [h] at this
      cases this
  have h0 : H0 a = none := by
    cases e : H0 a with
    | none => rfl
    | some o =>
      have := st.fr a o (fun z => hO (F.MO a z)) e
      rw [h] at this
      cases this
  refine ⟨fun z => ?_, h0, hO⟩
  rcases z with z | z
  · exact hO z
  · obtain ⟨k, hk, e⟩ := List.getElem_of_mem z
    obtain ⟨_, _, ct⟩ := st.ow k a (by rw [List.getElem?_eq_getElem hk, e])
    obtain ⟨_, e2⟩ := ct.some
    rw [h] at e2
    cases e2
theorem SlOk.mono {o : Option V} : ∀ {s : Sl}, SlOk F as H o s → SameO (Ow F as) H H' → SlOk F as H' o s
  | .any, _, _ => trivial
  | .dat d, ⟨v, e, h⟩, s => ⟨v, e, h.mono s⟩
  | .own k, h, _ => h
  | .box, h, _ => h
/-- only new things came -/
theorem StOk.same (st : StOk F H0 as σ H ρ ω) (s : Same H H') : StOk F H0 as σ H' ρ ω where
  al := st.al
  fr := st.fr.trans (SameO.of s)
  new := st.new
  nd := st.nd
  bx := F.BM H H' (fun b o _ e => s b o e) st.bx
  ow := fun k a e => by
    obtain ⟨d, h1, h2⟩ := st.ow k a e
    exact ⟨d, h1, h2.step (Step.of (SameO.of s)) (s a)⟩
  ol := st.ol
  en := Paired.mapP st.en fun o sl h => h.mono (SameO.of s)
theorem slots_get : ∀ {σ : L2.St} {ρ : List Sl} {i : Nat} {s : Sl}, Paired (SlOk F as H) σ ρ → ρ[i]? = some s → ∃ o, σ[i]? = some o ∧ SlOk F as H o s
  | _, _, _, _, .nil, e => by cases e
  | _, _, 0, _, .cons r _, e => by
    cases e
    exact ⟨_, rfl, r⟩
  | _, _, i + 1, _, .cons _ t, e => slots_get (i := i) t e
theorem slots_set {o : Option V} {s : Sl} (h : SlOk F as H o s) : ∀ {σ : L2.St} {ρ : List Sl} (i : Nat), Paired (SlOk F as H) σ ρ → Paired (SlOk F as H) (σ.set i o) (ρ.set i s)
  | _, _, _, .nil => .nil
  | _, _, 0, .cons _ t => .cons h t
  | _, _, i + 1, .cons r t => .cons r (slots_set h i t)
theorem StOk.set (st : StOk F H0 as σ H ρ ω) {o : Option V} {s : Sl} (h : SlOk F as H o s) (i : Nat) : StOk F H0 as (σ.set i o) H (ρ.set i s) ω := { st with en := slots_set h i st.en }
end
end DL

/-! expressions over data -/
namespace DL
open PySem PySem.Spec PyProof.Rows L2

abbrev DX := List Sl → List D → (D → Prop) → Prop
abbrev DXs := List Sl → List D → (List D → Prop) → Prop
abbrev DXt := List Sl → List D → (Bool → Prop) → Prop
def tD (F : Fr) (τ : DX) : TE := fun σ H Q => ∃ H0 as ρ ω q, StOk F H0 as σ H ρ ω ∧ τ ρ ω q ∧ ∀ d v H', q d → SameO (Ow F as) H H' → StOk F H0 as σ H' ρ ω → DV F.G (Ow F as) H' d v → Q v H'
def tDs (F : Fr) (τ : DXs) : TA := fun σ H Q => ∃ H0 as ρ ω q, StOk F H0 as σ H ρ ω ∧ τ ρ ω q ∧ ∀ d v H', q d → SameO (Ow F as) H H' → StOk F H0 as σ H' ρ ω → DVs F.G (Ow F as) H' d v → Q v H'
def tDt (F : Fr) (τ : DXt) : TT := fun σ H Q => ∃ H0 as ρ ω q, StOk F H0 as σ H ρ ω ∧ τ ρ ω q ∧ ∀ b H', q b → SameO (Ow F as) H H' → StOk F H0 as σ H' ρ ω → Q b H'
section
variable {X : Cx} {e a b : Expr} {es : List Expr} {t t' : TE}
theorem PE.wk (h : PE X e t) (i : ∀ σ H Q, t' σ H Q → t σ H Q) : PE X e t' := ⟨fun pins s σ H Q I w => h.run pins s σ H Q I (i _ _ _ w)⟩
theorem PA.wk {t t' : TA} (h : PA X es t) (i : ∀ σ H Q, t' σ H Q → t σ H Q) : PA X es t' := ⟨fun pos pins s σ H Q I w => h.run pos pins s σ H Q I (i _ _ _ w)⟩
theorem PT.wk {t t' : TT} (h : PT X e t) (i : ∀ σ H Q, t' σ H Q → t σ H Q) : PT X e t' := ⟨fun pins s σ H Q I w => h.run pins s σ H Q I (i _ _ _ w)⟩
theorem PW.wk {t t' : TT} (h : PW X e t) (i : ∀ σ H Q, t' σ H Q → t σ H Q) : PW X e t' := ⟨fun whole pins s σ H Q I w => h.run whole pins s σ H Q I (i _ _ _ w)⟩
theorem OpR.or {f : Value → Value → Sem Value} {r1 r2 : R2} (h1 : OpR X f r1) (h2 : OpR X f r2) : OpR X f (fun x y H Q => r1 x y H Q ∨ r2 x y H Q) := fun pins s σ H x y v u Q I rx ry h => h.elim (h1 pins s σ H x y v u Q I rx ry) (h2 pins s σ H x y v u Q I rx ry)
theorem CallR.or {f : Value} {r1 r2 : List V → Hp → VK → Prop} (h1 : CallR X f r1) (h2 : CallR X f r2) : CallR X f (fun xs H Q => r1 xs H Q ∨ r2 xs H Q) := fun pins s σ H xs us Q I rx h => h.elim (h1 pins s σ H xs us Q I rx) (h2 pins s σ H xs us Q I rx)
end
/-! ### values -/
def dVar (i : Nat) : DX := fun ρ ω q => ∃ d, ρ[i]? = some (.dat d) ∧ q d
def dC (d : D) : DX := fun _ _ q => q d
section
variable {X : Cx} {F : Fr}
theorem dv (i : Nat) {x : Str} {pos : Pos} (hN : X.N[i]? = some x := by rfl) (hv : Vis X.env.scope x := by first | exact .inl rfl | exact .inr (.inl rfl) | exact .inr (.inr rfl)) (hd : (x == ("__debug__" : Str)) = false := by decide) (hcd : (x == ("__classdict__" : Str)) = false := by decide) : PE X (.Name x pos) (tD F (dVar i)) :=
  PE.wk (pe_var hN hv hd hcd) fun σ H Q ⟨H0, as, ρ, ω, q, st, ⟨d, hd, h⟩, k⟩ => by
    obtain ⟨o, e, v, rfl, dv⟩ := slots_get st.en hd
    exact ⟨v, e, k d v H h (SameO.refl) st dv⟩
theorem dC_mk {e : Expr} {d : D} {v : V} (h : PE X e (tC v)) (c : ∀ O H, DV F.G O H d v) : PE X e (tD F (dC d)) :=
  PE.wk h fun σ H Q ⟨H0, as, ρ, ω, q, st, h, k⟩ => k d v H h (SameO.refl) st (c _ _)
theorem d_int {i j pos} : PE X (.Constant (.int i) j pos) (tD F (dC (.int i))) := dC_mk pe_int fun _ _ => rfl
theorem d_str {x j pos} : PE X (.Constant (.str x) j pos) (tD F (dC (.str x))) := dC_mk pe_str fun _ _ => rfl
theorem d_bl {b j pos} : PE X (.Constant (.bool b) j pos) (tD F (dC (.bl b))) := dC_mk pe_bl fun _ _ => rfl
theorem d_non {j pos} : PE X (.Constant .none j pos) (tD F (dC .non)) := dC_mk pe_non fun _ _ => rfl
end
/-! ### lists of arguments, tuples, lists -/
def dNil : DXs := fun _ _ q => q []
def dCons (τ : DX) (τs : DXs) : DXs := fun ρ ω q => τ ρ ω fun d => τs ρ ω fun ds => q (d :: ds)
def dTup (τs : DXs) : DX := fun ρ ω q => τs ρ ω fun ds => ds.length ≤ sizeLine ∧ q (.tup ds)
def dLst (τs : DXs) : DX := fun ρ ω q => τs ρ ω fun ds => ds.length ≤ sizeLine ∧ q (.lst ds)
section
variable {X : Cx} {F : Fr} {e : Expr} {es : List Expr} {τ : DX} {τs : DXs}
theorem da_nil : PA X [] (tDs F dNil) := PA.wk pa_nil fun σ H Q ⟨H0, as, ρ, ω, q, st, h, k⟩ => k [] [] H h (SameO.refl) st DVs.nil
theorem da_cons (he : PE X e (tD F τ)) (hr : PA X es (tDs F τs)) (hs : starEach (e :: es) X.env = (false, eval e X.env) :: starEach es X.env := by rfl) : PA X (e :: es) (tDs F (dCons τ τs)) :=
  PA.wk (pa_cons he hr hs) fun σ H Q ⟨H0, as, ρ, ω, q, st, h, k⟩ => ⟨H0, as, ρ, ω, _, st, h, fun d v H1 h1 s1 st1 dv => ⟨H0, as, ρ, ω, _, st1, h1, fun ds vs H2 h2 s2 st2 dvs => k _ _ H2 h2 (s1.trans s2) st2 (.cons (dv.mono s2) dvs)⟩⟩
theorem d_tup {pos : Pos} {k : Nat} (h : PA X es (tDs F τs)) : PE X (.Tuple es k pos) (tD F (dTup τs)) :=
  PE.wk (pe_tup h) fun σ H Q ⟨H0, as, ρ, ω, q, st, h, k⟩ => ⟨H0, as, ρ, ω, _, st, h, fun ds vs H1 ⟨l, h1⟩ s1 st1 dv => ⟨by rw [← dv.len]; exact l, fun p hp => k _ _ _ h1 (s1.trans (SameO.of (same_new hp))) (st1.same (same_new hp)) (DV.tup_new dv hp (st1.fresh hp).1)⟩⟩
theorem d_lst {pos : Pos} (h : PA X es (tDs F τs)) : PE X (.List es pos) (tD F (dLst τs)) :=
  PE.wk (pe_lst h) fun σ H Q ⟨H0, as, ρ, ω, q, st, h, k⟩ => ⟨H0, as, ρ, ω, _, st, h, fun ds vs H1 ⟨l, h1⟩ s1 st1 dv => ⟨by rw [← dv.len]; exact l, fun p hp => k _ _ _ h1 (s1.trans (SameO.of (same_new hp))) (st1.same (same_new hp)) (DV.lst_new dv hp (st1.fresh hp).1)⟩⟩
end
/-! ### rules by values -/
/-- what a rule by values says of data -/
def Abs2 (G : DG) (r : R2) (R : D → D → (D → Prop) → Prop) : Prop := ∀ (O : Addr → Prop) (H : Hp) (x y : D) (v u : V) (q : D → Prop) (Q : VK), (∀ p, H p = none → ¬ O p) → DV G O H x v → DV G O H y u → R x y q → (∀ d w H', q d → Same H H' → DV G O H' d w → Q w H') → r v u H Q
def AbsL (G : DG) (r : List V → Hp → VK → Prop) (R : List D → (D → Prop) → Prop) : Prop := ∀ (O : Addr → Prop) (H : Hp) (xs : List D) (vs : List V) (q : D → Prop) (Q : VK), (∀ p, H p = none → ¬ O p) → DVs G O H xs vs → R xs q → (∀ d w H', q d → Same H H' → DV G O H' d w → Q w H') → r vs H Q
/-- a rule that gives one datum -/
abbrev one2 (f : D → D → Option D) : D → D → (D → Prop) → Prop := fun x y q => ∃ d, f x y = some d ∧ q d
abbrev oneL (f : List D → Option D) : List D → (D → Prop) → Prop := fun xs q => ∃ d, f xs = some d ∧ q d
def dBin (R : D → D → (D → Prop) → Prop) (τa τb : DX) : DX := fun ρ ω q => τa ρ ω fun x => τb ρ ω fun y => R x y fun d => q d
def dCall (R : List D → (D → Prop) → Prop) (τs : DXs) : DX := fun ρ ω q => τs ρ ω fun xs => R xs fun d => q d
section
variable {X : Cx} {F : Fr} {a b e : Expr} {es : List Expr} {τa τb : DX} {τs : DXs} {pos p : Pos} {r : R2} {R : D → D → (D → Prop) → Prop} {rL : List V → Hp → VK → Prop} {RL : List D → (D → Prop) → Prop}
theorem core2 (A : Abs2 F.G r R) {σ : L2.St} {H : Hp} {Q : VK} : tD F (dBin R τa τb) σ H Q → tOp r (tD F τa) (tD F τb) σ H Q := fun ⟨H0, as, ρ, ω, q, st, h, k⟩ =>
  ⟨H0, as, ρ, ω, _, st, h, fun x v H1 h1 s1 st1 dv => ⟨H0, as, ρ, ω, _, st1, h1, fun y u H2 h2 s2 st2 du =>
    A (Ow F as) H2 x y v u _ Q (fun p hp => (st2.fresh hp).1) (dv.mono s2) du h2 fun d w H3 hq s3 dw => k d w H3 hq ((s1.trans s2).trans (SameO.of s3)) (st2.same s3) dw⟩⟩
theorem coreL (A : AbsL F.G rL RL) {σ : L2.St} {H : Hp} {Q : VK} : tD F (dCall RL τs) σ H Q → tCB rL (tDs F τs) σ H Q := fun ⟨H0, as, ρ, ω, q, st, h, k⟩ =>
  ⟨H0, as, ρ, ω, _, st, h, fun x v H1 h1 s1 st1 dv => A (Ow F as) H1 x v _ Q (fun p hp => (st1.fresh hp).1) dv h1 fun d w H3 hq s3 dw => k d w H3 hq (s1.trans (SameO.of s3)) (st1.same s3) dw⟩
theorem d_op {op : Operator} (ho : OpR X (binaryOp op) r) (A : Abs2 F.G r R) (ha : PE X a (tD F τa)) (hb : PE X b (tD F τb)) : PE X (.BinOp a op b pos) (tD F (dBin R τa τb)) := PE.wk (pe_op ho ha hb) fun _ _ _ => core2 A
theorem d_sub {IxR_ : IxR X r} (A : Abs2 F.G r R) (ha : PE X a (tD F τa)) (hb : PE X b (tD F τb)) (pl : PlainIx b := by exact fun _ _ => rfl) : PE X (.Subscript a b pos) (tD F (dBin R τa τb)) := PE.wk (pe_ix IxR_ ha hb pl) fun _ _ _ => core2 A
theorem d_cmp {op : CmpOp} (ho : OpR X (compareOp op) r) (A : Abs2 F.G r R) (ha : PE X a (tD F τa)) (hb : PE X b (tD F τb)) (nm : behindInMarks op b = false) : PE X (.Compare a [op] [b] pos) (tD F (dBin R τa τb)) := PE.wk (pe_cmpR ho ha hb nm) fun _ _ _ => core2 A
def dTest (τ : DX) : DXt := fun ρ ω q => τ ρ ω fun d => ∃ c, d = .bl c ∧ q c
theorem core_test {t : TE} {τ : DX} (h : ∀ σ H Q, tD F τ σ H Q → t σ H Q) {σ : L2.St} {H : Hp} {Q : Bool → Hp → Prop} : tDt F (dTest τ) σ H Q → tTest t σ H Q := fun ⟨H0, as, ρ, ω, q, st, w, k⟩ =>
  h _ _ _ ⟨H0, as, ρ, ω, _, st, w, fun d v H1 ⟨c, e, h1⟩ s1 st1 dv => by
    subst e
    exact ⟨c, dv, k c H1 h1 s1 st1⟩⟩
theorem d_tcmp {op : CmpOp} (ho : OpR X (compareOp op) r) (A : Abs2 F.G r R) (ha : PE X a (tD F τa)) (hb : PE X b (tD F τb)) (nm : behindInMarks op b = false) : PT X (.Compare a [op] [b] pos) (tDt F (dTest (dBin R τa τb))) := PT.wk (pt_cmpR ho ha hb nm) fun _ _ _ => core_test fun _ _ _ => core2 A
theorem d_tval {τ : DX} (h : PE X e (tD F τ)) (he : ∀ whole, isTrue e X.env whole = (do let v ← whole; standAt e.pos; holding [v] (truthy v)) := by intro _; rfl) : PT X e (tDt F (dTest τ)) := PT.wk (pt_val h he) fun _ _ _ => core_test fun _ _ _ z => z
theorem d_callB {x : Str} {id : String} (hc : CallR X (.builtin id) rL) (A : AbsL F.G rL RL) (hg : Gl X x) (hm : X.mg x = none) (hv : bootBuiltins x = some (.builtin id)) (ha : PA X (e :: es) (tDs F τs)) (hn : x ≠ "__name__" := by decide) (hdb : (x == ("__debug__" : Str)) = false := by decide)
    (he : starEach (e :: es) X.env = (false, eval e X.env) :: starEach es X.env := by rfl) (hpl : (backTo pos (starEach es X.env)).any (·.1) = false := by rfl) : PE X (.Call (.Name x p) (e :: es) [] pos) (tD F (dCall RL τs)) := PE.wk (pe_callB hc hg hm hv ha hn hdb he hpl) fun _ _ _ => coreL A
theorem d_callTy {x : Str} {T : String} (hc : CallR X (.type T) rL) (A : AbsL F.G rL RL) (hg : Gl X x) (hm : X.mg x = none) (hv : bootBuiltins x = some (.type T)) (ha : PA X (e :: es) (tDs F τs)) (hn : x ≠ "__name__" := by decide) (hdb : (x == ("__debug__" : Str)) = false := by decide)
    (he : starEach (e :: es) X.env = (false, eval e X.env) :: starEach es X.env := by rfl) (hpl : (backTo pos (starEach es X.env)).any (·.1) = false := by rfl) : PE X (.Call (.Name x p) (e :: es) [] pos) (tD F (dCall RL τs)) := PE.wk (pe_callTy hc hg hm hv ha hn hdb he hpl) fun _ _ _ => coreL A
end
/-! ### tests, choices -/
def dAnd (τa τb : DXt) : DXt := fun ρ ω q => τa ρ ω fun c => if c = true then τb ρ ω q else q false
def dOr (τa τb : DXt) : DXt := fun ρ ω q => τa ρ ω fun c => if c = true then q true else τb ρ ω q
def dNot (τ : DXt) : DXt := fun ρ ω q => τ ρ ω fun c => q (!c)
def dIf (τt : DXt) (τa τb : DX) : DX := fun ρ ω q => τt ρ ω fun c => if c = true then τa ρ ω q else τb ρ ω q
def dAndV (τa τb : DX) : DX := fun ρ ω q => τa ρ ω fun x => ∃ c, x = .bl c ∧ if c = true then τb ρ ω q else q (.bl false)
def dOrV (τa τb : DX) : DX := fun ρ ω q => τa ρ ω fun x => ∃ c, x = .bl c ∧ if c = true then q (.bl true) else τb ρ ω q
def dNotV (τ : DX) : DX := fun ρ ω q => τ ρ ω fun x => ∃ c, x = .bl c ∧ q (.bl (!c))
def isNon : D → Bool
  | .non => true
  | _ => false
def dIsN (τ : DX) : DX := fun ρ ω q => τ ρ ω fun x => x ≠ .any ∧ q (.bl (isNon x))
def dNotN (τ : DX) : DX := fun ρ ω q => τ ρ ω fun x => x ≠ .any ∧ q (.bl (!isNon x))
section
variable {X : Cx} {F : Fr} {a b c e : Expr} {rest : List Expr} {τ τa τb : DX} {τt τu : DXt} {pos : Pos}
theorem dw_and1 (h : PT X a (tDt F τt)) : PW X (.BoolOp .And [a] pos) (tDt F τt) := pw_and1 h
theorem dw_or1 (h : PT X a (tDt F τt)) : PW X (.BoolOp .Or [a] pos) (tDt F τt) := pw_or1 h
theorem dw_and (h : PT X a (tDt F τt)) (g : PW X (.BoolOp .And (b :: rest) pos) (tDt F τu)) : PW X (.BoolOp .And (a :: b :: rest) pos) (tDt F (dAnd τt τu)) :=
  PW.wk (pw_and h g) fun σ H Q ⟨H0, as, ρ, ω, q, st, w, k⟩ => ⟨H0, as, ρ, ω, _, st, w, fun c H1 h1 s1 st1 => by
    cases c with
    | true => exact iteT ⟨H0, as, ρ, ω, q, st1, h1, fun b H2 h2 s2 st2 => k b H2 h2 (s1.trans s2) st2⟩
    | false => exact iteF (k false H1 h1 s1 st1)⟩
theorem dw_or (h : PT X a (tDt F τt)) (g : PW X (.BoolOp .Or (b :: rest) pos) (tDt F τu)) : PW X (.BoolOp .Or (a :: b :: rest) pos) (tDt F (dOr τt τu)) :=
  PW.wk (pw_or h g) fun σ H Q ⟨H0, as, ρ, ω, q, st, w, k⟩ => ⟨H0, as, ρ, ω, _, st, w, fun c H1 h1 s1 st1 => by
    cases c with
    | true => exact iteT (k true H1 h1 s1 st1)
    | false => exact iteF ⟨H0, as, ρ, ω, q, st1, h1, fun b H2 h2 s2 st2 => k b H2 h2 (s1.trans s2) st2⟩⟩
theorem d_tnot (h : PT X a (tDt F τt)) : PT X (.UnaryOp .Not a pos) (tDt F (dNot τt)) :=
  PT.wk (pt_not h) fun σ H Q ⟨H0, as, ρ, ω, q, st, w, k⟩ => ⟨H0, as, ρ, ω, _, st, w, fun c H1 h1 s1 st1 => k (!c) H1 h1 s1 st1⟩
theorem d_if (hc : PT X c (tDt F τt)) (ha : PE X a (tD F τa)) (hb : PE X b (tD F τb)) : PE X (.IfExp c a b pos) (tD F (dIf τt τa τb)) :=
  PE.wk (pe_ifExp hc ha hb) fun σ H Q ⟨H0, as, ρ, ω, q, st, w, k⟩ => ⟨H0, as, ρ, ω, _, st, w, fun c H1 h1 s1 st1 => by
    cases c with
    | true => exact iteT ⟨H0, as, ρ, ω, q, st1, h1, fun d v H2 h2 s2 st2 => k d v H2 h2 (s1.trans s2) st2⟩
    | false => exact iteF ⟨H0, as, ρ, ω, q, st1, h1, fun d v H2 h2 s2 st2 => k d v H2 h2 (s1.trans s2) st2⟩⟩
theorem d_one {op} (h : PE X a (tD F τ)) : PE X (.BoolOp op [a] pos) (tD F τ) := pe_one h
theorem d_and (ha : PE X a (tD F τa)) (hb : PE X (.BoolOp .And (b :: rest) pos) (tD F τb)) : PE X (.BoolOp .And (a :: b :: rest) pos) (tD F (dAndV τa τb)) :=
  PE.wk (pe_and ha hb) fun σ H Q ⟨H0, as, ρ, ω, q, st, w, k⟩ => ⟨H0, as, ρ, ω, _, st, w, fun d v H1 ⟨c, e, h1⟩ s1 st1 dv => by
    subst e
    refine ⟨c, dv, ?_⟩
    cases c with
    | true => exact iteT ⟨H0, as, ρ, ω, q, st1, h1, fun d v H2 h2 s2 st2 => k d v H2 h2 (s1.trans s2) st2⟩
    | false => exact iteF (k _ _ H1 h1 s1 st1 rfl)⟩
theorem d_or (ha : PE X a (tD F τa)) (hb : PE X (.BoolOp .Or (b :: rest) pos) (tD F τb)) : PE X (.BoolOp .Or (a :: b :: rest) pos) (tD F (dOrV τa τb)) :=
  PE.wk (pe_or ha hb) fun σ H Q ⟨H0, as, ρ, ω, q, st, w, k⟩ => ⟨H0, as, ρ, ω, _, st, w, fun d v H1 ⟨c, e, h1⟩ s1 st1 dv => by
    subst e
    refine ⟨c, dv, ?_⟩
    cases c with
    | true => exact iteT (k _ _ H1 h1 s1 st1 rfl)
    | false => exact iteF ⟨H0, as, ρ, ω, q, st1, h1, fun d v H2 h2 s2 st2 => k d v H2 h2 (s1.trans s2) st2⟩⟩
theorem d_not (ha : PE X a (tD F τa)) : PE X (.UnaryOp .Not a pos) (tD F (dNotV τa)) :=
  PE.wk (pe_not ha) fun σ H Q ⟨H0, as, ρ, ω, q, st, w, k⟩ => ⟨H0, as, ρ, ω, _, st, w, fun d v H1 ⟨c, e, h1⟩ s1 st1 dv => by
    subst e
    exact ⟨c, dv, k _ _ H1 h1 s1 st1 rfl⟩⟩
theorem dv_non {G : DG} {O : Addr → Prop} {H : Hp} {d : D} {v : V} (h : DV G O H d v) (na : d ≠ .any) : decide (v = .non) = isNon d := by
  cases d with
  | any => exact (na rfl).elim
  | non => exact decide_eq_true h
  | bl b => exact decide_eq_false fun z => by rw [show v = _ from h] at z; cases z
  | int b => exact decide_eq_false fun z => by rw [show v = _ from h] at z; cases z
  | str b => exact decide_eq_false fun z => by rw [show v = _ from h] at z; cases z
  | lst ds => obtain ⟨a, xs, e, _⟩ := h; exact decide_eq_false fun z => by rw [e] at z; cases z
  | tup ds => obtain ⟨a, xs, e, _⟩ := h; exact decide_eq_false fun z => by rw [e] at z; cases z
  | dic ks ds => obtain ⟨a, xs, e, _⟩ := h; exact decide_eq_false fun z => by rw [e] at z; cases z
  | obj c ds => obtain ⟨a, e, _⟩ := h; exact decide_eq_false fun z => by rw [e] at z; cases z
theorem core_isN {σ : L2.St} {H : Hp} {Q : VK} : tD F (dIsN τ) σ H Q → tIsN (tD F τ) σ H Q := fun ⟨H0, as, ρ, ω, q, st, w, k⟩ => ⟨H0, as, ρ, ω, _, st, w, fun d v H1 ⟨na, h1⟩ s1 st1 dv => by
    show Q (V.bl (decide (v = .non))) H1
    rw [dv_non dv na]
    exact k _ _ H1 h1 s1 st1 rfl⟩
theorem core_notN {σ : L2.St} {H : Hp} {Q : VK} : tD F (dNotN τ) σ H Q → tNotN (tD F τ) σ H Q := fun ⟨H0, as, ρ, ω, q, st, w, k⟩ => ⟨H0, as, ρ, ω, _, st, w, fun d v H1 ⟨na, h1⟩ s1 st1 dv => by
    show Q (V.bl (!decide (v = .non))) H1
    rw [dv_non dv na]
    exact k _ _ H1 h1 s1 st1 rfl⟩
theorem d_isN {j pos'} (ha : PE X a (tD F τ)) : PE X (.Compare a [.Is] [.Constant .none j pos'] pos) (tD F (dIsN τ)) := PE.wk (pe_cmp (pc_isN ha) rfl) fun _ _ _ => core_isN
theorem d_notN {j pos'} (ha : PE X a (tD F τ)) : PE X (.Compare a [.IsNot] [.Constant .none j pos'] pos) (tD F (dNotN τ)) := PE.wk (pe_cmp (pc_notN ha) rfl) fun _ _ _ => core_notN
theorem d_tisN {j pos'} (ha : PE X a (tD F τ)) : PT X (.Compare a [.Is] [.Constant .none j pos'] pos) (tDt F (dTest (dIsN τ))) := PT.wk (pt_cmp (pc_isN ha) rfl) fun _ _ _ => core_test fun _ _ _ => core_isN
theorem d_tnotN {j pos'} (ha : PE X a (tD F τ)) : PT X (.Compare a [.IsNot] [.Constant .none j pos'] pos) (tDt F (dTest (dNotN τ))) := PT.wk (pt_cmp (pc_notN ha) rfl) fun _ _ _ => core_test fun _ _ _ => core_notN
end
end DL

/-! operators and built-ins over data -/
namespace DL
open PySem PySem.Spec PyProof.Rows L2

def small : D → Prop
  | .str s => s.length ≤ sizeLine
  | .tup xs => xs.length ≤ sizeLine
  | .lst xs => xs.length ≤ sizeLine
  | _ => True
def addD : D → D → Option D
  | .int i, .int j => some (.int (i + j))
  | .str a, .str b => some (.str (a ++ b))
  | .tup a, .tup b => some (.tup (a ++ b))
  | .lst a, .lst b => some (.lst (a ++ b))
  | _, _ => none
def RAdd : D → D → (D → Prop) → Prop := fun x y q => ∃ d, addD x y = some d ∧ small d ∧ q d
section
variable {G : DG} {O : Addr → Prop} {H : Hp} {X : Cx}
theorem DVs.nil_iff {ds : List D} {vs : List V} (h : DVs G O H ds vs) : vs = [] ↔ ds = [] := by
  have := h.len
  constructor
  · intro e
    subst e
    exact List.eq_nil_of_length_eq_zero this
  · intro e
    subst e
    exact List.eq_nil_of_length_eq_zero this.symm
def rAddA (K : PySem.W.Frag) : R2 := fun x y H Q => rI0 (fun i j => V.int (i + j)) x y H Q ∨ (∃ i j : Str, x = .str i ∧ y = .str j ∧ i.length + j.length ≤ sizeLine ∧ Q (.str (i ++ j)) H) ∨ rCatA K x y H Q ∨ rCat x y H Q
theorem op_addA : OpR X (binaryOp .Add) (rAddA X.K) := OpR.or op_add (OpR.or op_add_str (OpR.or op_catA op_cat))
theorem str_app_len (a b : Str) : (a ++ b).length = a.length + b.length := by
  show (a.cps ++ b.cps).size = _
  rw [Array.size_append]
  rfl
theorem abs_add : Abs2 G (rAddA G.K) RAdd := by
  rintro O H x y v u q Q nO hx hy ⟨d, e, sm, hq⟩ k
  unfold addD at e
  split at e
  · rename_i i j
    cases e
    exact .inl ⟨i, j, hx, hy, k _ _ H hq (fun _ _ z => z) rfl⟩
  · rename_i a b
    cases e
    exact .inr (.inl ⟨a, b, hx, hy, by rw [← str_app_len]; exact sm, k _ _ H hq (fun _ _ z => z) rfl⟩)
  · rename_i ds es
    cases e
    obtain ⟨a, xs, rfl, ha, hxs⟩ := hx
    obtain ⟨b, ys, rfl, hb, hys⟩ := hy
    have l1 := hxs.len
    have l2 := hys.len
    have sm' : ds.length + es.length ≤ sizeLine := by rw [← List.length_append]; exact sm
    refine .inr (.inr (.inl ⟨a, b, xs, ys, rfl, rfl, ha.now, hb.now, by omega, fun z => ?_, fun z z2 => ?_, fun _ _ p np => ?_⟩))
    · have := hxs.nil_iff.mp z
      subst this
      exact k _ _ H hq (fun _ _ z => z) ⟨b, ys, rfl, hb, hys⟩
    · have := hys.nil_iff.mp z2
      subst this
      rw [List.append_nil] at hq
      exact k _ _ H hq (fun _ _ z => z) ⟨a, xs, rfl, ha, hxs⟩
    · exact k _ _ _ hq (same_new np) (DV.tup_new (hxs.append hys) np (nO p np))
  · rename_i ds es
    cases e
    obtain ⟨a, xs, rfl, ha, hxs⟩ := hx
    obtain ⟨b, ys, rfl, hb, hys⟩ := hy
    have l1 := hxs.len
    have l2 := hys.len
    have sm' : ds.length + es.length ≤ sizeLine := by rw [← List.length_append]; exact sm
    exact .inr (.inr (.inr ⟨a, b, xs, ys, rfl, rfl, ha.now, hb.now, by omega, fun p np => k _ _ _ hq (same_new np) (DV.lst_new (hxs.append hys) np (nO p np))⟩))
  · cases e
/-! two whole numbers -/
def RI (C : Int → Int → Prop) (g : Int → Int → D) : D → D → (D → Prop) → Prop := fun x y q => ∃ i j, x = .int i ∧ y = .int j ∧ C i j ∧ q (g i j)
theorem abs_int {C : Int → Int → Prop} {g : Int → Int → Int} : Abs2 G (rI C fun i j => V.int (g i j)) (RI C fun i j => .int (g i j)) := by
  rintro O H x y v u q Q nO hx hy ⟨i, j, rfl, rfl, c, hq⟩ k
  exact ⟨i, j, hx, hy, c, k _ _ H hq (fun _ _ z => z) rfl⟩
theorem abs_int0 {g : Int → Int → Int} : Abs2 G (rI0 fun i j => V.int (g i j)) (RI (fun _ _ => True) fun i j => .int (g i j)) := by
  rintro O H x y v u q Q nO hx hy ⟨i, j, rfl, rfl, c, hq⟩ k
  exact ⟨i, j, hx, hy, k _ _ H hq (fun _ _ z => z) rfl⟩
theorem abs_cmp0 {g : Int → Int → Bool} : Abs2 G (rI0 fun i j => V.bl (g i j)) (RI (fun _ _ => True) fun i j => .bl (g i j)) := by
  rintro O H x y v u q Q nO hx hy ⟨i, j, rfl, rfl, c, hq⟩ k
  exact ⟨i, j, hx, hy, k _ _ H hq (fun _ _ z => z) rfl⟩
/-! == -/
def eqF : D → D → Option Bool
  | .int i, .int j => some (decide (i = j))
  | .str i, .str j => some (decide (i = j))
  | .bl i, .bl j => some (decide (i = j))
  | .non, .non => some true
  | .non, .int _ => some false | .int _, .non => some false | .non, .bl _ => some false | .bl _, .non => some false | .non, .str _ => some false | .str _, .non => some false
  | .int _, .str _ => some false | .str _, .int _ => some false | .bl _, .str _ => some false | .str _, .bl _ => some false
  | _, _ => none
mutual
def D.py : D → PyData
  | .any => .none | .non => .none | .bl b => .bool b | .int i => .int i | .str s => .str s
  | .lst xs => .list (D.pys xs) | .tup xs => .tuple (D.pys xs) | .dic _ _ => .none | .obj _ _ => .none
def D.pys : List D → List PyData
  | [] => []
  | d :: r => D.py d :: D.pys r
end
mutual
/-- None, truth values, numbers, texts, lists and tuples of these alone -/
def D.pure : D → Bool
  | .lst xs => D.pures xs | .tup xs => D.pures xs | .dic _ _ => false | .obj _ _ => false | .any => false | _ => true
def D.pures : List D → Bool
  | [] => true
  | d :: r => D.pure d && D.pures r
end
mutual
theorem DV.dp : ∀ (d : D) (v : V), d.pure = true → DV G O H d v → Dp G.K H v d.py
  | .non, _, _, h => by cases (show _ = _ from h); exact .non
  | .bl _, _, _, h => by cases (show _ = _ from h); exact .bl _
  | .int _, _, _, h => by cases (show _ = _ from h); exact .int _
  | .str _, _, _, h => by cases (show _ = _ from h); exact .str _
  | .lst ds, _, p, ⟨a, xs, e, q, r⟩ => by subst e; exact .lst (SqL.of q.now) (DVs.dp ds xs p r)
  | .tup ds, _, p, ⟨a, xs, e, q, r⟩ => by subst e; exact .tup q.now (DVs.dp ds xs p r)
theorem DVs.dp : ∀ (ds : List D) (vs : List V), D.pures ds = true → DVs G O H ds vs → DpAll G.K H vs (D.pys ds)
  | [], _, _, h => by cases (show _ = _ from h); exact .nil
  | d :: ds, _, p, ⟨v, vs, e, h, t⟩ => by
    subst e
    have p := (Bool.and_eq_true _ _).mp (show (d.pure && D.pures ds) = true from p)
    exact .cons (DV.dp d v p.1 h) (DVs.dp ds vs p.2 t)
end
theorem eqF_at {x y : D} {v u : V} {b : Bool} (hx : DV G O H x v) (hy : DV G O H y u) (e : eqF x y = some b) : scal v u = true ∧ decide (v = u) = b := by
  unfold eqF at e
  split at e <;> first | (cases e; done) | (cases (show _ = _ from hx); cases (show _ = _ from hy); cases e; refine ⟨rfl, ?_⟩; simp)
def REq : D → D → (D → Prop) → Prop := fun x y q => match eqF x y with
  | some b => q (.bl b)
  | none => x.pure = true ∧ y.pure = true ∧ SeqAt.shaped x.py = true ∧ SeqAt.shaped y.py = true ∧ q (.bl (PyData.eqv x.py y.py))
theorem REq.cases {x y : D} {q : D → Prop} (h : REq x y q) : (∃ b, eqF x y = some b ∧ q (.bl b)) ∨ (x.pure = true ∧ y.pure = true ∧ SeqAt.shaped x.py = true ∧ SeqAt.shaped y.py = true ∧ q (.bl (PyData.eqv x.py y.py))) := by
  unfold REq at h
  cases e : eqF x y with
  | some b => rw [e] at h; exact .inl ⟨b, rfl, h⟩
  | none => rw [e] at h; exact .inr h
def RNe : D → D → (D → Prop) → Prop := fun x y q => REq x y fun d => ∃ b, d = .bl b ∧ q (.bl (!b))
def rEqA (K : PySem.W.Frag) : R2 := fun x y H Q => rEq x y H Q ∨ rEqD K x y H Q
def rNeA (K : PySem.W.Frag) : R2 := fun x y H Q => rNe x y H Q ∨ rNeD K x y H Q
theorem op_eqA (hu : X.A.units + 64 < cLine) : OpR X (compareOp .Eq) (rEqA X.K) := OpR.or op_eq (op_eqD hu)
theorem op_neA (hu : X.A.units + 64 < cLine) : OpR X (compareOp .NotEq) (rNeA X.K) := OpR.or op_ne (op_neD hu)
theorem abs_eq : Abs2 G (rEqA G.K) REq := by
  rintro O H x y v u q Q nO hx hy h k
  rcases h.cases with ⟨b, e, hq⟩ | ⟨px, py, sx, sy, hq⟩
  · obtain ⟨h1, h2⟩ := eqF_at hx hy e
    exact .inl ⟨h1, by rw [h2]; exact k _ _ H hq (fun _ _ z => z) rfl⟩
  · exact .inr ⟨_, _, DV.dp x v px hx, DV.dp y u py hy, sx, sy, k _ _ H hq (fun _ _ z => z) rfl⟩
theorem abs_ne : Abs2 G (rNeA G.K) RNe := by
  rintro O H x y v u q Q nO hx hy h k
  rcases (show REq x y _ from h).cases with ⟨b, e, _, hb, hq⟩ | ⟨px, py, sx, sy, _, hb, hq⟩
  · obtain ⟨h1, h2⟩ := eqF_at hx hy e
    cases hb
    exact .inl ⟨h1, by rw [h2]; exact k _ _ H hq (fun _ _ z => z) rfl⟩
  · cases hb
    exact .inr ⟨_, _, DV.dp x v px hx, DV.dp y u py hy, sx, sy, k _ _ H hq (fun _ _ z => z) rfl⟩
/-! in -/
def D.fl : D → Option V
  | .non => some .non | .bl b => some (.bl b) | .int i => some (.int i) | .str s => some (.str s) | _ => none
def fls : List D → Option (List V)
  | [] => some []
  | d :: r => match d.fl, fls r with
    | some v, some vs => some (v :: vs)
    | _, _ => none
theorem fl_at {d : D} {v w : V} (h : DV G O H d v) (e : d.fl = some w) : v = w ∧ flatV v = true := by
  cases d <;> first | (cases e; done) | (cases (show _ = _ from h); cases e; exact ⟨rfl, rfl⟩)
theorem fls_at : ∀ {ds : List D} {vs ws : List V}, DVs G O H ds vs → fls ds = some ws → vs = ws ∧ vs.all flatV = true
  | [], _, _, h, e => by
    cases (show _ = _ from h)
    cases e
    exact ⟨rfl, rfl⟩
  | d :: ds, _, _, ⟨v, vs, e0, h, t⟩, e => by
    subst e0
    unfold fls at e
    split at e
    · rename_i v' vs' e1 e2
      cases e
      obtain ⟨rfl, f1⟩ := fl_at h e1
      obtain ⟨rfl, f2⟩ := fls_at t e2
      exact ⟨rfl, by rw [List.all_cons, f1, f2]; rfl⟩
    · cases e
def seqD : D → Option (List D)
  | .lst xs => some xs | .tup xs => some xs | _ => none
theorem seq_at {d : D} {v : V} {ds : List D} (h : DV G O H d v) (e : seqD d = some ds) : ∃ a xs, v = .ref a ∧ DVs G O H ds xs ∧ ((∀ H', SameO O H H' → H' a = some (.lst xs)) ∨ (∀ H', SameO O H H' → SqT G.K H' a xs)) := by
  cases d <;> first | (cases e; done) | (obtain ⟨a, xs, e1, q, r⟩ := h; cases e; exact ⟨a, xs, e1, r, .inl q⟩) | (obtain ⟨a, xs, e1, q, r⟩ := h; cases e; exact ⟨a, xs, e1, r, .inr q⟩)
def RIn (neg : Bool) : D → D → (D → Prop) → Prop := fun x y q => ∃ u ds us, x.fl = some u ∧ seqD y = some ds ∧ fls ds = some us ∧ q (.bl (if neg = true then !inV u us else inV u us))
theorem abs_in {neg : Bool} : Abs2 G (rIn G.K neg) (RIn neg) := by
  rintro O H x y v u q Q nO hx hy ⟨w, ds, ws, e1, e2, e3, hq⟩ k
  obtain ⟨rfl, f1⟩ := fl_at hx e1
  obtain ⟨a, xs, rfl, r, hs⟩ := seq_at hy e2
  obtain ⟨rfl, f2⟩ := fls_at r e3
  refine ⟨a, xs, rfl, ?_, f1, f2, k _ _ H hq (fun _ _ z => z) rfl⟩
  rcases hs with hs | hs
  · exact .inl (SqL.of (hs H SameO.refl))
  · exact .inr (hs H SameO.refl)
/-! x[i] -/
def ixD : D → D → Option D
  | .lst xs, .int i => atI xs i
  | .tup xs, .int i => atI xs i
  | _, _ => none
theorem at_at {ds : List D} {vs : List V} {i : Int} {d : D} (h : DVs G O H ds vs) (e : atI ds i = some d) : ∃ v, atI vs i = some v ∧ DV G O H d v := by
  unfold atI at e ⊢
  rw [h.len] at e
  cases hi : ixN vs.length i with
  | none => rw [hi] at e; cases e
  | some j =>
    rw [hi] at e
    exact h.get' (show ds[j]? = some d from e)
theorem abs_ix : Abs2 G (rIx G.K) (one2 ixD) := by
  rintro O H x y v u q Q nO hx hy ⟨d, e, hq⟩ k
  unfold ixD at e
  split at e
  · rename_i ds i
    obtain ⟨a, xs, rfl, ha, hxs⟩ := hx
    obtain ⟨w, hw, dw⟩ := at_at hxs e
    exact .inl ⟨a, xs, i, w, rfl, hy, SqL.of ha.now, hw, k _ _ H hq (fun _ _ z => z) dw⟩
  · rename_i ds i
    obtain ⟨a, xs, rfl, ha, hxs⟩ := hx
    obtain ⟨w, hw, dw⟩ := at_at hxs e
    exact .inr (.inl ⟨a, xs, i, w, rfl, hy, ha.now, hw, k _ _ H hq (fun _ _ z => z) dw⟩)
  · cases e
theorem d_ix {F : Fr} {a b : Expr} {τa τb : DX} {pos : Pos} (ha : PE X a (tD F τa)) (hb : PE X b (tD F τb)) (hK : X.K = F.G.K := by rfl) (pl : PlainIx b := by exact fun _ _ => rfl) : PE X (.Subscript a b pos) (tD F (dBin (one2 ixD) τa τb)) :=
  d_sub (IxR_ := (ix_seq : IxR X (rIx X.K))) (by rw [hK]; exact abs_ix) ha hb pl
/-! x[i:j] -/
def cut {α : Type} (xs : List α) (lo hi : Option Int) : List α := (xs.drop (HT.sIx xs.length 0 lo)).take (HT.sIx xs.length xs.length hi - HT.sIx xs.length 0 lo)
def sliceD (lo hi : Option Int) : D → Option D
  | .lst xs => some (.lst (cut xs lo hi))
  | .tup xs => some (.tup (cut xs lo hi))
  | _ => none
abbrev DXo := List Sl → List D → (Option Int → Prop) → Prop
def tDo (F : Fr) (τ : DXo) : TO := fun σ H Q => ∃ H0 as ρ ω q, StOk F H0 as σ H ρ ω ∧ τ ρ ω q ∧ ∀ o H', q o → SameO (Ow F as) H H' → StOk F H0 as σ H' ρ ω → Q o H'
def dNoPart : DXo := fun _ _ q => q none
def dPart (τ : DX) : DXo := fun ρ ω q => τ ρ ω fun d => ∃ i, d = .int i ∧ q (some i)
def dSl (τ : DX) (τl τh : DXo) : DX := fun ρ ω q => τ ρ ω fun x => τl ρ ω fun l => τh ρ ω fun h => ∃ d, sliceD l h x = some d ∧ q d
theorem dp_none {F : Fr} : PO X none (tDo F dNoPart) := ⟨fun pins s σ H Q I ⟨H0, as, ρ, ω, q, st, h, k⟩ => (po_none (X := X)).run pins s σ H Q I (k none H h SameO.refl st)⟩
theorem dp_some {F : Fr} {e : Expr} {τ : DX} (he : PE X e (tD F τ)) : PO X (some e) (tDo F (dPart τ)) := ⟨fun pins s σ H Q I ⟨H0, as, ρ, ω, q, st, h, k⟩ => (po_some he).run pins s σ H Q I
  ⟨H0, as, ρ, ω, _, st, h, fun d v H1 ⟨i, e, h1⟩ s1 st1 dv => by
    subst e
    exact ⟨i, dv, k _ H1 h1 s1 st1⟩⟩⟩
def rSlAny (K : PySem.W.Frag) : V → Option Int → Option Int → Hp → VK → Prop := fun x lo hi H Q => rSlA K x lo hi H Q ∨ rSlL K x lo hi H Q
theorem sl_any : SlR X (rSlAny X.K) := fun pins s σ H x v vl vu lo hi sl Q I rx hs pl pu h => h.elim (sl_tupA pins s σ H x v vl vu lo hi sl Q I rx hs pl pu) (sl_list pins s σ H x v vl vu lo hi sl Q I rx hs pl pu)
theorem cut_at {ds : List D} {vs : List V} {lo hi : Option Int} (h : DVs G O H ds vs) : DVs G O H (cut ds lo hi) (cutV vs lo hi) := by
  unfold cut cutV
  rw [h.len]
  exact (h.drop _).take _
theorem d_slice {F : Fr} {e : Expr} {τ : DX} {lo hi : Option Expr} {τl τh : DXo} {pos p2 : Pos} (he : PE X e (tD F τ)) (hl : PO X lo (tDo F τl)) (hh : PO X hi (tDo F τh)) (hK : X.K = F.G.K := by rfl) : PE X (.Subscript e (.Slice lo hi none p2) pos) (tD F (dSl τ τl τh)) :=
  PE.wk (pe_slice sl_any he hl hh) fun σ H Q ⟨H0, as, ρ, ω, q, st, h, k⟩ => ⟨H0, as, ρ, ω, _, st, h, fun x v H1 h1 s1 st1 dv => ⟨H0, as, ρ, ω, _, st1, h1, fun l H2 h2 s2 st2 => ⟨H0, as, ρ, ω, _, st2, h2, fun u H3 ⟨d, e, h3⟩ s3 st3 => by
    have dv3 := (dv.mono s2).mono s3
    have s13 := (s1.trans s2).trans s3
    rw [hK]
    cases x <;> first | (cases e; done) | skip
    · obtain ⟨a, xs, rfl, ha, hxs⟩ := dv3
      cases e
      exact .inr ⟨a, xs, rfl, SqL.of ha.now, fun p np => k _ _ _ h3 (s13.trans (SameO.of (same_new np))) (st3.same (same_new np)) (DV.lst_new (cut_at hxs) np (st3.fresh np).1)⟩
    · obtain ⟨a, xs, rfl, ha, hxs⟩ := dv3
      cases e
      refine .inl ⟨a, xs, rfl, ha.now, fun hw => ?_, fun _ p np => k _ _ _ h3 (s13.trans (SameO.of (same_new np))) (st3.same (same_new np)) (DV.tup_new (cut_at hxs) np (st3.fresh np).1)⟩
      refine k _ _ H3 h3 s13 st3 ⟨a, xs, rfl, ha, ?_⟩
      have := cut_at (lo := l) (hi := u) hxs
      unfold cutV at this
      rw [hw.1, hw.2, List.drop_zero, Nat.sub_zero, List.take_length] at this
      exact this⟩⟩⟩
/-! built-ins -/
def lenD : List D → Option D
  | [.lst xs] => some (.int xs.length) | [.tup xs] => some (.int xs.length) | _ => none
def rLenA (K : PySem.W.Frag) : List V → Hp → VK → Prop := fun xs H Q => ∃ p ys, xs = [.ref p] ∧ (SqL K H p ys ∨ SqT K H p ys) ∧ Q (.int ys.length) H
theorem one_at {d : D} {vs : List V} (h : DVs G O H [d] vs) : ∃ v, vs = [v] ∧ DV G O H d v := by
  obtain ⟨v, r, e, h1, h2⟩ := h
  cases (show _ = _ from h2)
  exact ⟨v, e, h1⟩
theorem two_at {d e : D} {vs : List V} (h : DVs G O H [d, e] vs) : ∃ v u, vs = [v, u] ∧ DV G O H d v ∧ DV G O H e u := by
  obtain ⟨v, r, q, h1, h2⟩ := h
  obtain ⟨u, rfl, h3⟩ := one_at h2
  exact ⟨v, u, q, h1, h3⟩
theorem abs_len : AbsL G (rLenA G.K) (oneL lenD) := by
  rintro O H xs vs q Q nO hx ⟨d, e, hq⟩ k
  unfold lenD at e
  split at e
  · cases e
    obtain ⟨v, rfl, a, ys, rfl, ha, r⟩ := one_at hx
    exact ⟨a, ys, rfl, .inl (SqL.of ha.now), by rw [← r.len]; exact k _ _ H hq (fun _ _ z => z) rfl⟩
  · cases e
    obtain ⟨v, rfl, a, ys, rfl, ha, r⟩ := one_at hx
    exact ⟨a, ys, rfl, .inr ha.now, by rw [← r.len]; exact k _ _ H hq (fun _ _ z => z) rfl⟩
  · cases e
def listD : List D → Option D
  | [.lst xs] => some (.lst xs) | [.tup xs] => some (.lst xs) | _ => none
def tupleD : List D → Option D
  | [.lst xs] => some (.tup xs) | [.tup xs] => some (.tup xs) | _ => none
def intD : List D → Option D
  | [.int i] => some (.int i) | [.bl b] => some (.int (if b = true then 1 else 0)) | _ => none
def absD : List D → Option D
  | [.int i] => some (.int (if i < 0 then -i else i)) | _ => none
def rListA (K : PySem.W.Frag) : List V → Hp → VK → Prop := fun xs H Q => ∃ p ys, xs = [V.ref p] ∧ (SqL K H p ys ∨ SqT K H p ys) ∧ ∀ l, H l = none → Q (V.ref l) (upd H l (.lst ys))
theorem abs_list : AbsL G (rListA G.K) (oneL listD) := by
  rintro O H xs vs q Q nO hx ⟨d, e, hq⟩ k
  unfold listD at e
  split at e
  · cases e
    obtain ⟨v, rfl, a, ys, rfl, ha, r⟩ := one_at hx
    exact ⟨a, ys, rfl, .inl (SqL.of ha.now), fun p np => k _ _ _ hq (same_new np) (DV.lst_new r np (nO p np))⟩
  · cases e
    obtain ⟨v, rfl, a, ys, rfl, ha, r⟩ := one_at hx
    exact ⟨a, ys, rfl, .inr ha.now, fun p np => k _ _ _ hq (same_new np) (DV.lst_new r np (nO p np))⟩
  · cases e
def rTupleA (K : PySem.W.Frag) : List V → Hp → VK → Prop := fun xs H Q => ∃ p ys, xs = [V.ref p] ∧ ((SqL K H p ys ∧ ∀ l, H l = none → Q (V.ref l) (upd H l (.tup ys))) ∨ SqT K H p ys ∧ Q (V.ref p) H)
theorem abs_tuple : AbsL G (rTupleA G.K) (oneL tupleD) := by
  rintro O H xs vs q Q nO hx ⟨d, e, hq⟩ k
  unfold tupleD at e
  split at e
  · cases e
    obtain ⟨v, rfl, a, ys, rfl, ha, r⟩ := one_at hx
    exact ⟨a, ys, rfl, .inl ⟨SqL.of ha.now, fun p np => k _ _ _ hq (same_new np) (DV.tup_new r np (nO p np))⟩⟩
  · cases e
    obtain ⟨v, rfl, a, ys, rfl, ha, r⟩ := one_at hx
    exact ⟨a, ys, rfl, .inr ⟨ha.now, k _ _ H hq (fun _ _ z => z) ⟨a, ys, rfl, ha, r⟩⟩⟩
  · cases e
theorem abs_intc : AbsL G (fun xs H Q => (∃ i, xs = [V.int i] ∧ Q (V.int i) H) ∨ ∃ k, xs = [V.bl k] ∧ Q (V.int (if k = true then 1 else 0)) H) (oneL intD) := by
  rintro O H xs vs q Q nO hx ⟨d, e, hq⟩ k
  unfold intD at e
  split at e
  · cases e
    obtain ⟨v, rfl, h⟩ := one_at hx
    cases (show _ = _ from h)
    exact .inl ⟨_, rfl, k _ _ H hq (fun _ _ z => z) rfl⟩
  · cases e
    obtain ⟨v, rfl, h⟩ := one_at hx
    cases (show _ = _ from h)
    exact .inr ⟨_, rfl, k _ _ H hq (fun _ _ z => z) rfl⟩
  · cases e
theorem abs_abs : AbsL G (fun xs H Q => ∃ i : Int, xs = [V.int i] ∧ Q (V.int (if i < 0 then -i else i)) H) (oneL absD) := by
  rintro O H xs vs q Q nO hx ⟨d, e, hq⟩ k
  unfold absD at e
  split at e
  · cases e
    obtain ⟨v, rfl, h⟩ := one_at hx
    cases (show _ = _ from h)
    exact ⟨_, rfl, k _ _ H hq (fun _ _ z => z) rfl⟩
  · cases e
end
end DL

/-! what is a list or a tuple: walked, told off, made a tuple -/
namespace Sqx
open PySem PySem.Spec PyProof.Rows L2
open EnuT
def SeqAt (H : Hp) (a : Addr) (xs : List V) : Prop := H a = some (.lst xs) ∨ H a = some (.tup xs)
theorem SeqAt.same {H H' : Hp} (s : Same H H') {a : Addr} {xs : List V} (x : SeqAt H a xs) : SeqAt H' a xs := x.imp (s _ _) (s _ _)
theorem SeqAt.sq {K : W.Frag} {H : Hp} {a : Addr} {xs : List V} (x : SeqAt H a xs) : SqL K H a xs ∨ SqT K H a xs := x.imp SqL.of SqT.of
/-- the walk of enumerate over a list or a tuple -/
theorem en_for {K : W.Frag} {a : Addr} {xs : List V} {g : TG} {tb : TS} {D : Ends} {σ : L2.St} {H : Hp} (Pv : Nat → L2.St → Hp → Prop) (sq : SeqAt H a xs) (h0 : Pv 0 σ H)
    (hG : ∀ i σ' H', i ≤ xs.length → Pv i σ' H' → ∀ o, H a = some o → H' a = some o)
    (hs : ∀ i x σ' H' T, xs[i]? = some x → Pv i σ' H' → H' T = none → g (.ref T) σ' (upd H' T (.tup [.int (i : Nat), x])) fun σ2 H2 => tb { D with nx := Pv (i + 1), ct := Pv (i + 1), bk := D.nx } σ2 H2) (hd : ∀ σ' H', Pv xs.length σ' H' → D.nx σ' H') :
    (∃ ys : List V, SqL K H a ys ∧ ∃ W : Nat → Nat → L2.St → Hp → Prop, (∃ m, W 0 m σ H) ∧ ∀ i m σ H, W i m σ H →
      ((Ite K a).stop i H ∧ D.nx σ H) ∨ ((Ite K a).go i H ∧ ∃ N : L2.St → Hp → Prop, (∀ σ' H', N σ' H' → ∃ m', m' < m ∧ W (i + 1) m' σ' H') ∧ ∀ x H', (Ite K a).yld i H x H' → g x σ H' fun σ2 H2 => tb { D with nx := N, ct := N, bk := D.nx } σ2 H2)) ∨
    (∃ ys : List V, SqT K H a ys ∧ ∃ W : Nat → Nat → L2.St → Hp → Prop, (∃ m, W 0 m σ H) ∧ ∀ i m σ H, W i m σ H →
      ((Iet K a).stop i H ∧ D.nx σ H) ∨ ((Iet K a).go i H ∧ ∃ N : L2.St → Hp → Prop, (∀ σ' H', N σ' H' → ∃ m', m' < m ∧ W (i + 1) m' σ' H') ∧ ∀ x H', (Iet K a).yld i H x H' → g x σ H' fun σ2 H2 => tb { D with nx := N, ct := N, bk := D.nx } σ2 H2)) := by
  have step : ∀ (i : Nat) (x : V) (σ' : L2.St) (H' H'' : Hp), i < xs.length → Pv i σ' H' → YPair (fun i => some (.int (i : Nat))) (fun i => xs[i]?) i H' x H'' → g x σ' H'' fun σ2 H2 => tb { D with nx := Pv (i + 1), ct := Pv (i + 1), bk := D.nx } σ2 H2 := by
    rintro i x σ' H' H'' hi p ⟨t, y, z, rfl, nt, rfl, hy, hz⟩
    cases hy
    exact hs i z σ' H' t hz p nt
  rcases sq with e | e
  · exact .inl ⟨xs, SqL.of e, for_it (walk_enum (xs := xs)) Pv h0 (fun i σ' H' hi p => SqL.of (hG i σ' H' hi p _ e)) step hd⟩
  · exact .inr ⟨xs, SqT.of e, for_it (walk_enumT (xs := xs)) Pv h0 (fun i σ' H' hi p => SqT.of (hG i σ' H' hi p _ e)) step hd⟩
/-- what is walked in one of two ways -/
def iOr (a b : TI) : TI := fun σ H R => a σ H R ∨ b σ H R
theorem PI_or {X : Cx} {tg e : Expr} {a b : TI} (ha : PI X tg e a) (hb : PI X tg e b) : PI X tg e (iOr a b) where
  run := fun pins s σ H R I h => h.elim (ha.run pins s σ H R I) (hb.run pins s σ H R I)
/-- a comprehension over a local that is a list or a tuple -/
theorem lc_seq {K : W.Frag} {j : Nat} {a : Addr} {xs : List V} {g : TG} {tt : TT} {te : TE} {vs : List Nat} {σ : L2.St} {H : Hp} {Q : VK} (Pv : Addr → Nat → Hp → Prop) (hv : σ[j]? = some (some (.ref a))) (sq : SeqAt H a xs)
    (h0 : ∀ D, H D = none → Pv D 0 (upd H D (.lst []))) (hG : ∀ D i H', H D = none → i ≤ xs.length → Pv D i H' → ∀ o, H a = some o → H' a = some o)
    (hs : ∀ D i x H', H D = none → xs[i]? = some x → Pv D i H' → g x (wipe σ vs) H' fun σ2 H2 => wipe σ2 vs = wipe σ vs ∧ tt σ2 H2 fun b H3 =>
      if b = true then te σ2 H3 fun y H4 => ∃ acc, H4 D = some (.lst acc) ∧ acc.length < sizeLine ∧ Pv D (i + 1) (upd H4 D (.lst (acc ++ [y]))) else Pv D (i + 1) H3)
    (hd : ∀ D H', H D = none → Pv D xs.length H' → Q (.ref D) H') : tLc (iOr (iList K (tVar j)) (iTup K (tVar j))) g tt te vs σ H Q := by
  rcases sq with e | e
  · exact .inl ⟨_, hv, a, rfl, ⟨xs, SqL.of e⟩, fun D nD => lc_list (xs := xs) (Pv D) (h0 D nD) (fun i H' hi z => SqL.of (hG D i H' nD hi z _ e)) (fun i x H' hx p => hs D i x H' nD hx p) (fun H' p => hd D H' nD p)⟩
  · exact .inr ⟨_, hv, a, rfl, ⟨xs, SqT.of e⟩, fun D nD => lc_tup (xs := xs) (Pv D) (h0 D nD) (fun i H' hi z => SqT.of (hG D i H' nD hi z _ e)) (fun i x H' hx p => hs D i x H' nD hx p) (fun H' p => hd D H' nD p)⟩
/-- a target in one of two ways -/
def gOr (a b : TG) : TG := fun v σ H Q => a v σ H Q ∨ b v σ H Q
theorem PG_or {X : Cx} {tg : Expr} {a b : TG} (ha : PG X tg a) (hb : PG X tg b) : PG X tg (gOr a b) where
  run := fun pins s σ H v u Q I r h => h.elim (ha.run pins s σ H v u Q I r) (hb.run pins s σ H v u Q I r)
theorem ix_sq {K : W.Frag} {H : Hp} {a : Addr} {xs : List V} {i : Int} {x : V} {Q : VK} (sq : SeqAt H a xs) (e : atI xs i = some x) (q : Q x H) : rIx K (.ref a) (.int i) H Q := by
  rcases sq with h | h
  · exact .inl ⟨a, xs, i, x, rfl, rfl, SqL.of h, e, q⟩
  · exact .inr (.inl ⟨a, xs, i, x, rfl, rfl, SqT.of h, e, q⟩)
theorem un_sq {K : W.Frag} {H : Hp} {a : Addr} {xs : List V} {n : Nat} {t : TGs} {σ : L2.St} {Q : L2.St → Hp → Prop} (sq : SeqAt H a xs) (e : xs.length = n) (q : t xs σ H Q) : gOr (gTup K n t) (gUnl K n t) (.ref a) σ H Q := by
  rcases sq with h | h
  · exact .inr ⟨a, xs, rfl, SqL.of h, e, q⟩
  · exact .inl ⟨a, xs, rfl, SqT.of h, e, q⟩
end Sqx

/-! targets, walks, comprehensions over data -/
namespace DL
open PySem PySem.Spec PyProof.Rows L2

/-! ### targets -/
abbrev DTg := List Sl → D → Option (List Sl)
def tgN (i : Nat) : DTg := fun ρ d => some (ρ.set i (.dat d))
def tgs : List DTg → List Sl → List D → Option (List Sl)
  | [], ρ, [] => some ρ
  | t :: ts, ρ, d :: ds => (t ρ d).bind fun ρ' => tgs ts ρ' ds
  | _, _, _ => none
def tgT (ts : List DTg) : DTg := fun ρ d => match d with
  | .tup ds => tgs ts ρ ds
  | _ => none
theorem wipe_set {j : Nat} {x : Option V} : ∀ {vs : List Nat} {σ : L2.St}, wipe (σ.set j x) vs = if j ∈ vs then wipe σ vs else (wipe σ vs).set j x
  | [], σ => by simp [wipe]
  | v :: vs, σ => by
    show (wipe (σ.set j x) vs).set v none = _
    rw [wipe_set (vs := vs)]
    by_cases h : j ∈ vs
    · rw [if_pos h, if_pos (List.mem_cons_of_mem _ h)]
      rfl
    · rw [if_neg h]
      by_cases e : j = v
      · subst e
        rw [if_pos (List.mem_cons_self ..), List.set_set]
        rfl
      · rw [if_neg (fun z => (List.mem_cons.mp z).elim e h), List.set_comm _ _ e]
        rfl
theorem wipe_in {j : Nat} {x : Option V} {vs : List Nat} {σ : L2.St} (h : j ∈ vs) : wipe (σ.set j x) vs = wipe σ vs := by rw [wipe_set, if_pos h]
def TgOk (F : Fr) (g : TG) (t : DTg) (js : List Nat) : Prop := ∀ (v : V) (d : D) (σ : L2.St) (H H0 : Hp) (as : List (Option Addr)) (ρ : List Sl) (ω : List D) (ρ' : List Sl) (Q : L2.St → Hp → Prop),
  StOk F H0 as σ H ρ ω → DV F.G (Ow F as) H d v → t ρ d = some ρ' → (∀ σ', StOk F H0 as σ' H ρ' ω → (∀ vs : List Nat, (∀ j, j ∈ js → j ∈ vs) → wipe σ' vs = wipe σ vs) → Q σ' H) → g v σ H Q
def TgsOk (F : Fr) (g : TGs) (ts : List DTg) (js : List Nat) : Prop := ∀ (vs : List V) (ds : List D) (σ : L2.St) (H H0 : Hp) (as : List (Option Addr)) (ρ : List Sl) (ω : List D) (ρ' : List Sl) (Q : L2.St → Hp → Prop),
  StOk F H0 as σ H ρ ω → DVs F.G (Ow F as) H ds vs → tgs ts ρ ds = some ρ' → (∀ σ', StOk F H0 as σ' H ρ' ω → (∀ vs : List Nat, (∀ j, j ∈ js → j ∈ vs) → wipe σ' vs = wipe σ vs) → Q σ' H) → g vs σ H Q
section
variable {F : Fr} {g : TG} {gs : TGs} {t : DTg} {ts : List DTg} {js ks : List Nat}
theorem to_name {i : Nat} : TgOk F (gName i) (tgN i) [i] := fun v d σ H H0 as ρ ω ρ' Q st dv e k => by
  cases e
  exact k _ (st.set (o := some v) (s := .dat d) ⟨v, rfl, dv⟩ i) fun vs h => wipe_in (h i (List.mem_singleton.mpr rfl))
theorem to_nil : TgsOk F gNil [] [] := fun vs ds σ H H0 as ρ ω ρ' Q st dv e k => by
  cases ds with
  | nil =>
    cases e
    cases (show _ = _ from dv)
    exact ⟨rfl, k σ st fun _ _ => rfl⟩
  | cons _ _ => cases e
theorem to_cons (h : TgOk F g t js) (hs : TgsOk F gs ts ks) : TgsOk F (gCons g gs) (t :: ts) (js ++ ks) := fun vs ds σ H H0 as ρ ω ρ' Q st dv e k => by
  cases ds with
  | nil => cases e
  | cons d ds =>
    obtain ⟨v, r, rfl, h1, h2⟩ := dv
    cases e1 : t ρ d with
    | none => rw [show tgs (t :: ts) ρ (d :: ds) = (t ρ d).bind fun ρ' => tgs ts ρ' ds from rfl, e1] at e; cases e
    | some ρ1 =>
      rw [show tgs (t :: ts) ρ (d :: ds) = (t ρ d).bind fun ρ' => tgs ts ρ' ds from rfl, e1] at e
      exact ⟨v, r, rfl, h v d σ H H0 as ρ ω ρ1 _ st h1 e1 fun σ1 st1 w1 => hs r ds σ1 H H0 as ρ1 ω ρ' Q st1 h2 e fun σ2 st2 w2 => k σ2 st2 fun vs hv => (w2 vs fun j hj => hv j (List.mem_append_right _ hj)).trans (w1 vs fun j hj => hv j (List.mem_append_left _ hj))⟩
theorem tgs_len : ∀ {ts : List DTg} {ρ ρ' : List Sl} {ds : List D}, tgs ts ρ ds = some ρ' → ds.length = ts.length
  | [], _, _, [], _ => rfl
  | [], _, _, _ :: _, e => by cases e
  | _ :: _, _, _, [], e => by cases e
  | t :: ts, ρ, ρ', d :: ds, e => by
    rw [show tgs (t :: ts) ρ (d :: ds) = (t ρ d).bind fun ρ' => tgs ts ρ' ds from rfl] at e
    cases e1 : t ρ d with
    | none => rw [e1] at e; cases e
    | some ρ1 =>
      rw [e1] at e
      rw [List.length_cons, List.length_cons, tgs_len (show tgs ts ρ1 ds = some ρ' from e)]
theorem to_tup {n : Nat} (hn : ts.length = n) (h : TgsOk F gs ts js) : TgOk F (gTup F.G.K n gs) (tgT ts) js := fun v d σ H H0 as ρ ω ρ' Q st dv e k => by
  cases d <;> first | (cases e; done) | skip
  obtain ⟨a, xs, rfl, q, r⟩ := dv
  exact ⟨a, xs, rfl, q.now, by rw [← r.len, tgs_len (show tgs ts ρ _ = some ρ' from e), hn], h xs _ σ H H0 as ρ ω ρ' Q st r e k⟩
end
/-! ### walks -/
structure DWalk (G : DG) (O : Addr → Prop) (H : Hp) (J : It) (xs : List D) : Prop where
  w : ∃ (Gd : Hp → Prop) (Y : Nat → Hp → V → Hp → Prop), Walk J xs.length Gd Y ∧ (∀ (O1 : Addr → Prop) (H1 : Hp), Step O H O1 H1 → Gd H1) ∧
    ∀ (i : Nat) (O1 : Addr → Prop) (H1 : Hp) (x : V) (H2 : Hp), Step O H O1 H1 → (∀ p, H1 p = none → ¬ O1 p) → i < xs.length → Y i H1 x H2 → Same H1 H2 ∧ ∃ d, xs[i]? = some d ∧ DV G O1 H2 d x
abbrev DXi := List Sl → List D → (List D → Prop) → Prop
def tDi (F : Fr) (ι : DXi) : TI := fun σ H R => ∃ H0 as ρ ω q, StOk F H0 as σ H ρ ω ∧ ι ρ ω q ∧ ∀ xs J H', q xs → SameO (Ow F as) H H' → StOk F H0 as σ H' ρ ω → DWalk F.G (Ow F as) H' J xs → R J H'
def dSeq (τ : DX) : DXi := fun ρ ω q => τ ρ ω fun d => ∃ xs, seqD d = some xs ∧ q xs
def dRng (τs : DXs) : DXi := fun ρ ω q => τs ρ ω fun ds => (∃ n : Int, ds = [.int n] ∧ -(2 ^ 62) ≤ n ∧ n < 2 ^ 62 ∧ q ((List.range n.toNat).map fun i => .int (i : Nat)))
def dRng2 (τs : DXs) : DXi := fun ρ ω q => τs ρ ω fun ds => (∃ m n : Int, ds = [.int m, .int n] ∧ (-(2 ^ 62) ≤ m ∧ m < 2 ^ 62 ∧ -(2 ^ 62) ≤ n ∧ n < 2 ^ 62) ∧ q ((List.range (n - m).toNat).map fun i => .int (m + (i : Nat))))
section
variable {X : Cx} {F : Fr} {tg e a b : Expr} {τ : DX} {τs : DXs} {G : DG} {O : Addr → Prop} {H : Hp}
theorem dwalk_list {al : Addr} {ds : List D} {xs : List V} {K : PySem.W.Frag} (q : Stb O (fun H => H al = some (.lst xs)) H) (r : DVs G O H ds xs) : DWalk G O H (Itl K al) ds := by
  refine ⟨fun H1 => H1 al = some (.lst xs), YAt xs, ?_, fun O1 H1 s => (q.step s).now, fun i O1 H1 x H2 s _ hi y => ?_⟩
  · rw [r.len]
    exact walk_list.mono (fun H h => SqL.of h) fun _ _ _ _ _ _ y => y
  · obtain ⟨rfl, hx⟩ := y
    obtain ⟨d, hd, dv⟩ := (DVs.step s ds xs r).get hx
    exact ⟨fun _ _ z => z, d, hd, dv⟩
theorem dwalk_tup {al : Addr} {ds : List D} {xs : List V} {K : PySem.W.Frag} (q : Stb O (fun H => SqT K H al xs) H) (r : DVs G O H ds xs) : DWalk G O H (Itt K al) ds := by
  refine ⟨fun H1 => SqT K H1 al xs, YAt xs, ?_, fun O1 H1 s => (q.step s).now, fun i O1 H1 x H2 s _ hi y => ?_⟩
  · rw [r.len]
    exact walk_tup
  · obtain ⟨rfl, hx⟩ := y
    obtain ⟨d, hd, dv⟩ := (DVs.step s ds xs r).get hx
    exact ⟨fun _ _ z => z, d, hd, dv⟩
/-- a walk that has just begun -/
theorem started {pins : List (Addr × Obj)} {σ : L2.St} {H : Hp} {s : Shared} {o : Obj} {J : It} {tn : Nat → Heap → Prop} {R : It → Hp → Prop} (I : Inv X pins σ H s) (t : Turn X.prog X.w X.K tg J [s.heap.objs.size] s.heap.objs.size tn) (t0 : tn 0 (s.heap.push o)) (r : R J H) :
    PIE X pins σ tg R (.ref s.heap.objs.size) { s with heap := s.heap.push o } :=
  ⟨_, _, tn, J, H, rfl, I.kept (t' := s.toks) fun _ _ e => Heap.get?_push_of_some _ e, t, t0, fun b hb => by
    obtain rfl := List.mem_singleton.mp hb
    exact I.fpOk (Nat.le_refl _) (I.hok.fresh (Nat.le_refl _)), r⟩
/-- what is a list or a tuple, as its value tells -/
theorem pi_seq {te : TE} (he : PE X e te) : PI X tg e (fun σ H R => te σ H fun x H1 => ∃ a, x = V.ref a ∧ ((∃ xs, SqL X.K H1 a xs ∧ R (Itl X.K a) H1) ∨ ∃ xs, SqT X.K H1 a xs ∧ R (Itt X.K a) H1)) where
  run := fun pins s σ H R I h => thn (he.run pins s σ H _ I h) fun v s1 w => by
    obtain ⟨x, H1, I1, rel, a, rfl, ⟨xs, sq, r⟩ | ⟨xs, sq, r⟩⟩ := w
    · cases rel
      obtain ⟨its, rv, pl, _⟩ := I1.list sq
      exact wpAny_pyIter_list pl.isList (started I1 (turn_list a _) ⟨_, Heap.get?_push_size _ rfl, rfl, rfl⟩ r)
    · cases rel
      obtain ⟨its, rv, pl, _⟩ := I1.tuple sq
      exact wpAny_pyIter_tuple (items := its.toArray) pl (started I1 (turn_tuple a _) ⟨_, Heap.get?_push_size _ rfl, rfl, rfl⟩ r)
theorem PI.wk {t t' : TI} (h : PI X tg e t) (i : ∀ σ H R, t' σ H R → t σ H R) : PI X tg e t' := ⟨fun pins s σ H R I w => h.run pins s σ H R I (i _ _ _ w)⟩
theorem di_seq (he : PE X e (tD F τ)) (hK : X.K = F.G.K := by rfl) : PI X tg e (tDi F (dSeq τ)) :=
  PI.wk (pi_seq he) fun σ H R ⟨H0, as, ρ, ω, q, st, h, k⟩ => ⟨H0, as, ρ, ω, _, st, h, fun d v H1 ⟨xs, e1, hq⟩ s1 st1 dv => by
    cases d <;> first | (cases e1; done) | skip
    · obtain ⟨a, ys, rfl, p, r⟩ := dv
      cases e1
      exact ⟨a, rfl, .inl ⟨ys, SqL.of p.now, k _ _ H1 hq s1 st1 (dwalk_list p r)⟩⟩
    · obtain ⟨a, ys, rfl, p, r⟩ := dv
      cases e1
      exact ⟨a, rfl, .inr ⟨ys, by rw [hK]; exact p.now, k _ _ H1 hq s1 st1 (dwalk_tup (by rw [hK]; exact p) r)⟩⟩⟩
theorem dwalk_range {lo : Int} {n : Nat} : DWalk G O H (Itr lo n) ((List.range n).map fun i => .int (lo + (i : Nat))) := by
  refine ⟨fun _ => True, YFn fun i => .int (lo + (i : Nat)), ?_, fun _ _ _ => trivial, fun i O1 H1 x H2 _ _ hi y => ?_⟩
  · rw [List.length_map, List.length_range]
    exact walk_range
  · obtain ⟨rfl, rfl⟩ := y
    rw [List.length_map, List.length_range] at hi
    refine ⟨fun _ _ z => z, .int (lo + (i : Nat)), ?_, rfl⟩
    rw [List.getElem?_map, List.getElem?_range hi]
    rfl
theorem di_range {p pos : Pos} (hg : Gl X "range") (hm : X.mg "range" = none) (ha : PA X [a] (tDs F τs)) (hs : starEach [a] X.env = [(false, eval a X.env)] := by rfl) : PI X tg (.Call (.Name "range" p) [a] [] pos) (tDi F (dRng τs)) :=
  PI.wk (pi_range1 hg hm ha hs) fun σ H R ⟨H0, as, ρ, ω, q, st, h, k⟩ => ⟨H0, as, ρ, ω, _, st, h, fun ds vs H1 ⟨n, e1, h1, h2, hq⟩ s1 st1 dv => by
    subst e1
    obtain ⟨v, rfl, hv⟩ := one_at dv
    cases (show _ = _ from hv)
    have w : DWalk F.G (Ow F as) H1 (Itr 0 n.toNat) ((List.range n.toNat).map fun i => .int (0 + (i : Nat))) := dwalk_range
    simp only [Int.zero_add] at w
    exact ⟨n, rfl, h1, h2, k _ _ H1 hq s1 st1 w⟩⟩
theorem di_range2 {p pos : Pos} (hg : Gl X "range") (hm : X.mg "range" = none) (ha : PA X [a, b] (tDs F τs)) (hs : starEach [a, b] X.env = [(false, eval a X.env), (false, eval b X.env)] := by rfl) (hs2 : starEach [b] X.env = [(false, eval b X.env)] := by rfl) : PI X tg (.Call (.Name "range" p) [a, b] [] pos) (tDi F (dRng2 τs)) :=
  PI.wk (pi_range2 hg hm ha hs hs2) fun σ H R ⟨H0, as, ρ, ω, q, st, h, k⟩ => ⟨H0, as, ρ, ω, _, st, h, fun ds vs H1 ⟨m, n, e1, h1, hq⟩ s1 st1 dv => by
    subst e1
    obtain ⟨v, u, rfl, hv, hu⟩ := two_at dv
    cases (show _ = _ from hv)
    cases (show _ = _ from hu)
    exact ⟨m, n, rfl, h1, k _ _ H1 hq s1 st1 dwalk_range⟩⟩
/-- enumerate -/
def dEnum (τs : DXs) : DXi := fun ρ ω q => τs ρ ω fun ds => ∃ d xs, ds = [d] ∧ seqD d = some xs ∧ q (xs.mapIdx fun i x => .tup [.int (i : Nat), x])
theorem dwalk_pairs {J : It} {ds : List D} {xs : List V} {Gd : Hp → Prop} (w : Walk J xs.length Gd (YPair (fun i => some (.int (i : Nat))) (fun i => xs[i]?))) (hG : ∀ O1 H1, Step O H O1 H1 → Gd H1) (r : DVs G O H ds xs) : DWalk G O H J (ds.mapIdx fun i x => .tup [.int (i : Nat), x]) := by
  refine ⟨Gd, _, by rw [List.length_mapIdx, r.len]; exact w, hG, fun i O1 H1 x H2 s nO hi y => ?_⟩
  obtain ⟨T, x', y', rfl, nT, rfl, e1, e2⟩ := y
  cases e1
  obtain ⟨d, hd, dv⟩ := (DVs.step s ds xs r).get e2
  refine ⟨same_new nT, .tup [.int (i : Nat), d], ?_, DV.tup_new (.cons rfl (.cons dv .nil)) nT (nO T nT)⟩
  rw [List.getElem?_mapIdx, hd]
  rfl
theorem di_enum {p pos tpos : Pos} {elts : List Expr} {kk : Nat} (hg : Gl X "enumerate") (hm : X.mg "enumerate" = none) (ha : PA X [a] (tDs F τs)) (hK : X.K = F.G.K := by rfl) (hs : starEach [a] X.env = [(false, eval a X.env)] := by rfl) :
    PI X (.Tuple elts kk tpos) (.Call (.Name "enumerate" p) [a] [] pos) (tDi F (dEnum τs)) :=
  PI.wk (EnuT.pi_enumS hg hm ha hs) fun σ H R ⟨H0, as, ρ, ω, q, st, h, k⟩ => ⟨H0, as, ρ, ω, _, st, h, fun ds vs H1 ⟨d, xs, e1, e2, hq⟩ s1 st1 dv => by
    subst e1
    obtain ⟨v, rfl, hv⟩ := one_at dv
    cases d <;> first | (cases e2; done) | skip
    · obtain ⟨al, ys, rfl, p, r⟩ := hv
      cases e2
      exact ⟨al, rfl, .inl ⟨ys, SqL.of p.now, k _ _ H1 hq s1 st1 (dwalk_pairs (walk_enum) (fun O1 H1 s => SqL.of (p.step s).now) r)⟩⟩
    · obtain ⟨al, ys, rfl, p, r⟩ := hv
      cases e2
      exact ⟨al, rfl, .inr ⟨ys, by rw [hK]; exact p.now, k _ _ H1 hq s1 st1 (dwalk_pairs (EnuT.walk_enumT) (fun O1 H1 s => by rw [hK]; exact (p.step s).now) r)⟩⟩⟩
end
end DL

/-! lists of one's own; comprehensions over data -/
namespace DL
open PySem PySem.Spec PyProof.Rows L2
section
variable {F : Fr} {H0 H H' H2 : Hp} {as : List (Option Addr)} {σ σ2 : L2.St} {ρ ρ2 : List Sl} {ω ω2 : List D}
theorem Step.trans {O O' O2 : Addr → Prop} (a : Step O H O' H') (b : Step O' H' O2 H2) : Step O H O2 H2 := fun c o n e => by
  obtain ⟨n1, e1⟩ := a c o n e
  exact b c o n1 e1
theorem Step.same_ {O O' : Addr → Prop} (s : Step O H O' H') : SameO O H H' := fun b o n e => (s b o n e).2
theorem StOk.back (st : StOk F H0 as σ H ρ ω) (st2 : StOk F H0 as σ2 H2 ρ2 ω2) (s : SameO (Ow F as) H H2) : StOk F H0 as σ H2 ρ ω2 := { st2 with en := Paired.mapP st.en fun o sl h => h.mono s }
theorem ow_more {a : Addr} {o : Option Addr} (h : Ow F as a) : Ow F (as ++ [o]) a := h.imp id fun z => List.mem_append_left _ z
theorem ow_cases {a D : Addr} (h : Ow F (as ++ [some D]) a) : Ow F as a ∨ a = D := by
  rcases h with h | h
  · exact .inl (.inl h)
  · rcases List.mem_append.mp h with h | h
    · exact .inl (.inr h)
    · exact .inr (Option.some.inj (List.mem_singleton.mp h))
theorem step_new {D : Addr} {o : HO} (n : H D = none) : Step (Ow F as) H (Ow F (as ++ [some D])) (upd H D o) := fun b u nb e => by
  have ne : b ≠ D := fun z => by rw [z, n] at e; cases e
  exact ⟨fun z => (ow_cases z).elim nb ne, by rw [upd_ne ne]; exact e⟩
theorem SlOk.step {as' : List (Option Addr)} {o : Option V} (s : Step (Ow F as) H (Ow F as') H') (k : ∀ (j : Nat) (a : Addr), as[j]? = some (some a) → as'[j]? = some (some a)) : ∀ {sl : Sl}, SlOk F as H o sl → SlOk F as' H' o sl
  | .any, _ => trivial
  | .dat d, ⟨v, e, h⟩ => ⟨v, e, DV.step s d v h⟩
  | .own j, ⟨a, e, h⟩ => ⟨a, e, k j a h⟩
  | .box, h => h
theorem get_more {α : Type} {xs : List α} {y x : α} {j : Nat} (h : xs[j]? = some x) : (xs ++ [y])[j]? = some x := by
  rw [List.getElem?_append_left (List.getElem?_eq_some_iff.mp h).1]
  exact h
/-- a thing of one's own more -/
theorem StOk.pushC (st : StOk F H0 as σ H ρ ω) {p : Addr} {o : HO} {d : D} (n : H p = none) (ct : CtAt F.G (Ow F (as ++ [some p])) (upd H p o) p d) : StOk F H0 (as ++ [some p]) σ (upd H p o) ρ (ω ++ [d]) where
  al := st.al
  fr := st.fr.trans (SameO.of (same_new n))
  new := fun a h => by
    rcases List.mem_append.mp h with h | h
    · exact st.new a h
    · obtain rfl := Option.some.inj (List.mem_singleton.mp h)
      exact (st.fresh n).2.1
  nd := fun i j a hi hj => by
    have key : ∀ m : Nat, (as ++ [some p])[m]? = some (some a) → (m < as.length ∧ as[m]? = some (some a)) ∨ (m = as.length ∧ a = p) := fun m hm => by
      by_cases l : m < as.length
      · rw [List.getElem?_append_left l] at hm
        exact .inl ⟨l, hm⟩
      · rw [List.getElem?_append_right (by omega)] at hm
        have e : m - as.length = 0 := by
          cases q : m - as.length with
          | zero => rfl
          | succ _ => rw [q] at hm; cases hm
        rw [e] at hm
        exact .inr ⟨by omega, (Option.some.inj (Option.some.inj hm)).symm⟩
    have nD : ∀ m : Nat, as[m]? = some (some p) → False := fun m hm => (st.fresh n).1 (.inr (List.mem_of_getElem? hm))
    rcases key i hi with ⟨_, h1⟩ | ⟨h1, rfl⟩
    · rcases key j hj with ⟨_, h2⟩ | ⟨h2, rfl⟩
      · exact st.nd i j a h1 h2
      · exact (nD _ h1).elim
    · rcases key j hj with ⟨_, h2⟩ | ⟨h2, _⟩
      · exact (nD _ h2).elim
      · omega
  bx := F.BM H _ (fun b o _ e => same_new n _ _ e) st.bx
  ow := fun k a h => by
    by_cases l : k < as.length
    · rw [List.getElem?_append_left l] at h
      obtain ⟨d, h1, h2⟩ := st.ow k a h
      exact ⟨d, get_more h1, h2.step (step_new n) (same_new n a)⟩
    · rw [List.getElem?_append_right (by omega)] at h
      have e : k - as.length = 0 := by
        cases q : k - as.length with
        | zero => rfl
        | succ _ => rw [q] at h; cases h
      rw [e] at h
      obtain rfl := Option.some.inj (Option.some.inj h)
      refine ⟨d, ?_, ct⟩
      rw [List.getElem?_append_right (by rw [st.ol]; omega), st.ol, e]
      rfl
  ol := by rw [List.length_append, List.length_append, st.ol]; rfl
  en := Paired.mapP st.en fun o sl h => h.step (step_new n) fun j a hj => get_more hj
theorem StOk.push (st : StOk F H0 as σ H ρ ω) {p : Addr} {ds : List D} {vs : List V} (n : H p = none) (dv : DVs F.G (Ow F as) H ds vs) : StOk F H0 (as ++ [some p]) σ (upd H p (.lst vs)) ρ (ω ++ [.lst ds]) :=
  st.pushC n ⟨vs, upd_same, DVs.step (step_new n) ds vs dv⟩
/-- one's own thing is another one now -/
theorem StOk.put (st : StOk F H0 as σ H ρ ω) {k : Nat} {a : Addr} {d : D} {o : HO} (ha : as[k]? = some (some a)) (ct : CtAt F.G (Ow F as) (upd H a o) a d) : StOk F H0 as σ (upd H a o) ρ (ω.set k d) ∧ SameO (Ow F as) H (upd H a o) := by
  have oa : Ow F as a := .inr (List.mem_of_getElem? ha)
  have s : SameO (Ow F as) H (upd H a o) := fun b u n e => by
    rw [upd_ne (fun z => n (by rw [z]; exact oa))]
    exact e
  have nO : ¬ F.O a := st.notM (List.mem_of_getElem? ha)
  refine ⟨{ al := st.al, fr := fun b u n e => ?_, new := st.new, nd := st.nd, bx := F.BM H _ (fun b u m e => ?_) st.bx, ow := fun j b hj => ?_, ol := by rw [List.length_set]; exact st.ol, en := Paired.mapP st.en fun o sl h => h.mono s }, s⟩
  · have z : b ≠ a := fun z => by
      rw [z, st.new a (List.mem_of_getElem? ha)] at e
      cases e
    rw [upd_ne z]
    exact st.fr b u n e
  · rw [upd_ne (fun z => nO (by rw [← z]; exact F.MO b m))]
    exact e
  · obtain ⟨e0, h1, h2⟩ := st.ow j b hj
    by_cases z : j = k
    · subst z
      rw [ha] at hj
      obtain rfl := Option.some.inj (Option.some.inj hj)
      exact ⟨d, by rw [List.getElem?_set_self (List.getElem?_eq_some_iff.mp h1).1], ct⟩
    · have nb : b ≠ a := fun e => z (st.nd j k a (e ▸ hj) ha)
      exact ⟨e0, by rw [List.getElem?_set_ne (Ne.symm z)]; exact h1, h2.step (Step.of s) fun u e => by rw [upd_ne nb]; exact e⟩
/-- one's own list grows -/
theorem StOk.grow (st : StOk F H0 as σ H ρ ω) {k : Nat} {a : Addr} {ds : List D} {vs : List V} {d : D} {v : V} (ha : as[k]? = some (some a)) (hv : H a = some (.lst vs)) (dvs : DVs F.G (Ow F as) H ds vs) (dv : DV F.G (Ow F as) H d v) :
    StOk F H0 as σ (upd H a (.lst (vs ++ [v]))) ρ (ω.set k (.lst (ds ++ [d]))) ∧ SameO (Ow F as) H (upd H a (.lst (vs ++ [v]))) := by
  have oa : Ow F as a := .inr (List.mem_of_getElem? ha)
  have s : SameO (Ow F as) H (upd H a (.lst (vs ++ [v]))) := fun b u n e => by
    rw [upd_ne (fun z => n (by rw [z]; exact oa))]
    exact e
  exact st.put ha ⟨_, upd_same, (dvs.append (.cons dv .nil)).mono s⟩
/-- the last thing of one's own becomes a datum -/
theorem StOk.give {p : Addr} {c : D} (st : StOk F H0 as σ H ρ ω) (st2 : StOk F H0 (as ++ [some p]) σ2 H2 ρ2 (ω ++ [c])) (s : Step (Ow F as) H (Ow F (as ++ [some p])) H2) : StOk F H0 as σ H2 ρ ω ∧ DV F.G (Ow F as) H2 c (.ref p) := by
  have less : Step (Ow F (as ++ [some p])) H2 (Ow F as) H2 := Step.less fun a h => ow_more h
  refine ⟨{ al := st.al, fr := st2.fr, new := st.new, nd := st.nd, bx := st2.bx, ow := fun k a h => ?_, ol := st.ol, en := Paired.mapP st.en fun o sl h => h.mono s.same_ }, ?_⟩
  · obtain ⟨d, h1, h2⟩ := st2.ow k a (get_more h)
    have l : k < ω.length := by rw [st.ol]; exact (List.getElem?_eq_some_iff.mp h).1
    rw [List.getElem?_append_left l] at h1
    exact ⟨d, h1, h2.step less fun _ e => e⟩
  · have last : (as ++ [some p])[as.length]? = some (some p) := by rw [List.getElem?_append_right (Nat.le_refl _), Nat.sub_self]; rfl
    obtain ⟨d, h1, h2⟩ := st2.ow as.length p last
    rw [← st.ol, List.getElem?_append_right (Nat.le_refl _), Nat.sub_self] at h1
    cases h1
    have nD : ¬ Ow F as p := fun z => by
      rcases z with z | z
      · exact st2.notM (List.mem_append_right _ (List.mem_singleton.mpr rfl)) z
      · obtain ⟨i, hi⟩ := List.mem_iff_getElem?.mp z
        have := st2.nd i as.length p (get_more hi) last
        have := (List.getElem?_eq_some_iff.mp hi).1
        omega
    exact (h2.step less fun _ e => e).dat nD
theorem StOk.wiped (st : StOk F H0 as σ H ρ ω) : ∀ vs : List Nat, StOk F H0 as (wipe σ vs) H (vs.foldr (fun j r => r.set j .any) ρ) ω
  | [] => st
  | v :: vs => (st.wiped vs).set (o := none) (s := .any) trivial v
end
/-! ### comprehensions -/
theorem wipe_wipe {σ : L2.St} {vs : List Nat} : ∀ {us : List Nat}, (∀ u, u ∈ us → u ∈ vs) → wipe (wipe σ us) vs = wipe σ vs
  | [], _ => rfl
  | u :: us, h => by
    show wipe ((wipe σ us).set u none) vs = _
    rw [wipe_in (h u (List.mem_cons_self ..)), wipe_wipe fun z hz => h z (List.mem_cons_of_mem _ hz)]
def dYes : DXt := fun _ _ q => q true
theorem yes_ok {F : Fr} {σ : L2.St} {H : Hp} {Q : Bool → Hp → Prop} : tDt F dYes σ H Q → tYes σ H Q := fun ⟨H0, as, ρ, ω, q, st, h, k⟩ => k true H h SameO.refl st
def dLc (js : List Nat) (t : DTg) (ι : DXi) (τt : DXt) (τe : DX) : DX := fun ρ ω q => ι ρ ω fun xs => xs.length < sizeLine ∧ ∃ I : Nat → List D → Prop, I 0 [] ∧
  (∀ (i : Nat) (x : D) (acc : List D), xs[i]? = some x → acc.length ≤ i → I i acc → ∃ ρ', t (js.foldr (fun j r => r.set j .any) ρ) x = some ρ' ∧
    τt ρ' (ω ++ [.lst acc]) fun b => if b = true then τe ρ' (ω ++ [.lst acc]) fun y => I (i + 1) (acc ++ [y]) else I (i + 1) acc) ∧
  ∀ acc, acc.length ≤ xs.length → I xs.length acc → q (.lst acc)
section
variable {X : Cx} {F : Fr} {elt tg iter : Expr} {ifs : List Expr} {scope : Scope} {own : List (Str × Nat)} {pos : Pos} {ι : DXi} {g : TG} {t : DTg} {js : List Nat} {tt : TT} {τt : DXt} {τe : DX}
theorem core_lc (ho : TgOk F g t js) (hj : ∀ j, j ∈ js → j ∈ own.map (·.2)) (ht : ∀ σ H Q, tDt F τt σ H Q → tt σ H Q) {σ : L2.St} {H : Hp} {Q : VK} : tD F (dLc (own.map (·.2)) t ι τt τe) σ H Q → tLc (tDi F ι) g tt (tD F τe) (own.map (·.2)) σ H Q := by
  rintro ⟨H0, as, ρ, ω, q, st, h, k⟩
  refine ⟨H0, as, ρ, ω, _, st, h, fun xs J H1 hq s1 st1 dw D nD => ?_⟩
  obtain ⟨len, I, i0, is, ie⟩ := hq
  obtain ⟨Gd, Y, w, hG, hY⟩ := dw.w
  generalize hvs : own.map (·.2) = vs at hj is ⊢
  have sz := w
  refine lc_it w (fun i H' => ∃ acc, StOk F H0 (as ++ [some D]) (wipe σ vs) H' (vs.foldr (fun j r => r.set j .any) ρ) (ω ++ [.lst acc]) ∧ I i acc ∧ acc.length ≤ i ∧ Step (Ow F as) H1 (Ow F (as ++ [some D])) H')
    ⟨[], (st1.push nD (show DVs F.G (Ow F as) H1 [] [] from rfl)).wiped vs, i0, Nat.le_refl _, step_new nD⟩ (fun i H' _ z => ?_) (fun i x H' H2 hi z y => ?_) (fun H' z => ?_)
  · obtain ⟨acc, _, _, _, s⟩ := z
    exact hG _ _ s
  · obtain ⟨acc, st2, hI, hl, s⟩ := z
    obtain ⟨sm, d, hd, dv⟩ := hY i _ H' x H2 s (fun p np => (st2.fresh np).1) hi y
    obtain ⟨ρ', e1, h1⟩ := is i d acc hd hl hI
    have st3 := st2.same sm
    have s3 := s.trans (Step.of (SameO.of sm))
    refine ho x d (wipe σ vs) H2 H0 _ _ _ ρ' _ st3 dv e1 fun σ4 st4 w4 => ⟨(w4 vs hj).trans (wipe_wipe fun _ z => z), ht _ _ _ ⟨H0, _, ρ', _, _, st4, h1, fun b H5 h5 s5 st5 => ?_⟩⟩
    have last : (as ++ [some D])[as.length]? = some (some D) := by rw [List.getElem?_append_right (Nat.le_refl _), Nat.sub_self]; rfl
    cases b with
    | false => exact iteF ⟨acc, st3.back st5 s5, h5, by omega, s3.trans (Step.of s5)⟩
    | true =>
      refine iteT ⟨H0, _, ρ', _, _, st5, h5, fun y v H6 h6 s6 st6 dy => ?_⟩
      have lastω : (ω ++ [DL.D.lst acc])[as.length]? = some (DL.D.lst acc) := by rw [← st.ol, List.getElem?_append_right (Nat.le_refl _), Nat.sub_self]; rfl
      obtain ⟨c0, q1, us, q2, q3⟩ : ∃ c0, (ω ++ [DL.D.lst acc])[as.length]? = some c0 ∧ ∃ us, H6 D = some (.lst us) ∧ DVs F.G (Ow F (as ++ [some D])) H6 acc us := by
        obtain ⟨c0, q1, q2⟩ := st6.ow as.length D last
        rw [lastω] at q1
        cases q1
        exact ⟨_, lastω, q2⟩
      have s56 := s5.trans s6
      have st7 := st3.back st6 s56
      obtain ⟨st8, s8⟩ := st7.grow last q2 q3 dy
      refine ⟨us, q2, by rw [← q3.len]; omega, acc ++ [y], ?_, h6, by rw [List.length_append]; show acc.length + 1 ≤ _; omega, (s3.trans (Step.of s56)).trans (Step.of s8)⟩
      have e : (ω ++ [DL.D.lst acc]).set as.length (DL.D.lst (acc ++ [y])) = ω ++ [DL.D.lst (acc ++ [y])] := by
        rw [← st.ol, List.set_append_right _ _ (Nat.le_refl _), Nat.sub_self]
        rfl
      rw [e] at st8
      exact st8
  · obtain ⟨acc, st2, hI, hl, s⟩ := z
    obtain ⟨st3, dv⟩ := st1.give st2 s
    exact k _ _ H' (ie acc hl hI) (s1.trans s.same_) st3 dv
theorem d_lc (hc : X.calm = true) (hN : X.N.Nodup) (hi : PI X tg iter (tDi F ι)) (hb : BlkOk X.N X.env.scope scope own)
    (hg : ∀ (s : Shared) (H : Hp) (C : Addr) (cl : List (Str × Addr)) (fp : List Addr), PG (X.blk s H scope (compEnvC scope cl C X.env) fp) tg g) (ho : TgOk F g t js) (hj : ∀ j, j ∈ js → j ∈ own.map (·.2))
    (hs : ∀ (s : Shared) (H : Hp) (C : Addr) (cl : List (Str × Addr)) (fp : List Addr), PTs (X.blk s H scope (compEnvC scope cl C X.env) fp) ifs tt) (ht : ∀ σ H Q, tDt F τt σ H Q → tt σ H Q)
    (he : ∀ (s : Shared) (H : Hp) (C : Addr) (cl : List (Str × Addr)) (fp : List Addr), PE (X.blk s H scope (compEnvC scope cl C X.env) fp) elt (tD F τe)) (hf : ∀ x, foldedSetIterable iter X.env x = pure x := by intro _; rfl) :
    PE X (.ListComp elt [{ target := tg, iter := iter, ifs := ifs, is_async := 0 }] scope pos) (tD F (dLc (own.map (·.2)) t ι τt τe)) := PE.wk (pe_lc hc hN hi hb hg hs he hf) fun _ _ _ => core_lc ho hj ht
end
end DL

/-! statements over data -/
namespace DL
open PySem PySem.Spec PyProof.Rows L2
structure DE where
  nx : List Sl → List D → Prop
  rt : D → Prop
  bk : List Sl → List D → Prop := fun _ _ => False
  ct : List Sl → List D → Prop := fun _ _ => False
abbrev DS := DE → List Sl → List D → Prop
/-- what goes on behind, said of the heap -/
structure Cont (F : Fr) (H0 H : Hp) (as : List (Option Addr)) (E : DE) (W : Ends) : Prop where
  nx : ∀ as' σ' H' ρ' ω', E.nx ρ' ω' → StOk F H0 as' σ' H' ρ' ω' → Step (Ow F as) H (Ow F as') H' → W.nx σ' H'
  bk : ∀ as' σ' H' ρ' ω', E.bk ρ' ω' → StOk F H0 as' σ' H' ρ' ω' → Step (Ow F as) H (Ow F as') H' → W.bk σ' H'
  ct : ∀ as' σ' H' ρ' ω', E.ct ρ' ω' → StOk F H0 as' σ' H' ρ' ω' → Step (Ow F as) H (Ow F as') H' → W.ct σ' H'
  rt : ∀ d v H', E.rt d → SameO F.M H0 H' → F.B H' → DV F.G F.O H' d v → W.rt v H'
def tDS (F : Fr) (τ : DS) : TS := fun W σ H => ∃ H0 as ρ ω E, StOk F H0 as σ H ρ ω ∧ τ E ρ ω ∧ Cont F H0 H as E W
section
variable {F : Fr} {H0 H H' : Hp} {as as' : List (Option Addr)} {E : DE} {W : Ends}
theorem Cont.step (c : Cont F H0 H as E W) (s : Step (Ow F as) H (Ow F as') H') : Cont F H0 H' as' E W :=
  ⟨fun _ _ _ _ _ h st q => c.nx _ _ _ _ _ h st (s.trans q), fun _ _ _ _ _ h st q => c.bk _ _ _ _ _ h st (s.trans q), fun _ _ _ _ _ h st q => c.ct _ _ _ _ _ h st (s.trans q), c.rt⟩
end
def dNext : DS := fun E ρ ω => E.nx ρ ω
def dThen (τ τ' : DS) : DS := fun E ρ ω => τ { E with nx := τ' E } ρ ω
def dSet (i : Nat) (τ : DX) : DS := fun E ρ ω => τ ρ ω fun d => E.nx (ρ.set i (.dat d)) ω
def dAsg (t : DTg) (τ : DX) : DS := fun E ρ ω => τ ρ ω fun d => ∃ ρ', t ρ d = some ρ' ∧ E.nx ρ' ω
def dDrop (τ : DX) : DS := fun E ρ ω => τ ρ ω fun _ => E.nx ρ ω
def dRet (τ : DX) : DS := fun E ρ ω => τ ρ ω fun d => E.rt d
def dRetN : DS := fun E _ _ => E.rt .non
def dBrk : DS := fun E ρ ω => E.bk ρ ω
def dCont : DS := fun E ρ ω => E.ct ρ ω
def dIfS (τt : DXt) (τa τb : DS) : DS := fun E ρ ω => τt ρ ω fun c => if c = true then τa E ρ ω else τb E ρ ω
def dNever : DS := fun _ _ _ => False
def dFor (t : DTg) (ι : DXi) (τb : DS) : DS := fun E ρ ω => ι ρ ω fun xs => ∃ I : Nat → List Sl → List D → Prop, I 0 ρ ω ∧
  (∀ (i : Nat) (x : D) ρ ω, xs[i]? = some x → I i ρ ω → ∃ ρ', t ρ x = some ρ' ∧ τb { nx := I (i + 1), ct := I (i + 1), bk := E.nx, rt := E.rt } ρ' ω) ∧ ∀ ρ ω, I xs.length ρ ω → E.nx ρ ω
def dWhile (τt : DXt) (τb : DS) : DS := fun E ρ ω => ∃ I : Nat → List Sl → List D → Prop, (∃ m, I m ρ ω) ∧ ∀ m ρ ω, I m ρ ω → τt ρ ω fun b => if b = true then
  τb { nx := fun ρ' ω' => ∃ m', m' < m ∧ I m' ρ' ω', ct := fun ρ' ω' => ∃ m', m' < m ∧ I m' ρ' ω', bk := E.nx, rt := E.rt } ρ ω else E.nx ρ ω
def dNew (i : Nat) : DS := fun E ρ ω => E.nx (ρ.set i (.own ω.length)) (ω ++ [.lst []])
def dApp (i : Nat) (τ : DX) : DS := fun E ρ ω => ∃ k ds, ρ[i]? = some (.own k) ∧ ω[k]? = some (.lst ds) ∧ ds.length < sizeLine ∧ τ ρ ω fun d => E.nx ρ (ω.set k (.lst (ds ++ [d])))
def given (k : Nat) (c : D) : Sl → Sl
  | .own j => if j = k then .dat c else .own j
  | s => s
def dGive (i : Nat) (τ : DS) : DS := fun E ρ ω => ∃ k c, ρ[i]? = some (.own k) ∧ ω[k]? = some c ∧ τ E (ρ.map (given k c)) ω
def dPar (i j : Nat) (τs : DXs) : DS := fun E ρ ω => τs ρ ω fun ds => ∃ x y, ds = [x, y] ∧ E.nx ((ρ.set i (.dat x)).set j (.dat y)) ω
def dPar3 (i j l : Nat) (τs : DXs) : DS := fun E ρ ω => τs ρ ω fun ds => ∃ x y z, ds = [x, y, z] ∧ E.nx (((ρ.set i (.dat x)).set j (.dat y)).set l (.dat z)) ω
section
variable {X : Cx} {F : Fr} {e a b c : Expr} {st : Stmt} {rest sa sb : List Stmt} {τ : DX} {τt : DXt} {τs : DXs} {t : DTg} {g : TG} {js : List Nat} {σ1 σ2 : DS} {pos : Pos} {ι : DXi}
theorem PS.wk {t t' : TS} (h : PS X st t) (i : ∀ W σ H, t' W σ H → t W σ H) : PS X st t' := ⟨fun pins s σ H W I w => h.run pins s σ H W I (i _ _ _ w)⟩
theorem PSs.wk {t t' : TS} (h : PSs X rest t) (i : ∀ W σ H, t' W σ H → t W σ H) : PSs X rest t' := ⟨fun pins s σ H W I w => h.run pins s σ H W I (i _ _ _ w)⟩
theorem ds_nil : PSs X [] (tDS F dNext) := PSs.wk pss_nil fun W σ H ⟨H0, as, ρ, ω, E, st, h, c⟩ => c.nx as σ H ρ ω h st (Step.of SameO.refl)
theorem ds_cons (h1 : PS X st (tDS F σ1)) (h2 : PSs X rest (tDS F σ2)) : PSs X (st :: rest) (tDS F (dThen σ1 σ2)) :=
  PSs.wk (pss_cons h1 h2) fun W σ H ⟨H0, as, ρ, ω, E, st, h, c⟩ => ⟨H0, as, ρ, ω, _, st, h, fun as' σ' H' ρ' ω' q st' s => ⟨H0, as', ρ', ω', E, st', q, c.step s⟩, c.bk, c.ct, c.rt⟩
theorem ds_one (h : PS X st (tDS F σ1)) : PSs X [st] (tDS F σ1) := pss_one h
theorem ds_set {i : Nat} {x : Str} {pos' : Pos} (hN : X.N.Nodup) (hi : X.N[i]? = some x) (hx : Loc X.env.scope x) (he : PE X e (tD F τ)) (sw : swapsWith e (some (.Name x pos')) pos.line X.env = pure false := by rfl)
    (hf : X.fn x = true ∨ X.env.scope.names.lookup x = some .local := by first | exact .inl rfl | exact .inr rfl) : PS X (.Assign [.Name x pos'] e pos) (tDS F (dSet i τ)) :=
  PS.wk (ps_set hN hi hx he sw hf) fun W σ H ⟨H0, as, ρ, ω, E, st, h, c⟩ => ⟨H0, as, ρ, ω, _, st, h, fun d v H1 h1 s1 st1 dv => c.nx as _ H1 _ ω h1 (st1.set (o := some v) (s := .dat d) ⟨v, rfl, dv⟩ i) (Step.of s1)⟩
theorem ds_asg {tg : Expr} (he : PE X e (tD F τ)) (hg : PG X tg g) (ho : TgOk F g t js) (s1 : swapsWithSole [tg] e pos.line X.env = pure false := by rfl) (s2 : swappedStores [tg] e X.env = pure none := by rfl) (s3 : (assignEach [tg] X.env).map (·.2) = [assign tg X.env] := by rfl) :
    PS X (.Assign [tg] e pos) (tDS F (dAsg t τ)) :=
  PS.wk (ps_asg he hg s1 s2 s3) fun W σ H ⟨H0, as, ρ, ω, E, st, h, c⟩ => ⟨H0, as, ρ, ω, _, st, h, fun d v H1 ⟨ρ', e1, h1⟩ s1 st1 dv => ho v d σ H1 H0 as ρ ω ρ' _ st1 dv e1 fun σ' st' _ => c.nx as σ' H1 ρ' ω h1 st' (Step.of s1)⟩
theorem ds_expr (he : PE X e (tD F τ)) (hs : swapsWith e none pos.line X.env = pure false := by rfl) : PS X (.Expr e pos) (tDS F (dDrop τ)) :=
  PS.wk (ps_expr he hs) fun W σ H ⟨H0, as, ρ, ω, E, st, h, c⟩ => ⟨H0, as, ρ, ω, _, st, h, fun d v H1 h1 s1 st1 dv => c.nx as σ H1 ρ ω h1 st1 (Step.of s1)⟩
theorem ow_less {as : List (Option Addr)} : ∀ a, F.O a → Ow F as a := fun _ h => .inl h
theorem ds_ret (he : PE X e (tD F τ)) : PS X (.Return (some e) pos) (tDS F (dRet τ)) :=
  PS.wk (ps_ret he) fun W σ H ⟨H0, as, ρ, ω, E, st, h, c⟩ => ⟨H0, as, ρ, ω, _, st, h, fun d v H1 h1 s1 st1 dv => c.rt d v H1 h1 st1.fr st1.bx (dv.less ow_less)⟩
theorem ds_retN : PS X (.Return none pos) (tDS F dRetN) := PS.wk ps_retN fun W σ H ⟨H0, as, ρ, ω, E, st, h, c⟩ => c.rt .non .non H h st.fr st.bx rfl
theorem ds_pass : PS X (.Pass pos) (tDS F dNext) := PS.wk ps_pass fun W σ H ⟨H0, as, ρ, ω, E, st, h, c⟩ => c.nx as σ H ρ ω h st (Step.of SameO.refl)
theorem ds_break : PS X (.Break pos) (tDS F dBrk) := PS.wk ps_break fun W σ H ⟨H0, as, ρ, ω, E, st, h, c⟩ => c.bk as σ H ρ ω h st (Step.of SameO.refl)
theorem ds_continue : PS X (.Continue pos) (tDS F dCont) := PS.wk ps_continue fun W σ H ⟨H0, as, ρ, ω, E, st, h, c⟩ => c.ct as σ H ρ ω h st (Step.of SameO.refl)
theorem ds_never {st : Stmt} : PS X st (tDS F dNever) := PS.wk ps_never fun W σ H ⟨H0, as, ρ, ω, E, st, h, c⟩ => h.elim
theorem ds_if (hc : PT X c (tDt F τt)) (ha : PSs X sa (tDS F σ1)) (hb : PSs X sb (tDS F σ2)) : PS X (.If c sa sb pos) (tDS F (dIfS τt σ1 σ2)) :=
  PS.wk (ps_if hc ha hb) fun W σ H ⟨H0, as, ρ, ω, E, st, h, k⟩ => ⟨H0, as, ρ, ω, _, st, h, fun b H1 h1 s1 st1 => by
    cases b with
    | true => exact iteT ⟨H0, as, ρ, ω, E, st1, h1, k.step (Step.of s1)⟩
    | false => exact iteF ⟨H0, as, ρ, ω, E, st1, h1, k.step (Step.of s1)⟩⟩
theorem ds_for {tg iter : Expr} (hp : PassesOwn (model X.prog X.w) X.A X.env X.xe) (hc : X.calm = true) (hi : PI X tg iter (tDi F ι)) (hg : PG X tg g) (ho : TgOk F g t js) (hb : PSs X sb (tDS F σ1)) (hf : ∀ x, foldedSetIterable iter X.env x = pure x := by intro _; rfl) :
    PS X (.For tg iter sb [] pos) (tDS F (dFor t ι σ1)) :=
  PS.wk (ps_for hp hc hi hg hb hf) fun W σ H ⟨H0, as, ρ, ω, E, st, h, c⟩ => ⟨H0, as, ρ, ω, _, st, h, fun xs J H1 ⟨I, i0, is, ie⟩ s1 st1 dw => by
    obtain ⟨Gd, Y, w, hG, hY⟩ := dw.w
    have c1 := c.step (Step.of s1)
    refine for_it w (fun i σ' H' => ∃ as' ρ' ω', StOk F H0 as' σ' H' ρ' ω' ∧ I i ρ' ω' ∧ Step (Ow F as) H1 (Ow F as') H') ⟨as, ρ, ω, st1, i0, Step.of SameO.refl⟩ (fun i σ' H' _ z => ?_) (fun i x σ' H' H2 hi z y => ?_) (fun σ' H' z => ?_)
    · obtain ⟨as', _, _, _, _, s⟩ := z
      exact hG _ _ s
    · obtain ⟨as', ρ', ω', st', hI, s⟩ := z
      obtain ⟨sm, d, hd, dv⟩ := hY i _ H' x H2 s (fun p np => (st'.fresh np).1) hi y
      obtain ⟨ρ2, e1, h1⟩ := is i d ρ' ω' hd hI
      have s2 := s.trans (Step.of (SameO.of sm))
      refine ho x d σ' H2 H0 as' ρ' ω' ρ2 _ (st'.same sm) dv e1 fun σ3 st3 _ => ⟨H0, as', ρ2, ω', _, st3, h1, fun as4 σ4 H4 ρ4 ω4 q st4 s4 => ⟨as4, ρ4, ω4, st4, q, s2.trans s4⟩, fun as4 σ4 H4 ρ4 ω4 q st4 s4 => c1.nx as4 σ4 H4 ρ4 ω4 q st4 (s2.trans s4), fun as4 σ4 H4 ρ4 ω4 q st4 s4 => ⟨as4, ρ4, ω4, st4, q, s2.trans s4⟩, c.rt⟩
    · obtain ⟨as', ρ', ω', st', hI, s⟩ := z
      exact c1.nx as' σ' H' ρ' ω' (ie ρ' ω' hI) st' s⟩
theorem ds_while (hp : PassesOwn (model X.prog X.w) X.A X.env X.xe) (hc : PT X c (tDt F τt)) (hb : PSs X sb (tDS F σ1)) : PS X (.While c sb [] pos) (tDS F (dWhile τt σ1)) :=
  PS.wk (ps_while hp hc hb) fun W σ H ⟨H0, as, ρ, ω, E, st, ⟨I, ⟨m0, i0⟩, is⟩, k⟩ => by
    refine ⟨fun m σ' H' => ∃ as' ρ' ω', StOk F H0 as' σ' H' ρ' ω' ∧ I m ρ' ω' ∧ Step (Ow F as) H (Ow F as') H', ⟨m0, as, ρ, ω, st, i0, Step.of SameO.refl⟩, ?_⟩
    rintro m σ' H' ⟨as', ρ', ω', st', hI, s⟩
    refine ⟨H0, as', ρ', ω', _, st', is m ρ' ω' hI, fun b H1 h1 s1 st1 => ?_⟩
    have s2 := s.trans (Step.of s1)
    cases b with
    | true =>
      refine iteT ⟨fun σ4 H4 => ∃ as4 ρ4 ω4, StOk F H0 as4 σ4 H4 ρ4 ω4 ∧ (∃ m', m' < m ∧ I m' ρ4 ω4) ∧ Step (Ow F as) H (Ow F as4) H4, fun σ4 H4 z => ?_, H0, as', ρ', ω', _, st1, h1, fun as4 σ4 H4 ρ4 ω4 q st4 s4 => ⟨as4, ρ4, ω4, st4, q, s2.trans s4⟩, fun as4 σ4 H4 ρ4 ω4 q st4 s4 => k.nx as4 σ4 H4 ρ4 ω4 q st4 (s2.trans s4), fun as4 σ4 H4 ρ4 ω4 q st4 s4 => ⟨as4, ρ4, ω4, st4, q, s2.trans s4⟩, k.rt⟩
      obtain ⟨as4, ρ4, ω4, st4, ⟨m', l, q⟩, s4⟩ := z
      exact ⟨m', l, as4, ρ4, ω4, st4, q, s4⟩
    | false => exact iteF (k.nx as' σ' H1 ρ' ω' h1 st1 s2)
theorem ds_new {i : Nat} {x : Str} {pos' p2 : Pos} (hN : X.N.Nodup) (hi : X.N[i]? = some x) (hx : Loc X.env.scope x) (sw : swapsWith (.List [] p2) (some (.Name x pos')) pos.line X.env = pure false := by rfl)
    (hf : X.fn x = true ∨ X.env.scope.names.lookup x = some .local := by first | exact .inl rfl | exact .inr rfl) : PS X (.Assign [.Name x pos'] (.List [] p2) pos) (tDS F (dNew i)) :=
  PS.wk (ps_set hN hi hx (pe_lst pa_nil) sw hf) fun W σ H ⟨H0, as, ρ, ω, E, st, h, c⟩ => ⟨Nat.zero_le _, fun p np => c.nx (as ++ [some p]) _ _ _ _ h
    ((st.push np (show DVs F.G (Ow F as) H [] [] from rfl)).set (o := some (.ref p)) (s := .own ω.length) ⟨p, rfl, by rw [st.ol, List.getElem?_append_right (Nat.le_refl _), Nat.sub_self]; rfl⟩ i) (step_new np)⟩
theorem ds_app {i : Nat} {x : Str} {p1 ap cp : Pos} (hN : X.N[i]? = some x) (hv : Vis X.env.scope x) (he : PE X e (tD F τ)) (hK : X.K = F.G.K := by rfl) (hd : (x == ("__debug__" : Str)) = false := by decide) (hcd : (x == ("__classdict__" : Str)) = false := by decide)
    (b1 : attributeBase (.Name x p1) "append" X.env (eval (.Name x p1) X.env) = eval (.Name x p1) X.env := by rfl)
    (b2 : (((backTo cp (starEach [e] X.env)).all fun x => !x.1) && ((backToKw cp (keywordEach [] X.env)).all fun x => x.1.isSome) && decide (([e].length + ([] : List Keyword).length + if ([] : List Keyword).isEmpty = true then 0 else 1) < 30)) = true := by rfl)
    (b3 : (ap.endLine == cp.line) = true := by rfl) (b4 : starEach [e] X.env = (false, eval e X.env) :: starEach [] X.env := by rfl) (b5 : (backTo cp (starEach [] X.env)).any (·.1) = false := by rfl)
    (hs : swapsWith (.Call (.Attribute (.Name x p1) "append" ap) [e] [] cp) none pos.line X.env = pure false := by rfl) : PS X (.Expr (.Call (.Attribute (.Name x p1) "append" ap) [e] [] cp) pos) (tDS F (dApp i τ)) :=
  PS.wk (ps_expr (pe_bm PySem.F.plainAttrs_list PySem.F.slot_list_append PySem.F.type_list_append mt_append (pe_var (i := i) hN hv hd hcd) (pa_cons he pa_nil b4) b1 b2 b3 b4 b5) hs)
    fun W σ H ⟨H0, as, ρ, ω, E, st, ⟨k, ds, h1, h2, h3, h4⟩, c⟩ => by
      obtain ⟨o, eo, al, rfl, ha⟩ := slots_get st.en h1
      have at_ : ∀ {H1 : Hp}, StOk F H0 as σ H1 ρ ω → ∃ vs, H1 al = some (.lst vs) ∧ DVs F.G (Ow F as) H1 ds vs := fun {H1} st => by
        obtain ⟨c0, q1, q2⟩ := st.ow k al ha
        rw [h2] at q1
        cases q1
        exact q2
      obtain ⟨vs, q2, q3⟩ := at_ st
      refine ⟨.ref al, eo, .inl ⟨rfl, _, SqL.of q2⟩, H0, as, ρ, ω, _, st, h4, fun d v H1 hq s1 st1 dv => ?_⟩
      obtain ⟨vs1, r2, r3⟩ := at_ st1
      obtain ⟨st2, s2⟩ := st1.grow ha r2 r3 dv
      exact ⟨al, vs1, v, rfl, rfl, r2, by rw [← r3.len]; exact h3, c.nx as σ _ ρ _ hq st2 (Step.of (s1.trans s2))⟩
theorem StOk.given {H0 H : Hp} {as : List (Option Addr)} {σ : L2.St} {ρ : List Sl} {ω : List D} (st : StOk F H0 as σ H ρ ω) {i k : Nat} {ct : D} (h1 : ρ[i]? = some (.own k)) (h2 : ω[k]? = some ct) :
    StOk F H0 (as.set k none) σ H (ρ.map (given k ct)) ω ∧ Step (Ow F as) H (Ow F (as.set k none)) H := by
  obtain ⟨o, eo, al, rfl, ha⟩ := slots_get st.en h1
  obtain ⟨c', q1, q2⟩ := st.ow k al ha
  rw [h2] at q1
  cases q1
  have hk := (List.getElem?_eq_some_iff.mp ha).1
  have sub : ∀ (j : Nat) (b : Addr), (as.set k none)[j]? = some (some b) → as[j]? = some (some b) ∧ j ≠ k := fun j b e => by
    by_cases z : j = k
    · subst z
      rw [List.getElem?_set_self hk] at e
      cases e
    · rw [List.getElem?_set_ne (Ne.symm z)] at e
      exact ⟨e, z⟩
  have mem : ∀ b : Addr, some b ∈ as.set k none → some b ∈ as := fun b hb => by
    obtain ⟨j, hj⟩ := List.mem_iff_getElem?.mp hb
    exact List.mem_of_getElem? (sub j b hj).1
  have less : ∀ b, Ow F (as.set k none) b → Ow F as b := fun b h => h.imp id (mem b)
  have nal : ¬ Ow F (as.set k none) al := fun z => by
    rcases z with z | z
    · exact st.notM (List.mem_of_getElem? ha) z
    · obtain ⟨j, hj⟩ := List.mem_iff_getElem?.mp z
      obtain ⟨e, ne⟩ := sub j al hj
      exact ne (st.nd j k al e ha)
  refine ⟨{ al := st.al, fr := st.fr, new := fun b hb => st.new b (mem b hb), nd := fun i j b e1 e2 => st.nd i j b (sub i b e1).1 (sub j b e2).1, bx := st.bx, ow := fun j b e => ?_, ol := by rw [List.length_set]; exact st.ol, en := ?_ }, Step.less less⟩
  · obtain ⟨d, r1, r2⟩ := st.ow j b (sub j b e).1
    exact ⟨d, r1, r2.step (Step.less less) fun _ e => e⟩
  · have go : ∀ {σ : L2.St} {ρ : List Sl}, Paired (SlOk F as H) σ ρ → Paired (SlOk F (as.set k none) H) σ (ρ.map (DL.given k ct)) := by
      intro σ ρ h
      induction h with
      | nil => exact .nil
      | @cons o sl _ _ r _ ih =>
        refine .cons ?_ ih
        cases sl with
        | any => trivial
        | dat d =>
          obtain ⟨v, e, dv⟩ := r
          exact ⟨v, e, dv.less less⟩
        | box => exact r
        | own j =>
          obtain ⟨b, e, hb⟩ := r
          by_cases z : j = k
          · subst z
            rw [ha] at hb
            obtain rfl := Option.some.inj (Option.some.inj hb)
            show SlOk F _ H o (if j = j then .dat ct else .own j)
            rw [if_pos rfl]
            exact ⟨_, e, (q2.step (Step.less less) fun _ e => e).dat nal⟩
          · show SlOk F _ H o (if j = k then .dat ct else .own j)
            rw [if_neg z]
            exact ⟨b, e, by rw [List.getElem?_set_ne (Ne.symm z)]; exact hb⟩
    exact go st.en
/-- from here on one's own list is a datum -/
theorem ds_give {i : Nat} (h : PSs X rest (tDS F σ1)) : PSs X rest (tDS F (dGive i σ1)) :=
  PSs.wk h fun W σ H ⟨H0, as, ρ, ω, E, st, ⟨k, ct, h1, h2, h3⟩, c⟩ => by
    obtain ⟨st2, s⟩ := st.given h1 h2
    exact ⟨H0, _, _, ω, E, st2, h3, c.step s⟩
theorem ds_par {i j : Nat} {x y : Str} {px py pt pt2 : Pos} {kt k2 : Nat} (hc : X.calm = true) (hN : X.N.Nodup) (hi : X.N[i]? = some x) (hj : X.N[j]? = some y) (ne : i ≠ j) (lx : X.env.scope.names.lookup x = some .local) (ly : X.env.scope.names.lookup y = some .local)
    (ha : PA X [a, b] (tDs F τs)) (sw : swappedStores [.Tuple [.Name x px, .Name y py] kt pt] (.Tuple [a, b] k2 pt2) X.env = pure (some [x, y])) (sw2 : swapsWithSole [.Tuple [.Name x px, .Name y py] kt pt] (.Tuple [a, b] k2 pt2) pos.line X.env = pure false := by rfl) :
    PS X (.Assign [.Tuple [.Name x px, .Name y py] kt pt] (.Tuple [a, b] k2 pt2) pos) (tDS F (dPar i j τs)) :=
  PS.wk (ps_par hc hN hi hj ne lx ly ha sw sw2) fun W σ H ⟨H0, as, ρ, ω, E, st, h, c⟩ => ⟨H0, as, ρ, ω, _, st, h, fun ds vs H1 ⟨x, y, e, h1⟩ s1 st1 dv => by
    subst e
    obtain ⟨v, u, rfl, hv, hu⟩ := two_at dv
    exact ⟨v, u, rfl, c.nx as _ H1 _ ω h1 ((st1.set (o := some v) (s := .dat x) ⟨v, rfl, hv⟩ i).set (o := some u) (s := .dat y) ⟨u, rfl, hu⟩ j) (Step.of s1)⟩⟩
end
end DL

/-! defs over data, with and without a source of draws -/
namespace DL
open PySem PySem.Spec PyProof.Rows L2
/-- a def by its name in the module -/
def Callee (P : Program) (w : World) (K : PySem.W.Frag) (mg : Str → Option Value) (base : Heap) (x : Str) (k : Nat) (ps : List Str) (sp : Sp) : Prop :=
  ∃ f fd, mg x = some (.ref f) ∧ PySem.W.keepIn K (.ref f) = true ∧ L2.Binds K fd ps [] ∧ FnOk P w K mg base CX0 k f fd ps sp
theorem Callee.imp {P : Program} {w : World} {K : PySem.W.Frag} {mg : Str → Option Value} {base : Heap} {x : Str} {k : Nat} {ps : List Str} {sp sp' : Sp} (c : Callee P w K mg base x k ps sp) (h : ∀ vs H Q E, sp' vs H Q E → sp vs H Q E) : Callee P w K mg base x k ps sp' := by
  obtain ⟨f, fd, m, kp, b, F⟩ := c
  exact ⟨f, fd, m, kp, b, F.imp h⟩
theorem pe_callee {X : Cx} {x : Str} {k : Nat} {ps : List Str} {sp : Sp} {p pos : Pos} {e : Expr} {es : List Expr} {t : TA} (c : Callee X.prog X.w X.K X.mg X.base x k ps sp) (hr : Room k X.A) (hg : Gl X x) (ha : PA X (e :: es) t)
    (hdb : (x == ("__debug__" : Str)) = false := by decide) (he : starEach (e :: es) X.env = (false, eval e X.env) :: starEach es X.env := by rfl) (hpl : (backTo pos (starEach es X.env)).any (·.1) = false := by rfl) :
    PE X (.Call (.Name x p) (e :: es) [] pos) (tCall sp [] E0 t) := by
  obtain ⟨f, fd, m, kp, b, F⟩ := c
  exact pe_call F hr hg m kp b .nil pass0 ha hdb he hpl
/-! ### without draws -/
def fr0 (G : DG) (O : Addr → Prop) : Fr := ⟨G, O, fun _ => False, fun _ => True, 0, fun _ h => h.elim, fun _ _ _ _ => trivial, fun _ _ _ h => h.elim⟩
def spP (G : DG) (n : Nat) (R : List D → (D → Prop) → Prop) : Sp := fun vs H Q _ => ∃ (O : Addr → Prop) (xs : List D) (q : D → Prop), xs.length = n ∧ (∀ a, O a → ∃ o, H a = some o) ∧ DVs G O H xs vs ∧ R xs q ∧ ∀ d w H', q d → Same H H' → DV G O H' d w → Q w H'
theorem al_of {O : Addr → Prop} {H : Hp} (h : ∀ p, H p = none → ¬ O p) : ∀ a, O a → ∃ o, H a = some o := fun a ha => by
  cases e : H a with
  | some o => exact ⟨o, rfl⟩
  | none => exact (h a e ha).elim
theorem slots_start {F : Fr} {H : Hp} : ∀ {xs : List D} {vs : List V}, DVs F.G F.O H xs vs → Paired (SlOk F [] H) (vs.map some) (xs.map Sl.dat)
  | [], _, h => by
    cases (show _ = _ from h)
    exact .nil
  | d :: xs, _, ⟨v, vs, e, h, t⟩ => by
    subst e
    exact .cons ⟨v, rfl, h.less fun a z => z.elim id fun z => nomatch z⟩ (slots_start t)
theorem slots_rest {F : Fr} {as : List (Option Addr)} {H : Hp} : ∀ n : Nat, Paired (SlOk F as H) (List.replicate n none) (List.replicate n Sl.any)
  | 0 => .nil
  | n + 1 => .cons trivial (slots_rest n)
theorem paired_app {α β : Type} {R : α → β → Prop} : ∀ {xs xs' : List α} {ys ys' : List β}, Paired R xs ys → Paired R xs' ys' → Paired R (xs ++ xs') (ys ++ ys')
  | _, _, _, _, .nil, h => h
  | _, _, _, _, .cons r t, h => .cons r (paired_app t h)
def startD (N : List Str) (xs : List D) : List Sl := xs.map Sl.dat ++ List.replicate (N.length - xs.length) .any
section
variable {P : Program} {w : World} {mg : Str → Option Value} {base : Heap} {x qual : Str} {st : Stmt} {f : Addr} {fd : FuncData} {N ps : List Str} {k : Nat} {R : List D → (D → Prop) → Prop} {G : DG} {τ : DS}
theorem okP (F : Fun G.K x qual st f fd) (S : FnScope N ps (defScope st)) (body : ∀ (O : Addr → Prop) (cdv : Value) (A : Around) (outer : List Env) (s : Shared) (H : Hp) (E : XK), Room k (A.deeper (envOfC qual (defScope st) s.heap.objs.size f cdv)) → PSs (cxOf CX0 P w G.K mg base N qual (defScope st) f cdv A outer s H E).nox (defBody st) (tDS (fr0 G O) τ))
    (run : ∀ xs q, xs.length = ps.length → R xs q → τ { nx := fun _ _ => q .non, rt := q } (startD N xs) []) : FnOk P w G.K mg base CX0 (k + 1) f fd ps (spP G ps.length R) := by
  refine F.ok S (fun vs H Q E h => ?_) (fun cdv A outer s H vs Q E hr h => ?_)
  · obtain ⟨O, xs, q, l, _, dv, _⟩ := h
    rw [← dv.len, l]
  · obtain ⟨O, xs, q, l, al, dv, r, kk⟩ := h
    refine ⟨_, body O cdv A outer s H E hr, H, [], startD N xs, [], _, ?_, run xs q l r, ?_⟩
    · refine ⟨al, SameO.refl, fun _ z => (nomatch z), fun i j a z => (nomatch z), trivial, fun k a z => (nomatch z), rfl, ?_⟩
      unfold startD L2.start
      rw [dv.len]
      exact paired_app (slots_start dv) (slots_rest _)
    · have sm : ∀ {H' : Hp}, SameO (fr0 G O).M H H' → Same H H' := fun {H'} s b o e => s b o (fun z => z) e
      exact ⟨fun as' σ' H' ρ' ω' h st' _ => kk .non .non H' h (sm st'.fr) rfl, fun _ _ _ _ _ z => (nomatch z), fun _ _ _ _ _ z => (nomatch z), fun d v H' h s _ dv' => kk d v H' h (sm s) dv'⟩
end
section
variable {X : Cx} {F : Fr} {e : Expr} {es : List Expr} {τs : DXs}
theorem abs_callee {G : DG} {n : Nat} {R : List D → (D → Prop) → Prop} : AbsL G (fun vs H Q => spP G n R (vs ++ []) H Q E0) (fun xs q => xs.length = n ∧ R xs q) := by
  rintro O H xs vs q Q nO dv ⟨l, r⟩ k
  rw [List.append_nil]
  exact ⟨O, xs, q, l, al_of nO, dv, r, k⟩
theorem d_call {x : Str} {k n : Nat} {ps : List Str} {R : List D → (D → Prop) → Prop} {p pos : Pos} (c : Callee X.prog X.w X.K X.mg X.base x k ps (spP F.G n R)) (hr : Room k X.A) (hg : Gl X x) (ha : PA X (e :: es) (tDs F τs))
    (hdb : (x == ("__debug__" : Str)) = false := by decide) (he : starEach (e :: es) X.env = (false, eval e X.env) :: starEach es X.env := by rfl) (hpl : (backTo pos (starEach es X.env)).any (·.1) = false := by rfl) :
    PE X (.Call (.Name x p) (e :: es) [] pos) (tD F (dCall (fun xs q => xs.length = n ∧ R xs q) τs)) := PE.wk (pe_callee c hr hg ha hdb he hpl) fun _ _ _ => coreL abs_callee
end
/-! ### with draws -/
/-- the deal at p, its great numbers at q -/
structure Deal (H : Hp) (p q : Addr) : Prop where
  ne : p ≠ q
  ex : ∃ (ns : List Int) (b : Int), H p = some (.lst [.ref q, .int b]) ∧ H q = some (.lst (ns.map V.int)) ∧ (∀ n, n ∈ ns → 0 ≤ n) ∧ ns.length ≤ 60 ∧ 0 ≤ b
def two (p q : Addr) : Addr → Prop := fun a => a = p ∨ a = q
def frB (G : DG) (O : Addr → Prop) (p q : Addr) : Fr where
  G := G
  O := fun a => O a ∨ two p q a
  M := two p q
  B := fun H => Deal H p q
  p := p
  MO := fun _ h => .inr h
  BM := fun H H' s d => by
    obtain ⟨ne, ns, b, hp, hq, r⟩ := d
    exact ⟨ne, ns, b, s _ _ (.inl rfl) hp, s _ _ (.inr rfl) hq, r⟩
  BA := fun H d a h => by
    obtain ⟨ne, ns, b, hp, hq, r⟩ := d
    rcases h with rfl | rfl
    · exact ⟨_, hp⟩
    · exact ⟨_, hq⟩
def spB (G : DG) (n : Nat) (R : List D → (D → Prop) → Prop) : Sp := fun vs H Q _ => ∃ (O : Addr → Prop) (p q0 : Addr) (us : List V) (xs : List D) (q : D → Prop), vs = .ref p :: us ∧ xs.length = n ∧ Deal H p q0 ∧ (∀ a, O a → ∃ o, H a = some o) ∧ DVs G (fun a => O a ∨ two p q0 a) H xs us ∧ R xs q ∧
  ∀ d w H', q d → SameO (two p q0) H H' → Deal H' p q0 → DV G (fun a => O a ∨ two p q0 a) H' d w → Q w H'
def startB (N : List Str) (xs : List D) : List Sl := .box :: xs.map Sl.dat ++ List.replicate (N.length - (xs.length + 1)) .any
theorem deal_al {H : Hp} {p q : Addr} (d : Deal H p q) {a : Addr} (h : two p q a) : ∃ o, H a = some o := by
  obtain ⟨ne, ns, b, hp, hq, r⟩ := d
  rcases h with rfl | rfl
  · exact ⟨_, hp⟩
  · exact ⟨_, hq⟩
section
variable {P : Program} {w : World} {mg : Str → Option Value} {base : Heap} {x qual : Str} {st : Stmt} {f : Addr} {fd : FuncData} {N ps : List Str} {k n : Nat} {R : List D → (D → Prop) → Prop} {G : DG} {τ : DS}
theorem okB (F : Fun G.K x qual st f fd) (S : FnScope N ps (defScope st)) (hn : ps.length = n + 1) (body : ∀ (O : Addr → Prop) (p q0 : Addr) (cdv : Value) (A : Around) (outer : List Env) (s : Shared) (H : Hp) (E : XK), Room k (A.deeper (envOfC qual (defScope st) s.heap.objs.size f cdv)) → PSs (cxOf CX0 P w G.K mg base N qual (defScope st) f cdv A outer s H E).nox (defBody st) (tDS (frB G O p q0) τ))
    (run : ∀ xs q, xs.length = n → R xs q → τ { nx := fun _ _ => q .non, rt := q } (startB N xs) []) : FnOk P w G.K mg base CX0 (k + 1) f fd ps (spB G n R) := by
  refine F.ok S (fun vs H Q E h => ?_) (fun cdv A outer s H vs Q E hr h => ?_)
  · obtain ⟨O, p, q0, us, xs, q, rfl, l, _, _, dv, _⟩ := h
    rw [List.length_cons, ← dv.len, l, hn]
  · obtain ⟨O, p, q0, us, xs, q, rfl, l, dl, al, dv, r, kk⟩ := h
    refine ⟨_, body O p q0 cdv A outer s H E hr, H, [], startB N xs, [], _, ?_, run xs q l r, ?_⟩
    · refine ⟨fun a z => z.elim (al a) (deal_al dl), SameO.refl, fun _ z => (nomatch z), fun i j a z => (nomatch z), dl, fun k a z => (nomatch z), rfl, ?_⟩
      unfold startB L2.start
      rw [List.length_cons, ← dv.len]
      exact paired_app (.cons rfl (slots_start (F := frB G O p q0) dv)) (slots_rest _)
    · exact ⟨fun as' σ' H' ρ' ω' h st' _ => kk .non .non H' h st'.fr st'.bx rfl, fun _ _ _ _ _ z => (nomatch z), fun _ _ _ _ _ z => (nomatch z), fun d v H' h s b dv' => kk d v H' h s b dv'⟩
end
section
variable {X : Cx} {G : DG} {O : Addr → Prop} {p q : Addr} {e : Expr} {es : List Expr} {τs : DXs}
theorem StOk.drawn {F : Fr} {H0 H H' : Hp} {as : List (Option Addr)} {σ : L2.St} {ρ : List Sl} {ω : List D} (st : StOk F H0 as σ H ρ ω) (s : SameO F.M H H') (b : F.B H') : StOk F H0 as σ H' ρ ω ∧ SameO (Ow F as) H H' := by
  have so : SameO (Ow F as) H H' := s.mono fun a h => .inl (F.MO a h)
  refine ⟨{ al := st.al, fr := st.fr.trans s, new := st.new, nd := st.nd, bx := b, ow := fun k a h => ?_, ol := st.ol, en := Paired.mapP st.en fun o sl h => h.mono so }, so⟩
  obtain ⟨d, h1, h2⟩ := st.ow k a h
  exact ⟨d, h1, h2.step (Step.of so) fun o e => s _ _ (fun z => st.notM (List.mem_of_getElem? h) (F.MO _ z)) e⟩
def dCallB (i : Nat) (n : Nat) (R : List D → (D → Prop) → Prop) (τs : DXs) : DX := fun ρ ω q => ρ[i]? = some .box ∧ τs ρ ω fun xs => xs.length = n ∧ R xs q
theorem core_callB {i n : Nat} {R : List D → (D → Prop) → Prop} {σ : L2.St} {H : Hp} {Q : VK} : tD (frB G O p q) (dCallB i n R τs) σ H Q → tCall (spB G n R) [] E0 (tCons (tVar i) (tDs (frB G O p q) τs)) σ H Q := by
  rintro ⟨H0, as, ρ, ω, qq, st, ⟨hb, h⟩, k⟩
  obtain ⟨o, eo, rfl⟩ := slots_get st.en hb
  refine ⟨.ref p, eo, H0, as, ρ, ω, _, st, h, fun ds vs H1 ⟨l, r⟩ s1 st1 dv => ?_⟩
  refine ⟨Ow (frB G O p q) as, p, q, vs, ds, qq, by rw [List.append_nil], l, st1.bx, al_of fun a ha => (st1.fresh ha).1, dv.less fun a z => z.elim id fun z => .inl (.inr z), r, fun d w H2 hq s2 b2 dw => ?_⟩
  obtain ⟨st2, s2'⟩ := st1.drawn s2 b2
  exact k d w H2 hq (s1.trans s2') st2 (dw.less fun a z => .inl z)
theorem d_callB_ {x y : Str} {i k n : Nat} {ps : List Str} {R : List D → (D → Prop) → Prop} {pp pos p2 : Pos} (c : Callee X.prog X.w X.K X.mg X.base x k ps (spB G n R)) (hr : Room k X.A) (hg : Gl X x) (hb : PE X (.Name y p2) (tVar i)) (ha : PA X es (tDs (frB G O p q) τs))
    (hdb : (x == ("__debug__" : Str)) = false := by decide) (he : starEach (.Name y p2 :: es) X.env = (false, eval (.Name y p2) X.env) :: starEach es X.env := by rfl) (hpl : (backTo pos (starEach es X.env)).any (·.1) = false := by rfl) :
    PE X (.Call (.Name x pp) (.Name y p2 :: es) [] pos) (tD (frB G O p q) (dCallB i n R τs)) := PE.wk (pe_callee c hr hg (pa_cons hb ha he) hdb he hpl) fun _ _ _ => core_callB
end
end DL

/-! more over data: a comprehension stored, three at once, stars, constants, dicts, instances -/
namespace DL
open PySem PySem.Spec PyProof.Rows L2
section
variable {X : Cx} {F : Fr} {elt tg iter e a b c : Expr} {es ifs : List Expr} {scope : Scope} {own : List (Str × Nat)} {pos spos : Pos} {ι : DXi} {g : TG} {t : DTg} {js : List Nat} {tt : TT} {τt : DXt} {τ τe τo : DX} {τs : DXs}
theorem ds_setLc {i : Nat} {y : Str} {py : Pos} (hc : X.calm = true) (hN : X.N.Nodup) (hy : X.N[i]? = some y) (hyl : X.env.scope.names.lookup y = some .local)
    (hsw : swapsWith (.ListComp elt [{ target := tg, iter := iter, ifs := ifs, is_async := 0 }] scope pos) (some (.Name y py)) spos.line X.env = pure true) (hi : PI X tg iter (tDi F ι)) (hb : BlkOk X.N X.env.scope scope own)
    (hg : ∀ (s : Shared) (H : Hp) (C : Addr) (cl : List (Str × Addr)) (fp : List Addr), PG (X.blk s H scope (compEnvC scope cl C X.env) fp) tg g) (ho : TgOk F g t js) (hj : ∀ j, j ∈ js → j ∈ own.map (·.2))
    (hs : ∀ (s : Shared) (H : Hp) (C : Addr) (cl : List (Str × Addr)) (fp : List Addr), PTs (X.blk s H scope (compEnvC scope cl C X.env) fp) ifs tt) (ht : ∀ σ H Q, tDt F τt σ H Q → tt σ H Q)
    (he : ∀ (s : Shared) (H : Hp) (C : Addr) (cl : List (Str × Addr)) (fp : List Addr), PE (X.blk s H scope (compEnvC scope cl C X.env) fp) elt (tD F τe)) (hf : ∀ x, foldedSetIterable iter X.env x = pure x := by intro _; rfl) :
    PS X (.Assign [.Name y py] (.ListComp elt [{ target := tg, iter := iter, ifs := ifs, is_async := 0 }] scope pos) spos) (tDS F (dSet i (dLc (own.map (·.2)) t ι τt τe))) :=
  PS.wk (ps_setLc hc hN hy hyl hsw hi hb hg hs he hf) fun W σ H ⟨H0, as, ρ, ω, E, st, h, k⟩ => core_lc ho hj ht ⟨H0, as, ρ, ω, _, st, h, fun d v H1 h1 s1 st1 dv => k.nx as _ H1 _ ω h1 (st1.set (o := some v) (s := .dat d) ⟨v, rfl, dv⟩ i) (Step.of s1)⟩
theorem pts_D {c : Expr} (h : PT X c (tDt F τt)) : PTs X [c] (tDt F τt) := pts_one h
theorem three_at {G : DG} {O : Addr → Prop} {H : Hp} {d e f : D} {vs : List V} (h : DVs G O H [d, e, f] vs) : ∃ v u w, vs = [v, u, w] ∧ DV G O H d v ∧ DV G O H e u ∧ DV G O H f w := by
  obtain ⟨v, r, q, h1, h2⟩ := h
  obtain ⟨u, w, rfl, h3, h4⟩ := two_at h2
  exact ⟨v, u, w, q, h1, h3, h4⟩
theorem ds_par3 {i j l : Nat} {x y z : Str} {px py pz pt pt2 : Pos} {kt k2 : Nat} (hc : X.calm = true) (hN : X.N.Nodup) (hi : X.N[i]? = some x) (hj : X.N[j]? = some y) (hl : X.N[l]? = some z) (n1 : i ≠ j) (n2 : i ≠ l) (n3 : j ≠ l)
    (lx : X.env.scope.names.lookup x = some .local) (ly : X.env.scope.names.lookup y = some .local) (lz : X.env.scope.names.lookup z = some .local) (ha : PA X [a, b, c] (tDs F τs))
    (sw : swappedStores [.Tuple [.Name x px, .Name y py, .Name z pz] kt pt] (.Tuple [a, b, c] k2 pt2) X.env = pure (some [x, y, z])) (sw2 : swapsWithSole [.Tuple [.Name x px, .Name y py, .Name z pz] kt pt] (.Tuple [a, b, c] k2 pt2) pos.line X.env = pure false := by rfl) :
    PS X (.Assign [.Tuple [.Name x px, .Name y py, .Name z pz] kt pt] (.Tuple [a, b, c] k2 pt2) pos) (tDS F (dPar3 i j l τs)) :=
  PS.wk (ps_par3 hc hN hi hj hl n1 n2 n3 lx ly lz ha sw sw2) fun W σ H ⟨H0, as, ρ, ω, E, st, h, k⟩ => ⟨H0, as, ρ, ω, _, st, h, fun ds vs H1 ⟨x, y, z, e, h1⟩ s1 st1 dv => by
    subst e
    obtain ⟨v, u, w, rfl, hv, hu, hw⟩ := three_at dv
    exact ⟨v, u, w, rfl, k.nx as _ H1 _ ω h1 (((st1.set (o := some v) (s := .dat x) ⟨v, rfl, hv⟩ i).set (o := some u) (s := .dat y) ⟨u, rfl, hu⟩ j).set (o := some w) (s := .dat z) ⟨w, rfl, hw⟩ l) (Step.of s1)⟩⟩
/-! stars -/
def dStar (τ : DX) (τs : DXs) : DXs := fun ρ ω q => τ ρ ω fun d => ∃ xs, seqD d = some xs ∧ τs ρ ω fun ys => q (xs ++ ys)
theorem da_star {p : Pos} (he : PE X e (tD F τ)) (hr : PA X es (tDs F τs)) (hK : X.K = F.G.K := by rfl) (hs : starEach (.Starred e p :: es) X.env = (true, eval e X.env) :: starEach es X.env := by rfl) : PA X (.Starred e p :: es) (tDs F (dStar τ τs)) :=
  PA.wk (StX.pa_star he hr hs) fun σ H Q ⟨H0, as, ρ, ω, q, st, h, k⟩ => ⟨H0, as, ρ, ω, _, st, h, fun d v H1 ⟨xs, e1, h1⟩ s1 st1 dv => by
    obtain ⟨al, ys, rfl, r, hs⟩ := seq_at dv e1
    refine ⟨al, ys, rfl, ?_, H0, as, ρ, ω, _, st1, h1, fun ds vs H2 h2 s2 st2 dvs => k _ _ H2 h2 (s1.trans s2) st2 ((r.mono s2).append dvs)⟩
    rcases hs with hs | hs
    · exact .inr (SqL.of (hs H1 SameO.refl))
    · exact .inl (by rw [hK]; exact hs H1 SameO.refl)⟩
/-! len of a list of one's own -/
def dLenOwn (i : Nat) : DX := fun ρ ω q => ∃ k ds, ρ[i]? = some (.own k) ∧ ω[k]? = some (.lst ds) ∧ q (.int ds.length)
theorem d_lenOwn {x y : Str} {i : Nat} {p p2 : Pos} (hx : x = "len") (hg : Gl X x) (hm : X.mg x = none) (hi : PE X (.Name y p2) (tVar i)) (he : starEach [.Name y p2] X.env = (false, eval (.Name y p2) X.env) :: starEach [] X.env := by rfl) (hpl : (backTo pos (starEach [] X.env)).any (·.1) = false := by rfl) : PE X (.Call (.Name x p) [.Name y p2] [] pos) (tD F (dLenOwn i)) := by
  subst hx
  exact PE.wk (pe_callB call_len_seq hg hm PySem.boot_len (pa_cons hi pa_nil he) (by decide) (by decide) he hpl) fun σ H Q ⟨H0, as, ρ, ω, q, st, ⟨k', ds, h1, h2, h⟩, k⟩ => by
    obtain ⟨o, eo, al, rfl, ha⟩ := slots_get st.en h1
    obtain ⟨c', q1, q2⟩ := st.ow k' al ha
    rw [h2] at q1
    cases q1
    obtain ⟨vs, q2, q3⟩ := q2
    exact ⟨.ref al, eo, al, vs, rfl, .inl (SqL.of q2), by rw [← q3.len]; exact k _ _ H h SameO.refl st rfl⟩
/-! a constant of the module -/
theorem d_glob {x : Str} {v : V} {u : Value} {d : D} {pos : Pos} (hg : Gl X x) (hm : X.mg x = some u) (r : RelV v u) (c : ∀ O H, DV F.G O H d v) (hd : (x == ("__debug__" : Str)) = false := by decide) : PE X (.Name x pos) (tD F (dC d)) := dC_mk (pe_glob hg hm r hd) c
theorem kon_strs {G : DG} {al : Addr} {xs : List Str} (h : ∀ H, SqT G.K H al (xs.map V.str)) : ∀ O H, DV G O H (.tup (xs.map D.str)) (.ref al) := fun O H => ⟨al, xs.map V.str, rfl, fun H' _ => h H', by
  have go : ∀ ys : List Str, DVs G O H (ys.map D.str) (ys.map V.str) := fun ys => by
    induction ys with
    | nil => exact rfl
    | cons y ys ih => exact ⟨_, _, rfl, rfl, ih⟩
  exact go xs⟩
/-! methods of what is built in -/
def AbsM (G : DG) (r : V → List V → Hp → VK → Prop) (R : D → List D → (D → Prop) → Prop) : Prop := ∀ (O : Addr → Prop) (H : Hp) (x : D) (xs : List D) (v : V) (vs : List V) (q : D → Prop) (Q : VK), (∀ p, H p = none → ¬ O p) → DV G O H x v → DVs G O H xs vs → R x xs q → (∀ d w H', q d → Same H H' → DV G O H' d w → Q w H') → r v vs H Q
def dBM (Ty : D → Prop) (R : D → List D → (D → Prop) → Prop) (τo : DX) (τs : DXs) : DX := fun ρ ω q => τo ρ ω fun x => Ty x ∧ τs ρ ω fun xs => R x xs q
theorem core_bm {K : PySem.W.Frag} {T : String} {Ty : D → Prop} {r : V → List V → Hp → VK → Prop} {R : D → List D → (D → Prop) → Prop} (hT : ∀ O H x v, DV F.G O H x v → Ty x → tyV K T v H) (A : AbsM F.G r R) {σ : L2.St} {H : Hp} {Q : VK} : tD F (dBM Ty R τo τs) σ H Q → tBM K T r (tD F τo) (tDs F τs) σ H Q := fun ⟨H0, as, ρ, ω, q, st, h, k⟩ =>
  ⟨H0, as, ρ, ω, _, st, h, fun x v H1 ⟨ty, h1⟩ s1 st1 dv => ⟨hT _ _ _ _ dv ty, H0, as, ρ, ω, _, st1, h1, fun xs vs H2 h2 s2 st2 dvs => A (Ow F as) H2 x xs v vs _ Q (fun p hp => (st2.fresh hp).1) (dv.mono s2) dvs h2 fun d w H3 hq s3 dw => k d w H3 hq ((s1.trans s2).trans (SameO.of s3)) (st2.same s3) dw⟩⟩
def isLst : D → Prop
  | .lst _ => True
  | _ => False
theorem ty_lst {K : PySem.W.Frag} {G : DG} : ∀ (O : Addr → Prop) (H : Hp) (x : D) (v : V), DV G O H x v → isLst x → tyV K "list" v H := fun O H x v dv ty => by
  cases x <;> first | exact ty.elim | skip
  obtain ⟨al, xs, rfl, q, _⟩ := dv
  exact .inl ⟨rfl, _, SqL.of q.now⟩
def RIndex : D → List D → (D → Prop) → Prop := fun x xs q => ∃ ds d us u, x = .lst ds ∧ xs = [d] ∧ fls ds = some us ∧ d.fl = some u ∧ us.findIdx (fun z => eqV z u) < us.length ∧ q (.int (us.findIdx (fun z => eqV z u) : Nat))
theorem abs_index {G : DG} : AbsM G (rIndex G.K) RIndex := by
  rintro O H x xs v vs q Q nO dv dvs ⟨ds, d, us, u, rfl, rfl, e1, e2, lt, hq⟩ k
  obtain ⟨al, ys, rfl, p, r⟩ := dv
  obtain ⟨w, rfl, hw⟩ := one_at dvs
  obtain ⟨rfl, f1⟩ := fl_at hw e2
  obtain ⟨rfl, f2⟩ := fls_at r e1
  refine ⟨al, ys, w, ys.findIdx (fun z => eqV z w), ys[ys.findIdx (fun z => eqV z w)], rfl, rfl, SqL.of p.now, f1, f2, List.getElem?_eq_getElem lt, ?_, fun m z' hm hz => ?_, k _ _ H hq (fun _ _ z => z) rfl⟩
  · exact List.findIdx_getElem (w := lt)
  · obtain ⟨hl, rfl⟩ := List.getElem?_eq_some_iff.mp hz
    have := List.not_of_lt_findIdx hm
    simpa using this
theorem d_index {apos cpos : Pos} (ho : PE X a (tD F τo)) (ha : PA X [e] (tDs F τs)) (hK : X.K = F.G.K := by rfl) (b1 : attributeBase a "index" X.env (eval a X.env) = eval a X.env := by rfl)
    (b2 : (((backTo cpos (starEach [e] X.env)).all fun x => !x.1) && ((backToKw cpos (keywordEach [] X.env)).all fun x => x.1.isSome) && decide (([e].length + ([] : List Keyword).length + if ([] : List Keyword).isEmpty = true then 0 else 1) < 30)) = true := by rfl)
    (b3 : (apos.endLine == cpos.line) = true := by rfl) (b4 : starEach [e] X.env = (false, eval e X.env) :: starEach [] X.env := by rfl) (b5 : (backTo cpos (starEach [] X.env)).any (·.1) = false := by rfl) :
    PE X (.Call (.Attribute a "index" apos) [e] [] cpos) (tD F (dBM isLst RIndex τo τs)) :=
  PE.wk (pe_bm PySem.F.plainAttrs_list PySem.F.slot_list_index PySem.F.type_list_index mt_index ho ha b1 b2 b3 b4 b5) fun _ _ _ => core_bm ty_lst (by rw [hK]; exact abs_index)
/-! dicts with texts as keys, read -/
def lookD : List Str → List D → Str → Option D
  | k :: ks, d :: ds, x => if k = x then some d else lookD ks ds x
  | _, _, _ => none
theorem look_at {G : DG} {O : Addr → Prop} {H : Hp} {x : Str} {d : D} : ∀ {ks : List Str} {ds : List D} {xs : List V}, DVs G O H ds xs → lookD ks ds x = some d → ∃ v, valV ((ks.map (Sum.inr : Str → Key)).zip xs) (Sum.inr x) = some v ∧ DV G O H d v
  | [], _, _, _, e => by cases e
  | _ :: _, [], _, _, e => by cases e
  | k :: ks, d' :: ds, _, ⟨v, vs, e0, h, t⟩, e => by
    subst e0
    rw [show lookD (k :: ks) (d' :: ds) x = if k = x then some d' else lookD ks ds x from rfl] at e
    by_cases z : k = x
    · rw [if_pos z] at e
      cases e
      subst z
      exact ⟨v, by simp [valV], h⟩
    · rw [if_neg z] at e
      obtain ⟨w, hw, dw⟩ := look_at t e
      refine ⟨w, ?_, dw⟩
      rw [← hw]
      have nz : (Sum.inr k : Key) ≠ Sum.inr x := fun q => z (Sum.inr.inj q)
      simp [valV, nz]
def dDGet (τo τ : DX) : DX := fun ρ ω q => τo ρ ω fun x => τ ρ ω fun y => ∃ ks ds k d, x = .dic ks ds ∧ y = .str k ∧ lookD ks ds k = some d ∧ q d
theorem d_dget (hu : X.A.units + 1 < cLine) (ho : PE X a (tD F τo)) (hi : PE X b (tD F τ)) (hs : NoSl b := by exact fun _ _ => rfl) : PE X (.Subscript a b pos) (tD F (dDGet τo τ)) :=
  PE.wk (pe_dget hu ho hi hs) fun σ H Q ⟨H0, as, ρ, ω, q, st, h, k⟩ => ⟨H0, as, ρ, ω, _, st, h, fun x v H1 h1 s1 st1 dv => ⟨H0, as, ρ, ω, _, st1, h1, fun y u H2 ⟨ks, ds, ky, d, e1, e2, e3, hq⟩ s2 st2 du => by
    subst e1 e2
    obtain ⟨al, xs, rfl, p, l, r⟩ := dv.mono s2
    cases (show _ = _ from du)
    obtain ⟨w, hw, dw⟩ := look_at r e3
    exact ⟨al, w, rfl, .inl ⟨_, Sum.inr ky, .inl p.now, rfl, hw.symm⟩, k d w H2 hq (s1.trans s2) st2 dw⟩⟩⟩
/-! instances -/
open Classical in
/-- the heap without what is at O -/
noncomputable def bare (O : Addr → Prop) (H : Hp) : Hp := fun b => if O b then none else H b
theorem bare_same {O : Addr → Prop} {H : Hp} : SameO O H (bare O H) := fun b o n e => by
  unfold bare
  rw [if_neg n]
  exact e
theorem bare_at {O : Addr → Prop} {H : Hp} {b : Addr} {o : HO} (e : bare O H b = some o) : ¬ O b ∧ H b = some o := by
  unfold bare at e
  by_cases n : O b
  · rw [if_pos n] at e
    cases e
  · rw [if_neg n] at e
    exact ⟨n, e⟩
theorem bare_step {O : Addr → Prop} {H : Hp} : Step (fun _ => False) (bare O H) O H := fun b o _ e => bare_at e
def dFld (c : Str) (get : List D → Option D) (τ : DX) : DX := fun ρ ω q => τ ρ ω fun x => ∃ ds d, x = .obj c ds ∧ get ds = some d ∧ q d
/-- a field of the instances of a class -/
structure FldOk (G : DG) (c : Str) (C : Addr) (f : Str) (get : List D → Option D) : Prop where
  cl : Cls G.K C
  no : NoAttr G.K C f
  at_ : ∀ ds al H d, G.inst c ds al H → get ds = some d → ∃ dx fs v, H al = some (.ins C dx fs) ∧ fs.lookup f = some v ∧ DV G (fun _ => False) H d v
theorem d_fld {c f : Str} {C : Addr} {get : List D → Option D} (ok : FldOk F.G c C f get) (ho : PE X a (tD F τo)) (hK : X.K = F.G.K := by rfl) (hb : attributeBase a f X.env (eval a X.env) = eval a X.env := by rfl) : PE X (.Attribute a f pos) (tD F (dFld c get τo)) :=
  PE.wk (pe_fld ho hb) fun σ H Q ⟨H0, as, ρ, ω, q, st, h, k⟩ => ⟨H0, as, ρ, ω, _, st, h, fun x v H1 ⟨ds, d, e1, e2, hq⟩ s1 st1 dv => by
    subst e1
    obtain ⟨al, rfl, p⟩ := dv
    obtain ⟨dx, fs, w, h1, h2, h3⟩ := ok.at_ ds al _ d (p _ bare_same) e2
    exact ⟨al, C, dx, fs, w, rfl, (bare_at h1).2, by rw [hK]; exact ok.cl, by rw [hK]; exact ok.no, h2, k d w H1 hq s1 st1 (DV.step bare_step d w h3)⟩⟩
def dMeth (c : Str) (R : List D → List D → (D → Prop) → Prop) (τo : DX) (τs : DXs) : DX := fun ρ ω q => τo ρ ω fun x => ∃ ds, x = .obj c ds ∧ τs ρ ω fun xs => R ds xs q
structure MethOk (G : DG) (c : Str) (C : Addr) (m : Str) (sp : Sp) (R : List D → List D → (D → Prop) → Prop) : Prop where
  ins : ∀ ds al H, G.inst c ds al H → ∃ dx fs, H al = some (.ins C dx fs) ∧ fs.lookup m = none
  sp : ∀ (O : Addr → Prop) (H : Hp) (al : Addr) (ds xs : List D) (vs : List V) (q : D → Prop) (Q : VK) (E : XK), (∀ p, H p = none → ¬ O p) → Stb O (G.inst c ds al) H → DVs G O H xs vs → R ds xs q → (∀ d w H', q d → Same H H' → DV G O H' d w → Q w H') → sp (.ref al :: vs) H Q E
theorem d_meth {c m : Str} {C f : Addr} {fd : FuncData} {ps : List Str} {k : Nat} {sp : Sp} {CX : CXT} {E : XK} {R : List D → List D → (D → Prop) → Prop} {apos : Pos} {pl : Sem Bool} (ok : MethOk F.G c C m sp R) (cl : Cls X.K C) (hm : Meth X.K C m f) (hF : FnOk X.prog X.w X.K X.mg X.base CX k f fd ps sp) (hr : Room k X.A) (hb : L2.Binds X.K fd ps []) (hx : Passes CX X E)
    (ho : PE X a (tD F τo)) (ha : PA X (e :: es) (tDs F τs)) (hst : starEach (e :: es) X.env = (false, eval e X.env) :: starEach es X.env := by rfl) (hpl : (backTo pos (starEach es X.env)).any (·.1) = false := by rfl)
    (ht : eval (.Call (.Attribute a m apos) (e :: es) [] pos) X.env = (do
      let ov ← eval a X.env
      standAt apos.atName
      let (f, first) ← holding [ov] (getMethod ov m pl)
      callWith pos f first (backTo pos (starEach (e :: es) X.env)) (backToKw pos (keywordEach [] X.env))) := by rfl) : PE X (.Call (.Attribute a m apos) (e :: es) [] pos) (tD F (dMeth c R τo τs)) :=
  PE.wk (pe_meth ho cl hm hF hr hb .nil hx ha hst hpl ht) fun σ H Q ⟨H0, as, ρ, ω, q, st, h, kk⟩ => ⟨H0, as, ρ, ω, _, st, h, fun x v H1 ⟨ds, e1, h1⟩ s1 st1 dv => by
    subst e1
    obtain ⟨al, rfl, p⟩ := dv
    obtain ⟨dx, fs, i1, i2⟩ := ok.ins ds al H1 p.now
    refine ⟨al, dx, fs, rfl, i1, i2, H0, as, ρ, ω, _, st1, h1, fun xs vs H2 h2 s2 st2 dvs => ?_⟩
    show sp (V.ref al :: (vs ++ [])) H2 Q E
    rw [List.append_nil]
    exact ok.sp (Ow F as) H2 al ds xs vs q Q E (fun p hp => (st2.fresh hp).1) (p.step (Step.of s2)) dvs h2 fun d w H3 hq s3 dw => kk d w H3 hq ((s1.trans s2).trans (SameO.of s3)) (st2.same s3) dw⟩
end
end DL
namespace DL
open PySem PySem.Spec PyProof.Rows L2
section
variable {X : Cx} {F : Fr} {e : Expr} {pos : Pos} {τ : DX}
def dNeg (τ : DX) : DX := fun ρ ω q => τ ρ ω fun d => ∃ i : Int, d = .int i ∧ q (.int (-i))
theorem d_neg (he : PE X e (tD F τ)) : PE X (.UnaryOp .USub e pos) (tD F (dNeg τ)) :=
  PE.wk (pe_un un_neg he) fun σ H Q ⟨H0, as, ρ, ω, q, st, h, k⟩ => ⟨H0, as, ρ, ω, _, st, h, fun d v H1 ⟨i, e1, h1⟩ s1 st1 dv => by
    subst e1
    exact ⟨i, dv, k _ _ H1 h1 s1 st1 rfl⟩⟩
end
end DL

namespace K18
open PySem PySem.Spec PyProof.Rows L2
open DL
def top (i : Nat) : Stmt := PySem.Challenge.pw_lightsout_k18_deeds_in_all_house_rows.main.body.getD i (.Pass ⟨0, 0, 0, 0⟩)
abbrev sIsSeq : Stmt := top 2
abbrev sIsName : Stmt := top 3
abbrev sReplaced : Stmt := top 4
abbrev sChParts : Stmt := top 14
abbrev sIsDoor : Stmt := top 15
abbrev sIsCell : Stmt := top 16
abbrev sChThings : Stmt := top 17
abbrev sNumbers : Stmt := top 18
abbrev sNumOf : Stmt := top 19
abbrev sHouse : Stmt := top 22
abbrev sTurned : Stmt := top 23
abbrev sAsked : Stmt := top 27
abbrev sNumPl : Stmt := top 28
abbrev sPutOff : Stmt := top 30
abbrev sLost : Stmt := top 31
abbrev sAged : Stmt := top 32
abbrev sLoad : Stmt := top 33
abbrev sChange : Stmt := top 34
abbrev sDeed : Stmt := top 35
abbrev sDealt : Stmt := top 37
abbrev sAny : Stmt := top 38
abbrev sOf : Stmt := top 39
abbrev sWith : Stmt := top 40
abbrev sSpot : Stmt := top 41
abbrev sLoaded : Stmt := top 42
abbrev sOff : Stmt := top 43
abbrev sHanded : Stmt := top 44
abbrev sProgram : Stmt := top 45
abbrev sDrawn : Stmt := top 46
abbrev sRow : Stmt := top 47
abbrev sPlaces : Stmt := top 48
abbrev sAllDeeds : Stmt := top 49
abbrev sUnknown : Stmt := top 50
abbrev sLaw : Stmt := top 51
abbrev sInit : Stmt := inClass sHouse 0
abbrev sNumPart : Stmt := inClass sHouse 4
abbrev sNumDoor : Stmt := inClass sHouse 5
abbrev sNumCell : Stmt := inClass sHouse 6
abbrev sCellsIn : Stmt := inClass sHouse 9
structure Nums (mg : Str → Option Value) : Prop where
  len : mg "len" = none
  abs : mg "abs" = none
  int : mg "int" = none
structure Bl (mg : Str → Option Value) : Prop where
  nums : Nums mg
  range : mg "range" = none
  list : mg "list" = none
  tuple : mg "tuple" = none
  isi : mg "isinstance" = none
  enu : mg "enumerate" = none
  str : mg "str" = none
  bool : mg "bool" = none
  all : mg "all" = none
  repr : mg "repr" = none
theorem Bl.len {mg : Str → Option Value} (B : Bl mg) : mg "len" = none := B.nums.len
theorem Bl.abs {mg : Str → Option Value} (B : Bl mg) : mg "abs" = none := B.nums.abs
theorem Bl.int {mg : Str → Option Value} (B : Bl mg) : mg "int" = none := B.nums.int
end K18

/-! what simp knows of data -/
namespace DL
open PySem PySem.Spec PyProof.Rows L2
section
variable {ρ : List Sl} {ω : List D} {q : D → Prop} {qs : List D → Prop} {qb : Bool → Prop} {qo : Option Int → Prop} {τ τa τb : DX} {τs : DXs} {τt τu : DXt} {τl τh : DXo} {ι : DXi} {E : DE} {s1 s2 : DS} {t : DTg} {d x y : D} {i j k : Nat} {R : D → D → (D → Prop) → Prop} {RL : List D → (D → Prop) → Prop} {c : Str}
@[simp] theorem dVar_eq : dVar i ρ ω q = ∃ d, ρ[i]? = some (.dat d) ∧ q d := rfl
@[simp] theorem dC_eq : dC d ρ ω q = q d := rfl
@[simp] theorem dNil_eq : dNil ρ ω qs = qs [] := rfl
@[simp] theorem dCons_eq : dCons τ τs ρ ω qs = τ ρ ω fun d => τs ρ ω fun ds => qs (d :: ds) := rfl
@[simp] theorem dTup_eq : dTup τs ρ ω q = τs ρ ω fun ds => ds.length ≤ sizeLine ∧ q (.tup ds) := rfl
@[simp] theorem dLst_eq : dLst τs ρ ω q = τs ρ ω fun ds => ds.length ≤ sizeLine ∧ q (.lst ds) := rfl
@[simp] theorem dBin_eq : dBin R τa τb ρ ω q = τa ρ ω fun x => τb ρ ω fun y => R x y fun d => q d := rfl
@[simp] theorem dCall_eq : dCall RL τs ρ ω q = τs ρ ω fun xs => RL xs fun d => q d := rfl
@[simp] theorem dTest_eq : dTest τ ρ ω qb = τ ρ ω fun d => ∃ c, d = .bl c ∧ qb c := rfl
@[simp] theorem dAnd_eq : dAnd τt τu ρ ω qb = τt ρ ω fun c => if c = true then τu ρ ω qb else qb false := rfl
@[simp] theorem dOr_eq : dOr τt τu ρ ω qb = τt ρ ω fun c => if c = true then qb true else τu ρ ω qb := rfl
@[simp] theorem dNot_eq : dNot τt ρ ω qb = τt ρ ω fun c => qb (!c) := rfl
@[simp] theorem dIf_eq : dIf τt τa τb ρ ω q = τt ρ ω fun c => if c = true then τa ρ ω q else τb ρ ω q := rfl
@[simp] theorem dAndV_eq : dAndV τa τb ρ ω q = τa ρ ω fun x => ∃ c, x = .bl c ∧ if c = true then τb ρ ω q else q (.bl false) := rfl
@[simp] theorem dOrV_eq : dOrV τa τb ρ ω q = τa ρ ω fun x => ∃ c, x = .bl c ∧ if c = true then q (.bl true) else τb ρ ω q := rfl
@[simp] theorem dNotV_eq : dNotV τ ρ ω q = τ ρ ω fun x => ∃ c, x = .bl c ∧ q (.bl (!c)) := rfl
@[simp] theorem dIsN_eq : dIsN τ ρ ω q = τ ρ ω fun x => x ≠ .any ∧ q (.bl (isNon x)) := rfl
@[simp] theorem dNotN_eq : dNotN τ ρ ω q = τ ρ ω fun x => x ≠ .any ∧ q (.bl (!isNon x)) := rfl
@[simp] theorem dNoPart_eq : dNoPart ρ ω qo = qo none := rfl
@[simp] theorem dPart_eq : dPart τ ρ ω qo = τ ρ ω fun d => ∃ i, d = .int i ∧ qo (some i) := rfl
@[simp] theorem dSl_eq : dSl τ τl τh ρ ω q = τ ρ ω fun x => τl ρ ω fun l => τh ρ ω fun h => ∃ d, sliceD l h x = some d ∧ q d := rfl
@[simp] theorem dSeq_eq : dSeq τ ρ ω qs = τ ρ ω fun d => ∃ xs, seqD d = some xs ∧ qs xs := rfl
@[simp] theorem dRng_eq : dRng τs ρ ω qs = τs ρ ω fun ds => (∃ n : Int, ds = [.int n] ∧ -(2 ^ 62) ≤ n ∧ n < 2 ^ 62 ∧ qs ((List.range n.toNat).map fun i => .int (i : Nat))) := rfl
@[simp] theorem dEnum_eq : dEnum τs ρ ω qs = τs ρ ω fun ds => ∃ d xs, ds = [d] ∧ seqD d = some xs ∧ qs (xs.mapIdx fun i x => .tup [.int (i : Nat), x]) := rfl
@[simp] theorem dStar_eq : dStar τ τs ρ ω qs = τ ρ ω fun d => ∃ xs, seqD d = some xs ∧ τs ρ ω fun ys => qs (xs ++ ys) := rfl
@[simp] theorem dYes_eq : dYes ρ ω qb = qb true := rfl
@[simp] theorem dNeg_eq : dNeg τ ρ ω q = τ ρ ω fun d => ∃ i : Int, d = .int i ∧ q (.int (-i)) := rfl
@[simp] theorem dDGet_eq : dDGet τa τb ρ ω q = τa ρ ω fun x => τb ρ ω fun y => ∃ ks ds k d, x = .dic ks ds ∧ y = .str k ∧ lookD ks ds k = some d ∧ q d := rfl
@[simp] theorem dLenOwn_eq : dLenOwn i ρ ω q = ∃ k ds, ρ[i]? = some (.own k) ∧ ω[k]? = some (.lst ds) ∧ q (.int ds.length) := rfl
@[simp] theorem dCallB_eq {n : Nat} : dCallB i n RL τs ρ ω q = (ρ[i]? = some .box ∧ τs ρ ω fun xs => xs.length = n ∧ RL xs q) := rfl
@[simp] theorem dFld_eq {g : List D → Option D} : dFld c g τ ρ ω q = τ ρ ω fun x => ∃ ds d, x = .obj c ds ∧ g ds = some d ∧ q d := rfl
@[simp] theorem dMeth_eq {Rm : List D → List D → (D → Prop) → Prop} : dMeth c Rm τ τs ρ ω q = τ ρ ω fun x => ∃ ds, x = .obj c ds ∧ τs ρ ω fun xs => Rm ds xs q := rfl
@[simp] theorem dBM_eq {Ty : D → Prop} {Rm : D → List D → (D → Prop) → Prop} : dBM Ty Rm τ τs ρ ω q = τ ρ ω fun x => Ty x ∧ τs ρ ω fun xs => Rm x xs q := rfl
@[simp] theorem dNext_eq : dNext E ρ ω = E.nx ρ ω := rfl
@[simp] theorem dThen_eq : dThen s1 s2 E ρ ω = s1 { E with nx := s2 E } ρ ω := rfl
@[simp] theorem dSet_eq : dSet i τ E ρ ω = τ ρ ω fun d => E.nx (ρ.set i (.dat d)) ω := rfl
@[simp] theorem dAsg_eq : dAsg t τ E ρ ω = τ ρ ω fun d => ∃ ρ', t ρ d = some ρ' ∧ E.nx ρ' ω := rfl
@[simp] theorem dDrop_eq : dDrop τ E ρ ω = τ ρ ω fun _ => E.nx ρ ω := rfl
@[simp] theorem dRet_eq : dRet τ E ρ ω = τ ρ ω fun d => E.rt d := rfl
@[simp] theorem dRetN_eq : dRetN E ρ ω = E.rt .non := rfl
@[simp] theorem dBrk_eq : dBrk E ρ ω = E.bk ρ ω := rfl
@[simp] theorem dCont_eq : dCont E ρ ω = E.ct ρ ω := rfl
@[simp] theorem dIfS_eq : dIfS τt s1 s2 E ρ ω = τt ρ ω fun c => if c = true then s1 E ρ ω else s2 E ρ ω := rfl
@[simp] theorem dNew_eq : dNew i E ρ ω = E.nx (ρ.set i (.own ω.length)) (ω ++ [.lst []]) := rfl
@[simp] theorem dApp_eq : dApp i τ E ρ ω = ∃ k ds, ρ[i]? = some (.own k) ∧ ω[k]? = some (.lst ds) ∧ ds.length < sizeLine ∧ τ ρ ω fun d => E.nx ρ (ω.set k (.lst (ds ++ [d]))) := rfl
@[simp] theorem dGive_eq : dGive i s1 E ρ ω = ∃ k c, ρ[i]? = some (.own k) ∧ ω[k]? = some c ∧ s1 E (ρ.map (given k c)) ω := rfl
@[simp] theorem dPar_eq : dPar i j τs E ρ ω = τs ρ ω fun ds => ∃ x y, ds = [x, y] ∧ E.nx ((ρ.set i (.dat x)).set j (.dat y)) ω := rfl
@[simp] theorem dPar3_eq : dPar3 i j k τs E ρ ω = τs ρ ω fun ds => ∃ x y z, ds = [x, y, z] ∧ E.nx (((ρ.set i (.dat x)).set j (.dat y)).set k (.dat z)) ω := rfl
end
section
variable {a b : Int} {s t : Str} {xs ys : List D} {q : D → Prop} {x y : D} {i j : Nat} {ρ : List Sl} {ts : List DTg} {tt : DTg}
@[simp] theorem le_line {n : Nat} (h : n ≤ 2000) : n ≤ sizeLine := Nat.le_trans h (by decide)
@[simp] theorem lt_line {n : Nat} (h : n < 2000) : n < sizeLine := Nat.lt_of_lt_of_le h (by decide)
@[simp] theorem RAdd_eq : RAdd x y q = ∃ d, addD x y = some d ∧ small d ∧ q d := rfl
@[simp] theorem addD_int : addD (.int a) (.int b) = some (.int (a + b)) := rfl
@[simp] theorem addD_str : addD (.str s) (.str t) = some (.str (s ++ t)) := rfl
@[simp] theorem addD_tup : addD (.tup xs) (.tup ys) = some (.tup (xs ++ ys)) := rfl
@[simp] theorem addD_lst : addD (.lst xs) (.lst ys) = some (.lst (xs ++ ys)) := rfl
@[simp] theorem small_int : small (.int a) = True := rfl
@[simp] theorem small_str : small (.str s) = (s.length ≤ sizeLine) := rfl
@[simp] theorem small_tup : small (.tup xs) = (xs.length ≤ sizeLine) := rfl
@[simp] theorem small_lst : small (.lst xs) = (xs.length ≤ sizeLine) := rfl
@[simp] theorem RI_eq {C : Int → Int → Prop} {g : Int → Int → D} : RI C g x y q = ∃ i j, x = .int i ∧ y = .int j ∧ C i j ∧ q (g i j) := rfl
@[simp] theorem REq_int : REq (.int a) (.int b) q = q (.bl (decide (a = b))) := rfl
@[simp] theorem REq_str : REq (.str s) (.str t) q = q (.bl (decide (s = t))) := rfl
@[simp] theorem REq_bl {a b : Bool} : REq (.bl a) (.bl b) q = q (.bl (decide (a = b))) := rfl
@[simp] theorem RNe_int : RNe (.int a) (.int b) q = (∃ c, D.bl (decide (a = b)) = .bl c ∧ q (.bl (!c))) := rfl
@[simp] theorem RNe_str : RNe (.str s) (.str t) q = (∃ c, D.bl (decide (s = t)) = .bl c ∧ q (.bl (!c))) := rfl
theorem atI_at {α : Type} {l : List α} : atI l (i : Int) = l[i]? := by
  unfold atI ixN
  by_cases h : i < l.length
  · simp [h]
  · have : l[i]? = none := List.getElem?_eq_none (by omega)
    rw [this]
    simp [h]
@[simp] theorem ixD_lst : ixD (.lst xs) (.int a) = atI xs a := rfl
@[simp] theorem ixD_tup : ixD (.tup xs) (.int a) = atI xs a := rfl
@[simp] theorem atI_nat' : atI xs (i : Int) = xs[i]? := atI_at
@[simp] theorem atI_0 : atI xs 0 = xs[0]? := atI_at (i := 0)
@[simp] theorem atI_1 : atI xs 1 = xs[1]? := atI_at (i := 1)
@[simp] theorem atI_2 : atI xs 2 = xs[2]? := atI_at (i := 2)
@[simp] theorem atI_3 : atI xs 3 = xs[3]? := atI_at (i := 3)
@[simp] theorem atI_4 : atI xs 4 = xs[4]? := atI_at (i := 4)
@[simp] theorem sliceD_lst {l h : Option Int} : sliceD l h (.lst xs) = some (.lst (cut xs l h)) := rfl
@[simp] theorem sliceD_tup {l h : Option Int} : sliceD l h (.tup xs) = some (.tup (cut xs l h)) := rfl
theorem cut_to {α : Type} {l : List α} {n : Nat} : cut l none (some (n : Int)) = l.take n := by
  unfold cut HT.sIx
  simp only []
  rw [if_neg (by omega), List.drop_zero, Nat.sub_zero, Int.toNat_natCast]
  by_cases h : n ≤ l.length
  · rw [Nat.min_eq_left h]
  · rw [Nat.min_eq_right (by omega), List.take_length, List.take_of_length_le (by omega)]
theorem cut_from {α : Type} {l : List α} {n : Nat} : cut l (some (n : Int)) none = l.drop n := by
  unfold cut HT.sIx
  simp only []
  rw [if_neg (by omega), Int.toNat_natCast]
  by_cases h : n ≤ l.length
  · rw [Nat.min_eq_left h, List.take_of_length_le (by rw [List.length_drop]; omega)]
  · rw [Nat.min_eq_right (by omega), List.drop_length, List.drop_of_length_le (by omega), List.take_nil]
@[simp] theorem cut_to' : cut xs none (some (i : Int)) = xs.take i := cut_to
@[simp] theorem cut_from' : cut xs (some (i : Int)) none = xs.drop i := cut_from
@[simp] theorem cut_from1 : cut xs (some ((i : Int) + 1)) none = xs.drop (i + 1) := cut_from (n := i + 1)
@[simp] theorem cut_to_1 : cut xs none (some 1) = xs.take 1 := cut_to (n := 1)
@[simp] theorem cut_to_2 : cut xs none (some 2) = xs.take 2 := cut_to (n := 2)
@[simp] theorem cut_to_3 : cut xs none (some 3) = xs.take 3 := cut_to (n := 3)
@[simp] theorem cut_from_1 : cut xs (some 1) none = xs.drop 1 := cut_from (n := 1)
@[simp] theorem cut_from_2 : cut xs (some 2) none = xs.drop 2 := cut_from (n := 2)
@[simp] theorem cut_from_3 : cut xs (some 3) none = xs.drop 3 := cut_from (n := 3)
@[simp] theorem seqD_lst : seqD (.lst xs) = some xs := rfl
@[simp] theorem seqD_tup : seqD (.tup xs) = some xs := rfl
@[simp] theorem lenD_lst : lenD [.lst xs] = some (.int xs.length) := rfl
@[simp] theorem lenD_tup : lenD [.tup xs] = some (.int xs.length) := rfl
@[simp] theorem listD_lst : listD [.lst xs] = some (.lst xs) := rfl
@[simp] theorem listD_tup : listD [.tup xs] = some (.lst xs) := rfl
@[simp] theorem tupleD_lst : tupleD [.lst xs] = some (.tup xs) := rfl
@[simp] theorem tupleD_tup : tupleD [.tup xs] = some (.tup xs) := rfl
@[simp] theorem isNon_non : isNon .non = true := rfl
@[simp] theorem isNon_bl {b : Bool} : isNon (.bl b) = false := rfl
@[simp] theorem isNon_int : isNon (.int a) = false := rfl
@[simp] theorem isNon_str : isNon (.str s) = false := rfl
@[simp] theorem isNon_lst : isNon (.lst xs) = false := rfl
@[simp] theorem isNon_tup : isNon (.tup xs) = false := rfl
@[simp] theorem RIn_eq {neg : Bool} : RIn neg x y q = ∃ u ds us, x.fl = some u ∧ seqD y = some ds ∧ fls ds = some us ∧ q (.bl (if neg = true then !inV u us else inV u us)) := rfl
@[simp] theorem fl_int : (D.int a).fl = some (.int a) := rfl
@[simp] theorem fl_str : (D.str s).fl = some (.str s) := rfl
@[simp] theorem fl_bl {b : Bool} : (D.bl b).fl = some (.bl b) := rfl
@[simp] theorem fl_non : D.non.fl = some .non := rfl
@[simp] theorem fls_nil : fls [] = some [] := rfl
@[simp] theorem fls_cons : fls (x :: xs) = match x.fl, fls xs with
    | some v, some vs => some (v :: vs)
    | _, _ => none := rfl
theorem fls_strs : ∀ l : List Str, fls (l.map D.str) = some (l.map V.str)
  | [] => rfl
  | x :: l => by
    show (match (D.str x).fl, fls (l.map D.str) with
      | some v, some vs => some (v :: vs)
      | _, _ => none) = _
    rw [fls_strs l]
    rfl
theorem fls_ints : ∀ l : List Int, fls (l.map D.int) = some (l.map V.int)
  | [] => rfl
  | x :: l => by
    show (match (D.int x).fl, fls (l.map D.int) with
      | some v, some vs => some (v :: vs)
      | _, _ => none) = _
    rw [fls_ints l]
    rfl
theorem inV_strs {l : List Str} : inV (.str s) (l.map V.str) = decide (s ∈ l) := by
  unfold inV
  rw [Bool.eq_iff_iff]
  simp [eqV]
theorem inV_ints {l : List Int} : inV (.int a) (l.map V.int) = decide (a ∈ l) := by
  unfold inV
  rw [Bool.eq_iff_iff]
  simp [eqV]
@[simp] theorem one2_eq {f : D → D → Option D} : one2 f x y q = ∃ d, f x y = some d ∧ q d := rfl
@[simp] theorem oneL_eq {f : List D → Option D} : oneL f xs q = ∃ d, f xs = some d ∧ q d := rfl
@[simp] theorem inV_nil {u : V} : inV u [] = false := rfl
@[simp] theorem inV_cons {u w : V} {r : List V} : inV u (w :: r) = (eqV w u || inV u r) := rfl
@[simp] theorem eqV_str : eqV (.str s) (.str t) = decide (s = t) := by
  show (s == t) = _
  rw [Bool.eq_iff_iff]
  simp
@[simp] theorem eqV_int : eqV (.int a) (.int b) = decide (a = b) := by
  show (a == b) = _
  rw [Bool.eq_iff_iff]
  simp
@[simp] theorem tgN_eq : tgN i ρ x = some (ρ.set i (.dat x)) := rfl
@[simp] theorem tgT_eq : tgT ts ρ (.tup xs) = tgs ts ρ xs := rfl
@[simp] theorem tgs_nil : tgs [] ρ [] = some ρ := rfl
@[simp] theorem tgs_cons : tgs (tt :: ts) ρ (x :: xs) = (tt ρ x).bind fun ρ' => tgs ts ρ' xs := rfl
@[simp] theorem startD_eq {N : List Str} : startD N xs = xs.map Sl.dat ++ List.replicate (N.length - xs.length) .any := rfl
@[simp] theorem startB_eq {N : List Str} : startB N xs = .box :: xs.map Sl.dat ++ List.replicate (N.length - (xs.length + 1)) .any := rfl
@[simp] theorem given_own {k l : Nat} : given k x (.own l) = if l = k then .dat x else .own l := rfl
@[simp] theorem given_dat {k : Nat} : given k y (.dat x) = .dat x := rfl
@[simp] theorem given_any {k : Nat} : given k x .any = .any := rfl
@[simp] theorem given_box {k : Nat} : given k x .box = .box := rfl
@[simp] theorem isLst_eq : isLst (.lst xs) = True := rfl
end
end DL

namespace K18
open PySem PySem.Spec PyProof.Rows L2
open DL
/-! ### rows of things with another one at a place -/
section
variable {P : Program} {w : World} {mg : Str → Option Value} {base : Heap} {G : DG} {f : Addr} {fd : FuncData}
theorem line : (2000 : Nat) ≤ sizeLine := by decide
theorem set_cut {α : Type} {xs : List α} {i : Nat} {v : α} (h : i < xs.length) : xs.take i ++ v :: xs.drop (i + 1) = xs.set i v := (List.set_eq_take_append_cons_drop ▸ by rw [if_pos h])
def RWith : List D → (D → Prop) → Prop := fun xs q => ∃ (ys : List D) (i : Nat) (v : D), xs = [.tup ys, .int i, v] ∧ i < ys.length ∧ ys.length ≤ 1000 ∧ q (.tup (ys.set i v))
@[simp] theorem RWith_eq {ys : List D} {i : Nat} {v : D} {q : D → Prop} : RWith [.tup ys, .int i, v] q = (i < ys.length ∧ ys.length ≤ 1000 ∧ q (.tup (ys.set i v))) := by
  refine propext ⟨fun ⟨ys', i', v', e, h⟩ => ?_, fun h => ⟨ys, i, v, rfl, h⟩⟩
  simp only [List.cons.injEq, D.tup.injEq, D.int.injEq, and_true] at e
  obtain ⟨rfl, e, rfl⟩ := e
  obtain rfl : i = i' := by omega
  exact h
abbrev NWi : List Str := ["_law_items", "_law_at", "_law_value"]
theorem scWi : FnScope NWi ["_law_items", "_law_at", "_law_value"] (defScope sWith) := ⟨rfl, rfl, rfl, by decide +kernel, rfl, by decide +kernel, by decide +kernel⟩
theorem ok_with (F : Fun G.K "_law_with" "_law_with" sWith f fd) (B : Bl mg) : FnOk P w G.K mg base CX0 1 f fd ["_law_items", "_law_at", "_law_value"] (spP G 3 RWith) :=
  okP F scWi (fun O cdv A outer s H E hr => by
    have un := hr.units
    exact (ds_one (ds_ret (d_op op_addA abs_add (d_op op_addA abs_add (d_slice (dv 0) dp_none (dp_some (dv 1))) (d_tup (da_cons (dv 2) da_nil))) (d_slice (dv 0) (dp_some (d_op op_addA abs_add (dv 1) d_int)) dp_none))))) (fun xs q l r => by
    obtain ⟨ys, i, v, rfl, hi, hl, k⟩ := r
    have := line
    rw [← set_cut hi] at k
    simp
    exact ⟨by omega, by omega, k⟩)
abbrev NRe : List Str := ["row", "at", "value"]
theorem scRe : FnScope NRe ["row", "at", "value"] (defScope sReplaced) := ⟨rfl, rfl, rfl, by decide +kernel, rfl, by decide +kernel, by decide +kernel⟩
theorem ok_replaced (F : Fun G.K "replaced" "replaced" sReplaced f fd) (B : Bl mg) : FnOk P w G.K mg base CX0 1 f fd ["row", "at", "value"] (spP G 3 RWith) :=
  okP F scRe (fun O cdv A outer s H E hr => by
    have un := hr.units
    exact (ds_one (ds_ret (d_op op_addA abs_add (d_op op_addA abs_add (d_slice (dv 0) dp_none (dp_some (dv 1))) (d_tup (da_cons (dv 2) da_nil))) (d_slice (dv 0) (dp_some (d_op op_addA abs_add (dv 1) d_int)) dp_none))))) (fun xs q l r => by
    obtain ⟨ys, i, v, rfl, hi, hl, k⟩ := r
    have := line
    rw [← set_cut hi] at k
    simp
    exact ⟨by omega, by omega, k⟩)
/-! the row with a door turned -/
def RTurned : List D → (D → Prop) → Prop := fun xs q => ∃ (ds : List D) (rest : List D) (i : Nat) (b : Bool), xs = [.tup (.tup ds :: rest), .int i, .bl b] ∧ i < ds.length ∧ ds.length ≤ 1000 ∧ rest.length ≤ 10 ∧ q (.tup (.tup (ds.set i (.bl b)) :: rest))
@[simp] theorem RTurned_eq {ds rest : List D} {i : Nat} {b : Bool} {q : D → Prop} : RTurned [.tup (.tup ds :: rest), .int i, .bl b] q = (i < ds.length ∧ ds.length ≤ 1000 ∧ rest.length ≤ 10 ∧ q (.tup (.tup (ds.set i (.bl b)) :: rest))) := by
  refine propext ⟨fun ⟨ys', r', i', v', e, h⟩ => ?_, fun h => ⟨ds, rest, i, b, rfl, h⟩⟩
  simp only [List.cons.injEq, D.tup.injEq, D.int.injEq, D.bl.injEq, and_true] at e
  obtain ⟨⟨rfl, rfl⟩, e, rfl⟩ := e
  obtain rfl : i = i' := by omega
  exact h
abbrev NTu : List Str := ["row", "door", "is_open"]
theorem scTu : FnScope NTu ["row", "door", "is_open"] (defScope sTurned) := ⟨rfl, rfl, rfl, by decide +kernel, rfl, by decide +kernel, by decide +kernel⟩
theorem ok_turned (F : Fun G.K "turned" "turned" sTurned f fd) (B : Bl mg) (cRepl : Callee P w G.K mg base "replaced" 1 ["row", "at", "value"] (spP G 3 RWith)) : FnOk P w G.K mg base CX0 2 f fd ["row", "door", "is_open"] (spP G 3 RTurned) :=
  okP F scTu (fun O cdv A outer s H E hr => by
    have un := hr.units
    exact (ds_one (ds_ret (d_tup (da_cons (d_call cRepl (hr.mono (by decide)) (by rfl) (da_cons (d_ix (dv 0) d_int) (da_cons (dv 1) (da_cons (dv 2) da_nil)))) (da_star (d_slice (dv 0) (dp_some d_int) dp_none) da_nil)))))) (fun xs q l r => by
    obtain ⟨ds, rest, i, b, rfl, hi, hl, hr, k⟩ := r
    have := line
    simp
    exact ⟨hi, hl, by omega, k⟩)
abbrev NAs : List Str := ["told"]
theorem scAs : FnScope NAs ["told"] (defScope sAsked) := ⟨rfl, rfl, rfl, by decide +kernel, rfl, by decide +kernel, by decide +kernel⟩
def RAsked : List D → (D → Prop) → Prop := fun xs q => ∃ a b : Str, xs = [.tup [.str a, .str b]] ∧ q (if a = "drain" ∨ a = "off" then .str b else .non)
@[simp] theorem RAsked_eq {a b : Str} {q : D → Prop} : RAsked [.tup [.str a, .str b]] q = q (if a = "drain" ∨ a = "off" then .str b else .non) := by
  refine propext ⟨fun ⟨a', b', e, h⟩ => ?_, fun h => ⟨a, b, rfl, h⟩⟩
  cases e
  exact h
theorem ok_asked (F : Fun G.K "asked_empty" "asked_empty" sAsked f fd) (B : Bl mg) : FnOk P w G.K mg base CX0 1 f fd ["told"] (spP G 1 RAsked) :=
  okP F scAs (fun O cdv A outer s H E hr => by
    have un := hr.units
    exact (ds_one (ds_ret (d_if (d_tcmp op_in_seq abs_in (d_ix (dv 0) d_int) (d_tup (da_cons d_str (da_cons d_str da_nil))) (by rfl)) (d_ix (dv 0) d_int) d_non)))) (fun xs q l r => by
    obtain ⟨a, b, rfl, k⟩ := r
    simp
    by_cases h : a = "drain" ∨ a = "off"
    · rw [if_pos h] at k
      exact .inr ⟨h.imp Eq.symm Eq.symm, k⟩
    · rw [if_neg h] at k
      exact .inl ⟨⟨fun z => h (.inl z.symm), fun z => h (.inr z.symm)⟩, k⟩)
end
/-! ### rows, places -/
def bolD (l : List Bool) : D := .tup (l.map D.bl)
def numD (l : List Int) : D := .tup (l.map D.int)
structure Row where
  dr : List Bool
  li : List Bool
  va : List Int
  sa : List Int
  te : List Int
def Row.d (r : Row) : D := .tup [bolD r.dr, bolD r.li, numD r.va, numD r.sa, numD r.te]
/-- as many as the house has, and numbers that may stand -/
structure Row.Ok (r : Row) (nd np nc : Nat) : Prop where
  dr : r.dr.length = nd
  li : r.li.length = np
  va : r.va.length = nc
  sa : r.sa.length = nc
  te : r.te.length = nc
  v2 : ∀ v, v ∈ r.va → 0 ≤ v ∧ v ≤ 2
  s2 : ∀ v, v ∈ r.sa → 0 ≤ v ∧ v ≤ 2
  t4 : ∀ v, v ∈ r.te → 0 ≤ v ∧ v ≤ 4
abbrev Pk := Option (Int × Int × Bool)
def pkd : Pk → D
  | none => .non
  | some (c, v, o) => .tup [.int c, .int v, .bl o]
structure Pl where
  k : Int
  at_ : Int
  wh : Int
  po : Pk
def Pl.d (p : Pl) : D := .tup [.int p.k, .int p.at_, .int p.wh, pkd p.po]
/-- the number there -/
def at0 (l : List Int) (i : Nat) : Int := l.getD i 0
def loadT (v t : Int) : Int := if 2 < t then (if t = v + 2 then v else t) else if t = v then t else 0
def load (r : Row) (c : Nat) : Row := { r with va := r.va.set c (at0 r.sa c), te := r.te.set c (loadT (at0 r.sa c) (at0 r.te c)) }
theorem num_get {l : List Int} {i : Nat} (h : i < l.length) : (l.map D.int)[i]? = some (.int (at0 l i)) := by
  unfold at0
  rw [List.getElem?_map, List.getElem?_eq_getElem h, List.getD_eq_getElem?_getD, List.getElem?_eq_getElem h]
  rfl
theorem bol_get {l : List Bool} {i : Nat} (h : i < l.length) : (l.map D.bl)[i]? = some (.bl (l.getD i false)) := by
  rw [List.getElem?_map, List.getElem?_eq_getElem h, List.getD_eq_getElem?_getD, List.getElem?_eq_getElem h]
  rfl
theorem getD_mem {α : Type} {l : List α} {i : Nat} {d : α} (h : i < l.length) : l.getD i d ∈ l := by
  rw [List.getD_eq_getElem?_getD, List.getElem?_eq_getElem h]
  exact List.getElem_mem h
theorem num_set {l : List Int} {i : Nat} {v : Int} : (l.map D.int).set i (.int v) = (l.set i v).map D.int := List.map_set.symm
theorem bol_set {l : List Bool} {i : Nat} {v : Bool} : (l.map D.bl).set i (.bl v) = (l.set i v).map D.bl := List.map_set.symm
theorem set_same {l : List Int} {i : Nat} (h : i < l.length) : l.set i (at0 l i) = l := by
  unfold at0
  rw [List.getD_eq_getElem?_getD, List.getElem?_eq_getElem h]
  exact List.set_getElem_self h
def RLoad : List D → (D → Prop) → Prop := fun xs q => ∃ (r : Row) (c nd np nc : Nat), xs = [r.d, .int c] ∧ r.Ok nd np nc ∧ nc ≤ 10 ∧ c < nc ∧ q (load r c).d
section
variable {P : Program} {w : World} {mg : Str → Option Value} {base : Heap} {G : DG} {f : Addr} {fd : FuncData}
abbrev NLd : List Str := ["_law_row_here", "_law_cell", "_law_doors", "_law_lights", "_law_values", "_law_saved", "_law_told", "_law_value", "_law_flag"]
theorem scLd : FnScope NLd ["_law_row_here", "_law_cell"] (defScope sLoaded) := ⟨rfl, rfl, rfl, by decide +kernel, rfl, by decide +kernel, by decide +kernel⟩
theorem ok_loaded (F : Fun G.K "_law_loaded" "_law_loaded" sLoaded f fd) (B : Bl mg) (cWith : Callee P w G.K mg base "_law_with" 1 ["_law_items", "_law_at", "_law_value"] (spP G 3 RWith)) : FnOk P w G.K mg base CX0 2 f fd ["_law_row_here", "_law_cell"] (spP G 2 RLoad) :=
  okP F scLd (fun O cdv A outer s H E hr => by
    have un := hr.units
    exact (ds_cons (ds_asg (dv 0) (pg_tup rfl (pgs_cons (pg_name (i := 2) scLd.nd rfl (Or.inl rfl)) (pgs_cons (pg_name (i := 3) scLd.nd rfl (Or.inl rfl)) (pgs_cons (pg_name (i := 4) scLd.nd rfl (Or.inl rfl)) (pgs_cons (pg_name (i := 5) scLd.nd rfl (Or.inl rfl)) (pgs_cons (pg_name (i := 6) scLd.nd rfl (Or.inl rfl)) pgs_nil)))))) (to_tup rfl (to_cons to_name (to_cons to_name (to_cons to_name (to_cons to_name (to_cons to_name to_nil)))))))
 (ds_cons (ds_par (i := 7) (j := 8) rfl scLd.nd rfl rfl (by decide) rfl rfl (da_cons (d_ix (dv 5) (dv 1)) (da_cons (d_ix (dv 6) (dv 1)) da_nil)) (by rfl))
 (ds_cons (ds_if (d_tcmp op_gt abs_cmp0 (dv 8) d_int (nomark _))
 (ds_one (ds_set (i := 8) scLd.nd rfl (Or.inl rfl) (d_if (d_tcmp (op_eqA un) abs_eq (dv 8) (d_op op_addA abs_add (dv 7) d_int) (nomark _)) (dv 7) (dv 8))))
 (ds_one (ds_if (d_tcmp (op_neA un) abs_ne (dv 8) (dv 7) (nomark _))
 (ds_one (ds_set (i := 8) scLd.nd rfl (Or.inl rfl) d_int))
 ds_nil)))
 (ds_one (ds_ret (d_tup (da_cons (dv 2) (da_cons (dv 3) (da_cons (d_call cWith (hr.mono (by decide)) (by rfl) (da_cons (dv 4) (da_cons (dv 1) (da_cons (dv 7) da_nil)))) (da_cons (dv 5) (da_cons (d_call cWith (hr.mono (by decide)) (by rfl) (da_cons (dv 6) (da_cons (dv 1) (da_cons (dv 8) da_nil)))) da_nil)))))))))))) (fun xs q l r => by
    obtain ⟨r, c, nd, np, nc, rfl, ok, n10, hc, k⟩ := r
    have h1 : c < r.sa.length := by rw [ok.sa]; exact hc
    have h2 : c < r.te.length := by rw [ok.te]; exact hc
    have h3 : c < r.va.length := by rw [ok.va]; exact hc
    have l2 := ok.te
    have l3 := ok.va
    simp [Row.d, bolD, numD, num_get h1, num_get h2, num_get h3, and_assoc]
    rw [l3, l2]
    have e : (load r c).d = .tup [.tup (r.dr.map D.bl), .tup (r.li.map D.bl), .tup ((r.va.set c (at0 r.sa c)).map D.int), .tup (r.sa.map D.int), .tup ((r.te.set c (loadT (at0 r.sa c) (at0 r.te c))).map D.int)] := rfl
    rw [e] at k
    rw [List.map_set, List.map_set] at k
    unfold loadT at k
    have n3 : nc ≤ 1000 := by omega
    split at k <;> split at k <;> grind)
abbrev NLo : List Str := ["row", "cell", "doors", "lights", "worth", "saved", "tales", "value", "stands"]
theorem scLo : FnScope NLo ["row", "cell"] (defScope sLoad) := ⟨rfl, rfl, rfl, by decide +kernel, rfl, by decide +kernel, by decide +kernel⟩
theorem ok_load (F : Fun G.K "_load" "_load" sLoad f fd) (B : Bl mg) (cRepl : Callee P w G.K mg base "replaced" 1 ["row", "at", "value"] (spP G 3 RWith)) : FnOk P w G.K mg base CX0 2 f fd ["row", "cell"] (spP G 2 RLoad) :=
  okP F scLo (fun O cdv A outer s H E hr => by
    have un := hr.units
    exact (ds_cons (ds_asg (dv 0) (pg_tup rfl (pgs_cons (pg_name (i := 2) scLo.nd rfl (Or.inl rfl)) (pgs_cons (pg_name (i := 3) scLo.nd rfl (Or.inl rfl)) (pgs_cons (pg_name (i := 4) scLo.nd rfl (Or.inl rfl)) (pgs_cons (pg_name (i := 5) scLo.nd rfl (Or.inl rfl)) (pgs_cons (pg_name (i := 6) scLo.nd rfl (Or.inl rfl)) pgs_nil)))))) (to_tup rfl (to_cons to_name (to_cons to_name (to_cons to_name (to_cons to_name (to_cons to_name to_nil)))))))
 (ds_cons (ds_set (i := 7) scLo.nd rfl (Or.inl rfl) (d_ix (dv 5) (dv 1)))
 (ds_cons (ds_set (i := 8) scLo.nd rfl (Or.inl rfl) (d_and (d_cmp op_gt abs_cmp0 (dv 7) d_int (nomark _)) (d_one (d_cmp op_in_seq abs_in (d_ix (dv 6) (dv 1)) (d_tup (da_cons (dv 7) (da_cons (d_op op_addA abs_add (dv 7) d_int) da_nil))) (by rfl)))))
 (ds_cons (ds_if (PW.pt (dw_or (d_tcmp op_lt abs_cmp0 (d_ix (dv 6) (dv 1)) d_int (nomark _)) (dw_or1 (d_tval (dv 8)))))
 (ds_one (ds_set (i := 6) scLo.nd rfl (Or.inl rfl) (d_call cRepl (hr.mono (by decide)) (by rfl) (da_cons (dv 6) (da_cons (dv 1) (da_cons (d_if (d_tval (dv 8)) (dv 7) d_int) da_nil))))))
 ds_nil)
 (ds_one (ds_ret (d_tup (da_cons (dv 2) (da_cons (dv 3) (da_cons (d_call cRepl (hr.mono (by decide)) (by rfl) (da_cons (dv 4) (da_cons (dv 1) (da_cons (dv 7) da_nil)))) (da_cons (dv 5) (da_cons (dv 6) da_nil))))))))))))) (fun xs q l r => by
    obtain ⟨r, c, nd, np, nc, rfl, ok, n10, hc, k⟩ := r
    have h1 : c < r.sa.length := by rw [ok.sa]; exact hc
    have h2 : c < r.te.length := by rw [ok.te]; exact hc
    have h3 : c < r.va.length := by rw [ok.va]; exact hc
    have l2 := ok.te
    have l3 := ok.va
    have b1 : 0 ≤ at0 r.sa c ∧ at0 r.sa c ≤ 2 := ok.s2 _ (getD_mem (d := 0) h1)
    have b2 : 0 ≤ at0 r.te c ∧ at0 r.te c ≤ 4 := ok.t4 _ (getD_mem (d := 0) h2)
    simp [Row.d, bolD, numD, num_get h1, num_get h2, num_get h3, and_assoc]
    rw [l3, l2]
    have e : (load r c).d = .tup [.tup (r.dr.map D.bl), .tup (r.li.map D.bl), .tup ((r.va.set c (at0 r.sa c)).map D.int), .tup (r.sa.map D.int), .tup ((r.te.set c (loadT (at0 r.sa c) (at0 r.te c))).map D.int)] := rfl
    rw [e] at k
    rw [List.map_set, List.map_set] at k
    have n3 : nc ≤ 1000 := by omega
    have same : (List.map D.int r.te).set c (D.int (at0 r.te c)) = List.map D.int r.te := by rw [← List.map_set, set_same h2]
    clear e ok l2 l3 h1 h2 h3
    unfold loadT at k
    generalize (List.map D.int r.te) = TE at *
    generalize (List.map D.int r.va) = VA at *
    generalize at0 r.sa c = v at *
    generalize at0 r.te c = t at *
    split at k <;> split at k <;> grind)
end
end K18

/-! a static method, called on its class -/
namespace Stc
open PySem PySem.Spec PyProof.Rows L2
/-- C.m is a staticmethod: its record at p, its def at g -/
structure SMet (K : PySem.W.Frag) (C : Addr) (mc : Value) (m : Str) (p g : Addr) : Prop where
  at_ : PySem.W.findCls K (.ref C) mc m = some (.get (.builtin "staticmethod.__get__") (.ref p) .none (.ref C))
  rc : ∃ rest, PySem.W.recIn K p "staticmethod" = some (.ref g :: rest)
  kp : PySem.W.keepIn K (.ref g) = true
section
variable {X : Cx} {pins : List (Addr × Obj)} {σ : L2.St} {H : Hp} {s : Shared} {C p g : Addr} {mc : Value} {m : Str} {A : Around} {E : Value → Shared → Prop}
theorem getmethsm_ok {pl : Sem Bool} {Q : Value × List Value → Shared → Prop} (I : Inv X pins σ H s) (r : ClX.CRead X.K C mc) (k : SMet X.K C mc m p g)
    (h : ∀ s', Inv X pins σ H s' → Q (.ref g, []) s') : wpAny (model X.prog X.w) A (getMethod (.ref C) m pl) Q E s := by
  obtain ⟨rest, hp⟩ := k.rc
  refine PySem.W.method_cls I.kIn r.ga (PySem.W.cls_bind I.kIn r.rd k.at_ ?_)
  refine wpAny_call (PySem.W.sm_get (s := { s with toks := s.toks + 1 }) I.kIn hp (PySem.W.handed_on rfl ?_))
  exact h _ (I.tok _)
end
/-- C.m(..), m a static method -/
def tSMeth (C : Addr) (sp : Sp) (E : XK) (ta : TE) (t : TA) : TE := fun σ H Q => ta σ H fun x H1 => x = .ref C ∧ t σ H1 fun vs H2 => sp vs H2 Q E
def tSMethK (C : Addr) (sp : Sp) (gV : List V → List V → List V) (E : XK) (ta : TE) (t : TA) : TE := fun σ H Q => ta σ H fun x H1 => x = .ref C ∧ t σ H1 fun zs H2 => sp (gV [] zs) H2 Q E
section
variable {X : Cx} {CX : CXT} {k : Nat} {C p g : Addr} {mc : Value} {sp : Sp} {E : XK} {o e : Expr} {es : List Expr} {m : Str} {pos apos : Pos} {ta : TE} {t : TA} {pl : Sem Bool} {fd : FuncData} {ps ks : List Str}
theorem pe_smeth (he : PE X o ta) (r : ClX.CRead X.K C mc) (c : SMet X.K C mc m p g) (F : FnOk X.prog X.w X.K X.mg X.base CX k g fd ps sp) (hr : Room k X.A) (hb : Binds X.K fd ps []) (hx : Passes CX X E) (ha : PA X (e :: es) t)
    (hst : starEach (e :: es) X.env = (false, eval e X.env) :: starEach es X.env := by rfl) (hpl : (backTo pos (starEach es X.env)).any (·.1) = false := by rfl)
    (ht : eval (.Call (.Attribute o m apos) (e :: es) [] pos) X.env = (do
      let ov ← eval o X.env
      standAt apos.atName
      let (f, first) ← holding [ov] (getMethod ov m pl)
      callWith pos f first (backTo pos (starEach (e :: es) X.env)) (backToKw pos (keywordEach [] X.env))) := by rfl) :
    PE X (.Call (.Attribute o m apos) (e :: es) [] pos) (tSMeth C sp E ta t) := by
  refine ⟨fun pins s σ H Q I h => ?_⟩
  refine PySem.W.methodCall_KW (pl := pl) (thn (he.run pins s σ H _ I h) fun u s1 ⟨x, H1, I1, rx, ex, q⟩ => ?_) ht
  subst ex
  obtain rfl : u = Value.ref C := rx
  refine getmethsm_ok I1 r c fun s2 I2 => ?_
  refine PySem.W.callWith_K (h₀ := X.base) I.ok.mod.kin c.kp (thn (ha.run pos pins s2 σ H1 _ I2 q) fun us s3 ⟨vs, H2, I3, rv, q2⟩ => ⟨I3.kIn, ?_⟩) hst hpl
  exact run_fn F hr hb .nil hx I3 rv (by rw [List.append_nil]; exact q2)
theorem pe_smethK {g' : List Value → List Value → List Value} {gV : List V → List V → List V} {kws : List Keyword} (he : PE X o ta) (r : ClX.CRead X.K C mc) (c : SMet X.K C mc m p g) (F : FnOk X.prog X.w X.K X.mg X.base CX k g fd ps sp) (hr : Room k X.A) (hb : KBinds X.K fd ps ks g' gV) (hx : Passes CX X E) (hk : PK X kws t)
    (hall : (backToKw pos (keywordEach kws X.env)).all (·.1.isSome) = true := by rfl) (hks : (backToKw pos (keywordEach kws X.env)).filterMap (·.1) = ks := by rfl)
    (hpl : ((backTo pos (starEach [] X.env)).any (·.1) || (backToKw pos (keywordEach kws X.env)).any (·.1.isNone)) = false := by rfl)
    (ht : eval (.Call (.Attribute o m apos) [] kws pos) X.env = (do
      let ov ← eval o X.env
      standAt apos.atName
      let (f, first) ← holding [ov] (getMethod ov m pl)
      callWith pos f first (backTo pos (starEach [] X.env)) (backToKw pos (keywordEach kws X.env))) := by rfl) :
    PE X (.Call (.Attribute o m apos) [] kws pos) (tSMethK C sp gV E ta t) := by
  refine ⟨fun pins s σ H Q I h => ?_⟩
  refine PySem.W.methodCall_KW (pl := pl) (thn (he.run pins s σ H _ I h) fun u s1 ⟨x, H1, I1, rx, ex, q⟩ => ?_) ht
  subst ex
  obtain rfl : u = Value.ref C := rx
  refine getmethsm_ok I1 r c fun s2 I2 => ?_
  refine PySem.W.callWith_KW0 (h₀ := X.base) I.ok.mod.kin c.kp hall ?_ hpl
  refine thn (hk.run pos pins s2 σ H1 (fun zs H2 => sp (gV [] zs) H2 Q E) I2 q) fun ws s3 ⟨zs, H2, I3, rz, q2⟩ => ⟨I3.kIn, ?_⟩
  rw [hks]
  exact run_fnk F hr hb hx I3 .nil rz q2
end
end Stc

/-! The law's own def at its caller, where lambdas are made: tables of code objects that grow. -/
namespace Cal
open PySem PySem.Spec PyProof.Rows L2

/-- the tables, empty as the top left them -/
structure Tbl0 (K : W.Frag) (h : Heap) (p : Addr × Addr) : Prop where
  tab : h.get? p.2 = some (W.tabObj #[])
  out : K.lookup p.2 = none
  hd : W.CodeHd h p.1 p.2

theorem wonT {P : Program} {w : World} {K : W.Frag} {mg mb : Str → Option Value} {fa a : Addr} {s : Shared} {vs : List Value} {ns : List Int} {cs : List (Addr × Addr)}
    (kIn : K.In s.heap) (glo : s.heap.Ns mainGlobals mg) (bns : s.heap.Ns builtinsNs mb) (bbo : ∀ x : Str, x ≠ "__name__" → mb x = bootBuiltins x)
    (lim : s.heap.NoLimit) (gen : s.gens = #[]) (obj : s.heap.get? a = some { cls := .type "list", data := .seq vs.toArray })
    (its : IntsAre vs ns) (few : ns.length ≤ sizeLine) (tabs : ∀ p ∈ cs, Tbl0 K s.heap p)
    (bmain : ∃ (bm : Addr) (ob : Obj), mg "__builtins__" = some (.ref bm) ∧ bm ≠ builtinsNs ∧ s.heap.get? bm = some ob ∧ ob.cls = .type "module" ∧ ob.dict = some builtinsNs ∧ ob.data = .plain)
    (run : ∀ (base : Heap) (H : Hp), K.In base → base.Ns mainGlobals mg → (∀ p ∈ cs, LamX.TabB base mg p.1 p.2) → Env0 P w K mg base callerA [] s H → (∀ p ∈ cs, H p.2 = some (.tbl #[])) → SqL K H a (ns.map V.int) →
      codeAny (model P w) callerA (.call (.ref fa) ⟨[.ref a], []⟩) (CR CX0 [] P w H s (fun v _ => v = .bl true) E0) s) :
    Won P w s fa a := by
  have vals := vals_ints its
  have size := its.length
  have isT : ∀ b, b ∈ cs.map (·.2) → s.heap.get? b = some (W.tabObj #[]) ∧ K.lookup b = none := fun b hb => by
    obtain ⟨p, hp, rfl⟩ := List.mem_map.mp hb
    exact ⟨(tabs p hp).tab, (tabs p hp).out⟩
  have aT : a ∉ cs.map (·.2) := fun z => by
    have q := (isT a z).1
    rw [obj] at q
    exact nomatch (congrArg Obj.data (Option.some.inj q))
  -- H0: what is tracked but for the tables
  suffices main : ∀ H0 : Hp, Only H0 → (∀ b, H0 b ≠ none → b = a ∧ K.lookup a = none) → (K.lookup a = none → ∃ o, H0 a = some (.frz o (.lst (ns.map V.int)))) → (∀ b u, H0 b = some u → ObjOk P w (fun c => if c ∈ cs.map (·.2) then some (.tbl #[]) else H0 c) s.heap b u) → Won P w s fa a by
    cases look : K.lookup a with
    | some o => exact main (fun _ => none) (fun _ => .inl rfl) (fun b z => (z rfl).elim) (fun z => by rw [look] at z; cases z) (fun b u z => nomatch z)
    | none =>
      refine main (fun b => if b = a then some (.frz { cls := .type "list", data := .seq vs.toArray } (.lst (ns.map V.int))) else none) (fun b => ?_) (fun b z => ?_) (fun _ => ⟨_, if_pos rfl⟩) (fun b u z => ?_)
      · by_cases e : b = a
        · exact .inr ⟨_, _, if_pos e⟩
        · exact .inl (if_neg e)
      · by_cases e : b = a
        · exact ⟨e, look⟩
        · exact (z (if_neg e)).elim
      · by_cases e : b = a
        · rw [if_pos e] at z
          obtain rfl := Option.some.inj z
          rw [e]
          exact ⟨obj, by simpa using few, vs, _, vals, obj⟩
        · rw [if_neg e] at z
          cases z
  intro H0 only here there ok0
  generalize eH : (fun c => if c ∈ cs.map (·.2) then some (.tbl #[]) else H0 c) = H at ok0
  have inT : ∀ {b}, b ∈ cs.map (·.2) → H b = some (.tbl #[]) := fun {b} hb => by rw [← eH]; exact if_pos hb
  have offT : ∀ {b}, b ∉ cs.map (·.2) → H b = H0 b := fun {b} hb => by rw [← eH]; exact if_neg hb
  have tbl : ∀ p ∈ cs, H p.2 = some (.tbl #[]) := fun p hp => inT (List.mem_map.mpr ⟨p, hp, rfl⟩)
  have ok : HOk P w H s.heap := fun b u z => by
    by_cases hb : b ∈ cs.map (·.2)
    · rw [inT hb] at z
      obtain rfl := Option.some.inj z
      exact (isT b hb).1
    · exact ok0 b u ((offT hb).symm.trans z)
  have sq : SqL K H a (ns.map V.int) := by
    cases look : K.lookup a with
    | some o =>
      have o2 := kIn a o look
      rw [obj] at o2
      obtain rfl := Option.some.inj o2
      exact .inr ⟨_, vs.toArray, _, look, rfl, rfl, rfl, by simpa [size] using few, by simpa using vals⟩
    | none =>
      obtain ⟨o, e⟩ := there look
      exact .inl (.inr ⟨o, (offT aT).trans e⟩)
  have free : ∀ {b : Addr} {o : Obj}, s.heap.get? b = some o → o.data ≠ .seq vs.toArray → o.data ≠ .fields #[] → H b = none := fun {b o} e d d2 => by
    by_cases hb : b ∈ cs.map (·.2)
    · have := (isT b hb).1
      rw [e] at this
      obtain rfl := Option.some.inj this
      exact (d2 rfl).elim
    · rw [offT hb]
      rcases only b with z | ⟨_, _, z⟩
      · exact z
      · obtain ⟨rfl, _⟩ := here b (by rw [z]; simp)
        rw [obj] at e
        obtain rfl := Option.some.inj e
        exact (d rfl).elim
  have kfree : ∀ {b : Addr} {o : Obj}, K.lookup b = some o → H b = none := fun {b o} e => by
    by_cases hb : b ∈ cs.map (·.2)
    · rw [(isT b hb).2] at e
      cases e
    · rw [offT hb]
      rcases only b with z | ⟨_, _, z⟩
      · exact z
      · obtain ⟨rfl, n⟩ := here b (by rw [z]; simp)
        rw [n] at e
        cases e
  have space : ∀ {b : Addr} {m : Str → Option Value}, s.heap.Ns b m → (hidT s.heap H).Ns b m := fun {b m} ⟨o, es, ep, e, d, r⟩ =>
    ⟨o, es, ep, hidT_get e (free e (by rw [d]; intro z; cases z) (by rw [d]; intro z; cases z)), d, r⟩
  have kIn2 : K.In (hidT s.heap H) := fun b o e => hidT_get (kIn b o e) (kfree e)
  obtain ⟨mc, l1, l2⟩ := lim
  have env : Env0 P w K mg (hidT s.heap H) callerA [] s H := {
    frames := rfl
    mod := ⟨kIn2, space glo, ⟨mb, space bns, bbo⟩, ⟨mc, space l1, l2⟩⟩
    bs := fun b o e => of_hidT e
    bsz := Nat.le_of_eq (hidT_size _ _)
    funs := trivial
    frf := fun b hb => by simp [frs] at hb
    hok := ok
    bare := .of_eq gen }
  have TB : ∀ p ∈ cs, LamX.TabB (hidT s.heap H) mg p.1 p.2 := fun p hp => by
    have t := tabs p hp
    refine ⟨?_, ?_, fun z => ?_⟩
    · obtain ⟨o, us, file, tf, flags, tg, inF, text, tt, e1, r1, r2, r3, r⟩ := t.hd
      refine ⟨o, us, file, tf, flags, tg, inF, text, tt, hidT_get e1 (free e1 (fun z => ?_) fun z => ?_), r1, r2, r3, r⟩ <;> rw [r2] at z
      · cases z
      · cases z
        simp at r3
    · obtain ⟨bm, ob, b1, b2, b3, b4, b5, b6⟩ := bmain
      refine ⟨bm, ob, b1, b2, fun q => ?_, fun q => ?_, hidT_get b3 (free b3 (fun z => ?_) fun z => ?_), b4, b5, b6⟩
      · obtain ⟨o, es, ep, e, hd, _⟩ := glo
        rw [q, e] at b3
        cases b3
        rw [hd] at b6
        cases b6
      · rw [q, t.tab] at b3
        cases b3
        cases b6
      · rw [b6] at z
        cases z
      · rw [b6] at z
        cases z
    · obtain ⟨o, es, ep, e, hd, _⟩ := glo
      rw [z, t.tab] at e
      cases e
      cases hd
  refine codeAny_mono (run _ H kIn2 (space glo) TB env tbl sq) fun r s' z => ?_
  match r, z with
  | .error e, z => exact z.elim
  | .ok .next, z => exact z.elim
  | .ok .brk, z => exact z.elim
  | .ok .cont, z => exact z.elim
  | .ok (.ret u), ⟨v, H', os, bare, un, ok', rv, q⟩ =>
    subst q
    obtain rfl : u = Value.bool true := rv
    have stays : ∀ b o, b ∉ cs.map (·.2) → s.heap.get? b = some o → s'.heap.get? b = some o := fun b o nb e => by
      rcases only b with z | ⟨ob, xs, z⟩
      · exact un.keep b o e ((offT nb).trans z) (by simp [frs]) (by simp)
      · have z1 := (offT nb).trans z
        have y1 := (ok b _ z1).1
        have y2 := (ok' b _ (un.frzs b ob _ z1)).1
        rw [e] at y1
        obtain rfl := Option.some.inj y1
        exact y2
    have grown : ∀ p ∈ cs, ∃ more : Array Value, s'.heap.get? p.2 = some (W.tabObj more) := fun p hp => by
      obtain ⟨more, z⟩ := un.tbls p.2 #[] (tbl p hp)
      exact ⟨_, ok' p.2 _ z⟩
    refine ⟨rfl, ⟨fun b o e => ?_, fun b o e => ?_⟩, os, bare⟩ <;> by_cases hb : b ∈ cs.map (·.2)
    · obtain ⟨p, hp, rfl⟩ := List.mem_map.mp hb
      obtain ⟨more, hm⟩ := grown p hp
      rw [(tabs p hp).tab] at e
      cases e
      exact .inr (.inl ⟨((tabs p hp).hd.tab (tabs p hp).tab).isCodeTable, rfl, #[], more, rfl, by rw [Array.empty_append]; exact hm⟩)
    · exact .inl (stays b o hb e)
    · obtain ⟨p, hp, rfl⟩ := List.mem_map.mp hb
      obtain ⟨more, hm⟩ := grown p hp
      exact ⟨_, hm⟩
    · exact ⟨o, stays b o hb e⟩

/-- the goal that k_head leaves, where lambdas are made: the defs that make them by their names -/
theorem walkT {l : PySem.W.OpenLaw} {n : Nat} {q : Program} {loose : List Str} {XP : (Str → Option Value) → Heap → Prop} {YP : World → Heap → Prop} {d : DefRec} {K : Params → PySem.W.Frag} (xs : List Str)
    (most : l.most = some n) (few : n ≤ sizeLine) (dfl : d.params.defaults = []) (hY : ∀ (w : World) (h : Heap), YP w h → (K w.params).In h) (recs : ∀ x ∈ xs, ((recsOf q).find? (fun e => e.name == x)).isSome = true)
    (run : ∀ (w : World) (mg : Str → Option Value) (fa : Addr) (h : Heap), (K w.params).In h → h.Ns mainGlobals mg → mg d.name = some (.ref fa) →
      ∃ cs : List (Addr × Addr), (∀ p ∈ cs, (K w.params).lookup p.2 = none ∧ ∃ x ∈ xs, W.tabIn (K w.params) x = some p) ∧
      ∀ (s : Shared) (a : Addr) (ns : List Int) (base : Heap) (H : Hp), ns.length ≤ n → (K w.params).In base → base.Ns mainGlobals mg → (∀ p ∈ cs, LamX.TabB base mg p.1 p.2) → Env0 l.prog w (K w.params) mg base callerA [] s H → (∀ p ∈ cs, H p.2 = some (.tbl #[])) → SqL (K w.params) H a (ns.map V.int) →
        codeAny (model l.prog w) callerA (.call (.ref fa) ⟨[.ref a], []⟩) (CR CX0 [] l.prog w H s (fun v _ => v = .bl true) E0) s) :
    PySem.W.WalkO q loose XP YP l.row.toRowW d [] (fun f vs => PySem.call f vs) := by
  refine Att.attach_call most dfl fun w s₀ s₁ mg mb fa o pm cd doc a vs ns G Y ho hd hcd hmg hobj hints hlen hg => ?_
  have KX := hY w _ Y
  obtain ⟨cs, ht, go⟩ := run w mg fa _ KX G.T.g hmg
  refine wonT (cs := cs) KX G.T.g G.T.b G.T.builtins G.T.nolimit hg hobj hints (Nat.le_trans hlen few) (fun p hp => ?_) G.T.bmain fun base H b1 b2 tb e0 h0 sq => go s₁ a ns base H hlen b1 b2 tb e0 h0 sq
  obtain ⟨no, x, hx, e⟩ := ht p hp
  obtain ⟨dd, hdd⟩ := Option.isSome_iff_exists.mp (recs x hx)
  obtain ⟨c1, c2⟩ := W.tab_of (c := p.1) (P := p.2) G.T KX hdd e
  exact ⟨c2, no, c1⟩
end Cal

/-! methods by their promises over data; loops opened -/
namespace DL
open PySem PySem.Spec PyProof.Rows L2
theorem passX {X : Cx} : Passes (L2.CX X.prog X.w) X (fun _ _ _ => False) := passes_call LamX.takes0 (fun _ _ _ _ h => h)
/-- a method of a class of the module, told by data -/
def MethD (CX : CXT) (P : Program) (w : World) (mg : Str → Option Value) (base : Heap) (G : DG) (C : Addr) (c m : Str) (k : Nat) (ps : List Str) (R : List D → List D → (D → Prop) → Prop) : Prop :=
  ∃ f fd sp, MethOk G c C m sp R ∧ Cls G.K C ∧ Meth G.K C m f ∧ FnOk P w G.K mg base CX k f fd ps sp ∧ L2.Binds G.K fd ps []
section
variable {X : Cx} {F : Fr} {a e : Expr} {es : List Expr} {τo : DX} {τs : DXs} {pos : Pos}
theorem d_methD {CX : CXT} {c m : Str} {C : Addr} {ps : List Str} {k : Nat} {E : XK} {R : List D → List D → (D → Prop) → Prop} {apos : Pos} {pl : Sem Bool} (h : MethD CX X.prog X.w X.mg X.base F.G C c m k ps R) (hr : Room k X.A) (hx : Passes CX X E)
    (ho : PE X a (tD F τo)) (ha : PA X (e :: es) (tDs F τs)) (hK : X.K = F.G.K := by rfl) (hst : starEach (e :: es) X.env = (false, eval e X.env) :: starEach es X.env := by rfl) (hpl : (backTo pos (starEach es X.env)).any (·.1) = false := by rfl)
    (ht : eval (.Call (.Attribute a m apos) (e :: es) [] pos) X.env = (do
      let ov ← eval a X.env
      standAt apos.atName
      let (f, first) ← holding [ov] (getMethod ov m pl)
      callWith pos f first (backTo pos (starEach (e :: es) X.env)) (backToKw pos (keywordEach [] X.env))) := by rfl) : PE X (.Call (.Attribute a m apos) (e :: es) [] pos) (tD F (dMeth c R τo τs)) := by
  obtain ⟨f, fd, sp, ok, cl, hm, hF, hb⟩ := h
  rw [← hK] at cl hm hF hb
  exact d_meth ok cl hm hF hr hb hx ho ha hst hpl ht
end
/-- a list that grows by the f of each item -/
theorem grown {α β : Type} (f : α → β) (xs : List α) : ∃ L : Nat → List β, L 0 = [] ∧ (∀ (i : Nat) (h : i < xs.length), L (i + 1) = L i ++ [f xs[i]]) ∧ L xs.length = xs.map f ∧ ∀ i, i ≤ xs.length → (L i).length = i := by
  refine ⟨fun i => (xs.take i).map f, rfl, fun i h => ?_, ?_, fun i h => ?_⟩
  · show (xs.take (i + 1)).map f = (xs.take i).map f ++ [f xs[i]]
    rw [List.take_succ_eq_append_getElem h, List.map_append]
    rfl
  · show (xs.take xs.length).map f = _
    rw [List.take_length]
  · show ((xs.take i).map f).length = i
    rw [List.length_map, List.length_take]
    omega
theorem map_get {α β : Type} {f : α → β} {xs : List α} {i : Nat} {y : β} (h : (xs.map f)[i]? = some y) : ∃ (hi : i < xs.length), y = f xs[i] := by
  rw [List.getElem?_map] at h
  obtain ⟨x, hx, rfl⟩ := Option.map_eq_some_iff.mp h
  obtain ⟨hi, rfl⟩ := List.getElem?_eq_some_iff.mp hx
  exact ⟨hi, rfl⟩
section
variable {ρ : List Sl} {ω : List D} {E : DE} {t : DTg} {ι : DXi} {τb : DS} {τ : DX} {xs : List D}
/-- a walk over what is known -/
theorem for_known (I : Nat → List Sl → List D → Prop) (hι : ∀ q, q xs → ι ρ ω q) (h0 : I 0 ρ ω) (hs : ∀ (i : Nat) (x : D) ρ ω, xs[i]? = some x → I i ρ ω → ∃ ρ', t ρ x = some ρ' ∧ τb { nx := I (i + 1), ct := I (i + 1), bk := E.nx, rt := E.rt } ρ' ω)
    (he : ∀ ρ ω, I xs.length ρ ω → E.nx ρ ω) : dFor t ι τb E ρ ω := hι _ ⟨I, h0, hs, he⟩
/-- a comprehension over what is known; the items made so far are the f of those that were taken -/
theorem lc_known {js : List Nat} {τt : DXt} {τe : DX} {q : D → Prop} (I : Nat → List D → Prop) (hι : ∀ q, q xs → ι ρ ω q) (few : xs.length < sizeLine) (h0 : I 0 [])
    (hs : ∀ (i : Nat) (x : D) (acc : List D), xs[i]? = some x → acc.length ≤ i → I i acc → ∃ ρ', t (js.foldr (fun j r => r.set j .any) ρ) x = some ρ' ∧ τt ρ' (ω ++ [.lst acc]) fun b => if b = true then τe ρ' (ω ++ [.lst acc]) fun y => I (i + 1) (acc ++ [y]) else I (i + 1) acc)
    (he : ∀ acc, I xs.length acc → q (.lst acc)) : dLc js t ι τt τe ρ ω q := hι _ ⟨few, I, h0, hs, fun acc _ h => he acc h⟩
/-- a comprehension without a test, of what one datum gives -/
theorem lc_map {js : List Nat} {τe : DX} {q : D → Prop} (f : D → D) (hι : ∀ q, q xs → ι ρ ω q) (few : xs.length < sizeLine)
    (hs : ∀ x, x ∈ xs → ∃ ρ', t (js.foldr (fun j r => r.set j .any) ρ) x = some ρ' ∧ ∀ (acc : List D) (q' : D → Prop), q' (f x) → τe ρ' (ω ++ [.lst acc]) q') (he : q (.lst (xs.map f))) : dLc js t ι dYes τe ρ ω q :=
  lc_known (fun i acc => acc = (xs.take i).map f) hι few rfl (fun i x acc hx _ e => by
    obtain ⟨hi, rfl⟩ := List.getElem?_eq_some_iff.mp hx
    obtain ⟨ρ', e1, k⟩ := hs _ (List.getElem_mem hi)
    refine ⟨ρ', e1, ?_⟩
    simp only [dYes_eq, if_true]
    refine k acc _ ?_
    rw [List.take_succ_eq_append_getElem hi, List.map_append, e]
    rfl) (fun acc e => by rw [e, List.take_length]; exact he)
end
end DL

namespace K18
open PySem PySem.Spec PyProof.Rows L2
open DL
/-! ### pockets that get old -/
def age (cs : List Int) (p : Pl) : Pl := match p.po with
  | none => p
  | some (c, v, o) => if c ∈ cs then { p with po := some (c, v, true) } else p
def RAged : List D → (D → Prop) → Prop := fun xs q => ∃ (ps : List Pl) (cs : List Int), xs = [.tup (ps.map Pl.d), .lst (cs.map .int)] ∧ ps.length ≤ 1000 ∧ q (.tup ((ps.map (age cs)).map Pl.d))
section
variable {P : Program} {w : World} {mg : Str → Option Value} {base : Heap} {G : DG} {f : Addr} {fd : FuncData}
abbrev NAg : List Str := ["places", "cells", "aged", "place", "pocket"]
theorem scAg : FnScope NAg ["places", "cells"] (defScope sAged) := ⟨rfl, rfl, rfl, by decide +kernel, rfl, by decide +kernel, by decide +kernel⟩
theorem ok_aged (F : Fun G.K "_aged" "_aged" sAged f fd) (B : Bl mg) : FnOk P w G.K mg base CX0 1 f fd ["places", "cells"] (spP G 2 RAged) :=
  okP F scAg (fun O cdv A outer s H E hr => by
    have un := hr.units
    exact (ds_cons (ds_new (i := 2) scAg.nd rfl (Or.inl rfl))
 (ds_cons (ds_for PassesOwn.never rfl (di_seq (dv 0)) (pg_name (i := 3) scAg.nd rfl (Or.inl rfl)) to_name
 (ds_cons (ds_set (i := 4) scAg.nd rfl (Or.inl rfl) (d_ix (dv 3) d_int))
 (ds_one (ds_if (PW.pt (dw_or (d_tisN (dv 4)) (dw_or1 (d_tcmp op_notIn_seq abs_in (d_ix (dv 4) d_int) (dv 1) (by rfl)))))
 (ds_one (ds_app (i := 2) rfl (.inl rfl) (dv 3)))
 (ds_one (ds_app (i := 2) rfl (.inl rfl) (d_tup (da_star (d_slice (dv 3) dp_none (dp_some d_int)) (da_cons (d_tup (da_cons (d_ix (dv 4) d_int) (da_cons (d_ix (dv 4) d_int) (da_cons d_bl da_nil)))) da_nil)))))))))
 (ds_give (i := 2) (ds_one (ds_ret (d_callTy call_tuple_of abs_tuple (by rfl) B.tuple (by decide +kernel) (da_cons (dv 2) da_nil)))))))) (fun xs q l r => by
    obtain ⟨ps, cs, rfl, few, k⟩ := r
    have := line
    simp
    obtain ⟨L, l0, ls, le, ll⟩ := grown (fun p => (age cs p).d) ps
    refine for_known (xs := ps.map Pl.d) (fun i ρ ω => ∃ s3 s4, ρ = [.dat (.tup (ps.map Pl.d)), .dat (.lst (cs.map .int)), .own 0, s3, s4] ∧ ω = [.lst (L i)]) (fun q h => by simpa using h) ⟨_, _, rfl, by rw [l0]⟩ ?_ ?_
    · rintro i x ρ ω hx ⟨s3, s4, rfl, rfl⟩
      obtain ⟨hi, rfl⟩ := map_get hx
      have e1 := ls i hi
      have e2 := ll i (by omega)
      rcases hpo : ps[i].po with _ | ⟨c, v, o⟩
      · simp [Pl.d, hpo, pkd, e1, age, e2]
        omega
      · simp [Pl.d, hpo, pkd, e1, age, fls_ints, inV_ints, e2]
        have lt : i < sizeLine := by omega
        by_cases hc : c ∈ cs <;> simp [hc, hpo, lt]
    · rintro ρ ω ⟨s3, s4, rfl, rfl⟩
      rw [List.length_map, le]
      have e3 : (ps.map (age cs)).map Pl.d = ps.map fun p => (age cs p).d := by rw [List.map_map]; rfl
      rw [e3] at k
      simpa using k)
end
end K18

namespace K18
open PySem PySem.Spec PyProof.Rows L2
open Cal EnuT
open DL (Callee pe_callee)
/-- all but what is at p is as it was -/
def But (p : Addr) (H H' : Hp) : Prop := ∀ b o, b ≠ p → H b = some o → H' b = some o
theorem But.of_same {p : Addr} {H H' : Hp} (s : Same H H') : But p H H' := fun b o _ e => s b o e
theorem But.same {p : Addr} {H0 H H' : Hp} (b : But p H H') (s : Same H0 H) (n : H0 p = none) : Same H0 H' := fun c o e => b c o (fun z => by
  rw [z, n] at e
  cases e) (s c o e)
theorem But.trans {p : Addr} {H H1 H2 : Hp} (a : But p H H1) (b : But p H1 H2) : But p H H2 := fun c o ne e => b c o ne (a c o ne e)
theorem same_upd {H : Hp} {l : Addr} {o : HO} (n : H l = none) : Same H (upd H l o) := fun b u e => by
  rw [upd_ne (ne_of_none e n)]
  exact e
theorem none_of_upd {H : Hp} {a b : Addr} {o : HO} (h : upd H a o b = none) : H b = none ∧ a ≠ b := by
  by_cases z : b = a
  · rw [z, upd_same] at h
    cases h
  · rw [upd_ne z] at h
    exact ⟨h, Ne.symm z⟩

/-! ### what the module has of none -/
theorem dps_str {K : W.Frag} {H : Hp} : ∀ xs : List Str, DpAll K H (xs.map V.str) (xs.map PyData.str)
  | [] => .nil
  | _ :: xs => .cons (.str _) (dps_str xs)
theorem canLay_strs : ∀ xs : List Str, (∀ x, x ∈ xs → PyData.strOk x = true) → PyData.canLayAll0 (xs.map PyData.str) = true
  | [], _ => by simp [PyData.canLayAll0]
  | x :: xs, h => by
    have h1 := canLay_strs xs fun y hy => h y (List.mem_cons_of_mem _ hy)
    have h2 := h x (List.mem_cons_self ..)
    simp [PyData.canLayAll0, PyData.canLay0, h1, h2]
theorem depth_strs : ∀ xs : List Str, PyData.depthAll (xs.map PyData.str) ≤ 1
  | [] => by simp [PyData.depthAll]
  | x :: xs => by
    have := depth_strs xs
    simp [PyData.depthAll, PyData.depth]
    omega
theorem shaped_strs (xs : List Str) (h : ∀ x, x ∈ xs → PyData.strOk x = true) : SeqAt.shaped (.list (xs.map PyData.str)) = true := by
  have := depth_strs xs
  simp [SeqAt.shaped, PyData.canLay0, canLay_strs xs h, PyData.depth]
  omega
structure Door where
  n : Str
  one : Str
  two : Str
  op : Bool
structure Cell where
  n : Str
  p : Str
  k : Bool
structure Hs where
  parts : List Str
  doors : List Door
  cells : List Cell
def Hs.names (h : Hs) : List Str := h.parts ++ (h.doors.map (·.n) ++ h.cells.map (·.n))
def EndIn (ps : List Str) (x : Str) : Prop := x = "out" ∨ x ∈ ps
def dvs (d : Door) : List V := [.str d.n, .str d.one, .str d.two, .bl d.op]
def cvs (c : Cell) : List V := [.str c.n, .str c.p, .bl c.k]
def DoorAt (H : Hp) (v : V) (d : Door) : Prop := ∃ t, v = .ref t ∧ H t = some (.tup (dvs d))
def CellAt (H : Hp) (v : V) (c : Cell) : Prop := ∃ t, v = .ref t ∧ H t = some (.tup (cvs c))
structure HsAt (H : Hp) (h : Hs) (a b c : Addr) : Prop where
  pa : H a = some (.lst (h.parts.map V.str))
  da : ∃ vs, H b = some (.lst vs) ∧ Paired (DoorAt H) vs h.doors
  ca : ∃ vs, H c = some (.lst vs) ∧ Paired (CellAt H) vs h.cells
theorem DoorAt.mono {H H' : Hp} {v : V} {d : Door} (x : DoorAt H v d) (f : ∀ t, H t = some (.tup (dvs d)) → H' t = some (.tup (dvs d))) : DoorAt H' v d := by
  obtain ⟨t, rfl, e⟩ := x
  exact ⟨t, rfl, f t e⟩
theorem CellAt.mono {H H' : Hp} {v : V} {d : Cell} (x : CellAt H v d) (f : ∀ t, H t = some (.tup (cvs d)) → H' t = some (.tup (cvs d))) : CellAt H' v d := by
  obtain ⟨t, rfl, e⟩ := x
  exact ⟨t, rfl, f t e⟩
theorem paired_mono {α β : Type} {R S : α → β → Prop} (f : ∀ a b, R a b → S a b) : ∀ {xs : List α} {ys : List β}, Paired R xs ys → Paired S xs ys
  | _, _, .nil => .nil
  | _, _, .cons r t => .cons (f _ _ r) (paired_mono f t)
theorem paired_snoc {α β : Type} {R : α → β → Prop} : ∀ {xs : List α} {ys : List β} {a : α} {b : β}, Paired R xs ys → R a b → Paired R (xs ++ [a]) (ys ++ [b])
  | _, _, _, _, .nil, h => .cons h .nil
  | _, _, _, _, .cons r t, h => .cons r (paired_snoc t h)
theorem paired_len {α β : Type} {R : α → β → Prop} : ∀ {xs : List α} {ys : List β}, Paired R xs ys → xs.length = ys.length
  | _, _, .nil => rfl
  | _, _, .cons _ t => by simp [paired_len t]

theorem cut_take (xs : List Str) (k : Nat) (h : k ≤ xs.length) : cutV (xs.map V.str) none (some ((k : Nat) : Int)) = (xs.take k).map V.str := by
  unfold cutV HT.sIx
  simp only [List.length_map]
  rw [if_neg (by omega)]
  simp [Nat.min_eq_left h, List.map_take]
theorem cut_drop (xs : List Str) (k : Nat) (h : k ≤ xs.length) : cutV (xs.map V.str) (some ((k : Nat) : Int)) none = (xs.drop k).map V.str := by
  unfold cutV HT.sIx
  simp only [List.length_map]
  rw [if_neg (by omega)]
  rw [Int.toNat_natCast, Nat.min_eq_left h, List.map_drop, List.take_of_length_le]
  simp
end K18

/-! raise C(v) for an own class whose __init__ keeps one thing, by position -/
namespace Exn
open PySem PySem.Spec PyProof.Rows L2
section
variable {X : Cx} {C : Addr} {x f : Str} {B newId initId : String} {bmB : List Value} {e : Expr} {te : TE} {p kp pos : Pos}
/-- raise C(e): what makes it -/
theorem pmk_exn (c : Cl1 X.prog X.w X.K X.mg X.base x C f B newId initId bmB) (hr : Room 2 X.A) (hg : Gl X x) (he : PE X e te)
    (hdb : (x == ("__debug__" : Str)) = false := by decide) (hs : starEach [e] X.env = (false, eval e X.env) :: starEach [] X.env := by rfl) :
    PMk X (.Call (.Name x p) [e] [] pos) (fun σ H Q => te σ H fun u H1 => ∃ v, [u] = [v] ∧ ∀ d, H1 d = none → Q (.ref C) (some d) (upd H1 d (.xd [(f, v)]))) := by
  obtain ⟨fI, fd, iC, tI, G, b1, b2⟩ := c.run
  intro pins s σ H Q I h
  refine wpAny_Call_Name_kw (ld_glob I hg c.m ?_ hdb)
  refine W.callWith_K (h₀ := X.base) I.ok.mod.kin c.T.kp (thn ((pa_cons he pa_nil hs).run pos pins s σ H (fun vs H1 => ∃ v, vs = [v] ∧ ∀ d, H1 d = none → Q (.ref C) (some d) (upd H1 d (.xd [(f, v)]))) I h) fun us s1 ⟨vs, H1, I1, r, v, ev, q⟩ => ⟨I1.kIn, ?_⟩) hs (by rfl)
  subst ev
  obtain ⟨u, rfl, r1⟩ := vals1 r
  obtain ⟨nm, N, qn, bs, bm, hd, sn, sub, ab, col, dd, k0, k1, k2, k3, k5, at_C, tail⟩ := W.excInit_of I1.kIn c.T.made
  obtain ⟨bm0, base⟩ := c.T.base
  obtain ⟨hp, g, dr, tk, os⟩ := s1
  have big : hp.objs.size ≤ hp.objs.size + 1 := Nat.le_succ _
  have na : H1 (hp.objs.size + 1) = none := I1.hok.fresh big
  have kept : ∀ b o, hp.get? b = some o → ((hp.push (W.kdv_tup [u])).push (HandSPX.excO C hp.objs.size)).get? b = some o :=
    fun b o e => Heap.get?_push_of_some _ (Heap.get?_push_of_some _ e)
  have here : ((hp.push (W.kdv_tup [u])).push (HandSPX.excO C hp.objs.size)).get? (hp.objs.size + 1) = some (HandSPX.excO C hp.objs.size) := by
    heap_get
  have J : Inv X pins σ (upd H1 (hp.objs.size + 1) (exo (hp.objs.size + 1) C none)) ⟨(hp.push (W.kdv_tup [u])).push (HandSPX.excO C hp.objs.size), g, dr, tk, os⟩ :=
    I1.laid (t' := tk) kept big (exo_ok here)
  have new : spKeep C f [.ref (hp.objs.size + 1), v] (upd H1 (hp.objs.size + 1) (exo (hp.objs.size + 1) C none))
      (fun y H2 => y = .non ∧ ∃ d, H2 = made H1 C f v (hp.objs.size + 1) d ∧ H1 d = none ∧ d ≠ hp.objs.size + 1) E0 := by
    refine ⟨_, v, rfl, upd_same, fun dx nd ne => ⟨rfl, dx, made_eq ne, ?_, ne⟩⟩
    rw [upd_ne ne] at nd
    exact nd
  have r2 : Vals [V.ref (hp.objs.size + 1), v] [Value.ref (hp.objs.size + 1), u] := .cons rfl (.cons r1 .nil)
  refine wpAny_call (call_kw (us := [u]) base (c.T.tail.of tail) at_C (by show 1 ≤ sizeLine; decide) (W.looks_findIn I1.kIn iC) (fun self => W.bind_fn I1.kIn self tI) ?_)
  refine codeAny_mono (G.run _ X.stack _ _ ⟨[Value.ref (hp.objs.size + 1), u], []⟩ _ _ _ E0 (hr.make C [u] []) (J.env0.make C [u] []) (b1 _ _ _) r2 new) fun r s' z => ?_
  match r, z with
  | .error e, z => exact z.elim
  | .ok .next, z => exact z.elim
  | .ok .brk, z => exact z.elim
  | .ok .cont, z => exact z.elim
  | .ok (.ret y), z =>
    obtain ⟨v2, H2, os2, bare2, un2, hok2, rv, ev, d, rfl, nd, ne⟩ := z
    subst ev
    obtain ⟨h2, g2, d2, t2, os'⟩ := s'
    have fin := mk_end (X := X) (Q := Q) (d2 := d2) (t2 := t2) (fs := [(f, v)]) (raises_own c.T.sub c.ty) I1 big kept un2 hok2 os2 bare2 upd_same (by unfold made; rw [upd_ne ne, upd_same]) nd (by
      have eq : upd (del (made H1 C f v (hp.objs.size + 1) d) (hp.objs.size + 1)) d (.xd [(f, v)]) = upd H1 d (.xd [(f, v)]) := by
        funext b
        by_cases hb : b = d
        · rw [hb, upd_same, upd_same]
        · rw [upd_ne hb, upd_ne hb]
          by_cases ha : b = hp.objs.size + 1
          · rw [ha, del_same, na]
          · rw [del_ne ha]
            unfold made
            rw [upd_ne ha, upd_ne hb]
      rw [eq]
      exact q d nd)
    exact ⟨rv, fin⟩
end
end Exn

/-! split undoes join -/
namespace Tx
open PySem
abbrev L (s : Str) : List Nat := s.cps.toList
theorem ext {a b : Str} (h : L a = L b) : a = b := Str.ext' (Array.toList_inj.mp h)
theorem L_append (a b : Str) : L (a ++ b) = L a ++ L b := by simp [L, Str.cps_append]
theorem len_L (s : Str) : s.length = (L s).length := by simp [L, Str.length]
theorem cut_eq {c : Nat} : ∀ {a b r q : List Nat}, c ∉ a → c ∉ b → a ++ c :: r = b ++ c :: q → a = b ∧ r = q
  | [], [], _, _, _, _, h => ⟨rfl, by simpa using h⟩
  | [], y :: b, _, _, _, hb, h => by
    simp at h
    exact absurd (List.mem_cons.mpr (.inl h.1)) hb
  | x :: a, [], _, _, ha, _, h => by
    simp at h
    exact absurd (List.mem_cons.mpr (.inl h.1.symm)) ha
  | x :: a, y :: b, r, q, ha, hb, h => by
    simp at h
    obtain ⟨rfl, h⟩ := h
    obtain ⟨e1, e2⟩ := cut_eq (a := a) (b := b) (fun z => ha (List.mem_cons_of_mem _ z)) (fun z => hb (List.mem_cons_of_mem _ z)) h
    exact ⟨by rw [e1], e2⟩
theorem L_join (sep x y : Str) (r : List Str) : L (Str.join sep (x :: y :: r)) = L x ++ (L sep ++ L (Str.join sep (y :: r))) := by
  show L (x ++ sep ++ Str.join sep (y :: r)) = _
  rw [L_append, L_append, List.append_assoc]
theorem join_inj {c : Nat} : ∀ {xs ys : List Str}, xs ≠ [] → ys ≠ [] → (∀ p, p ∈ xs → c ∉ L p) → (∀ p, p ∈ ys → c ∉ L p) → Str.join ⟨#[c]⟩ xs = Str.join ⟨#[c]⟩ ys → xs = ys
  | [], _, h, _, _, _, _ => absurd rfl h
  | _ :: _, [], _, h, _, _, _ => absurd rfl h
  | [x], [y], _, _, _, _, h => by
    have h : x = y := h
    rw [h]
  | [x], y :: z :: r, _, _, hx, _, h => by
    have e : L x = L y ++ (c :: L (Str.join ⟨#[c]⟩ (z :: r))) := by
      have := congrArg L h
      rw [L_join] at this
      exact this
    exact absurd (by rw [e]; simp) (hx x (List.mem_cons_self ..))
  | x :: z :: r, [y], _, _, _, hy, h => by
    have e : L y = L x ++ (c :: L (Str.join ⟨#[c]⟩ (z :: r))) := by
      have := congrArg L h
      rw [L_join] at this
      exact this.symm
    exact absurd (by rw [e]; simp) (hy y (List.mem_cons_self ..))
  | x :: z :: r, y :: w :: q, _, _, hx, hy, h => by
    have e : L x ++ c :: L (Str.join ⟨#[c]⟩ (z :: r)) = L y ++ c :: L (Str.join ⟨#[c]⟩ (w :: q)) := by
      have := congrArg L h
      rw [L_join, L_join] at this
      exact this
    obtain ⟨e1, e2⟩ := cut_eq (hx x (List.mem_cons_self ..)) (hy y (List.mem_cons_self ..)) e
    rw [ext e1, join_inj (List.cons_ne_nil _ _) (List.cons_ne_nil _ _) (fun p hp => hx p (List.mem_cons_of_mem _ hp)) (fun p hp => hy p (List.mem_cons_of_mem _ hp)) (ext e2)]
theorem split_ne (x y : Str) : Txt.split x y ≠ [] := by
  unfold Txt.split
  split
  · exact List.cons_ne_nil _ _
  · split
    · exact List.cons_ne_nil _ _
    · rw [StrLaws.partsBetween_eq]
      obtain ⟨p, r, e⟩ := StrLaws.partsFrom_ne x y.length 0 (Builtin.Str.occurrences x y 0 x.length (x.length + 1))
      rw [e]
      exact List.cons_ne_nil _ _
/-- split undoes join, where no part has the sign -/
theorem split_join {c : Nat} {xs : List Str} (ne : xs ≠ []) (h : ∀ p, p ∈ xs → c ∉ L p) : Txt.split (Txt.join ⟨#[c]⟩ xs) ⟨#[c]⟩ = xs := by
  refine join_inj (split_ne _ _) ne (fun p hp => StrLaws.split_free _ c p hp) h ?_
  rw [StrLaws.join_split]
  exact StrLaws.glued_eq_join _ _
theorem split_len {c : Nat} {s : Str} : ∀ p, p ∈ Txt.split s ⟨#[c]⟩ → p.length ≤ s.length := by
  intro p hp
  have e := StrLaws.join_split s ⟨#[c]⟩
  have key : ∀ (xs : List Str), p ∈ xs → p.length ≤ (Str.join ⟨#[c]⟩ xs).length := by
    intro xs
    induction xs with
    | nil => intro h; cases h
    | cons x xs ih =>
      intro h
      cases xs with
      | nil =>
        obtain rfl := List.mem_singleton.mp h
        exact Nat.le_refl _
      | cons y r =>
        rw [len_L (Str.join _ _), L_join]
        simp only [List.length_append]
        rcases List.mem_cons.mp h with rfl | z
        · rw [len_L]; omega
        · have := ih z
          rw [len_L (Str.join _ _)] at this
          omega
  rw [← e]
  exact key _ hp
end Tx

namespace K18
open DL (Callee pe_callee)
open PySem PySem.Spec PyProof.Rows L2
open Cal EnuT Sqx Exn Keys

abbrev CE (P : Program) (w : World) (K : W.Frag) (mg : Str → Option Value) (base : Heap) (x : Str) (C : Addr) (f : Str) : Prop := Cl1 P w K mg base x C f "Exception" "Exception.__new__" "Exception.__init__" exTail
/-- a def by its name in the module, that may raise -/
def CalleeX (P : Program) (w : World) (K : W.Frag) (mg : Str → Option Value) (base : Heap) (x : Str) (k : Nat) (ps : List Str) (sp : Sp) : Prop :=
  ∃ f fd, mg x = some (.ref f) ∧ W.keepIn K (.ref f) = true ∧ Binds K fd ps [] ∧ FnOk P w K mg base (L2.CX P w) k f fd ps sp
theorem pe_calleeX {X : Cx} {x : Str} {k : Nat} {ps : List Str} {sp : Sp} {E : XK} {p pos : Pos} {e : Expr} {es : List Expr} {t : TA} (c : CalleeX X.prog X.w X.K X.mg X.base x k ps sp) (hr : Room k X.A) (hg : Gl X x) (hx : Passes (L2.CX X.prog X.w) X E) (ha : PA X (e :: es) t)
    (hdb : (x == ("__debug__" : Str)) = false := by decide) (he : starEach (e :: es) X.env = (false, eval e X.env) :: starEach es X.env := by rfl) (hpl : (backTo pos (starEach es X.env)).any (·.1) = false := by rfl) :
    PE X (.Call (.Name x p) (e :: es) [] pos) (tCall sp [] E t) := by
  obtain ⟨f, fd, m, kp, b, F⟩ := c
  exact pe_call F hr hg m kp b .nil hx ha hdb he hpl
theorem kept {σ : L2.St} {H : Hp} {A B : Hp → Prop} (h : A H) : tYes σ H (fun b H3 => if b = true then A H3 else B H3) := by
  show (if true = true then A H else B H)
  rw [if_pos rfl]
  exact h
theorem paired_get {α β : Type} {R : α → β → Prop} : ∀ {xs : List α} {ys : List β} {i : Nat} {x : α}, Paired R xs ys → xs[i]? = some x → ∃ y, ys[i]? = some y ∧ R x y
  | _, _, 0, _, .cons r _, h => ⟨_, rfl, by cases h; exact r⟩
  | _, _, i + 1, _, .cons _ t, h => paired_get (i := i) t h
  | _, _, _, _, .nil, h => nomatch h
/-! ### what any value is -/
/-- values without parts, short -/
def flatOk : V → Bool
  | .non => true
  | .bl _ => true
  | .int _ => true
  | .str s => decide (s.length ≤ 1000)
  | _ => false
inductive Tv
  | fl (v : V)
  | sq (xs : List V)
def TvAt (H : Hp) (v : V) : Tv → Prop
  | .fl u => v = u ∧ flatOk u = true
  | .sq xs => ∃ a, v = .ref a ∧ SeqAt H a xs ∧ xs.length ≤ 20 ∧ ∀ x, x ∈ xs → flatOk x = true
inductive Av
  | fl (v : V)
  | sq (ts : List Tv)
def AvAt (H : Hp) (v : V) : Av → Prop
  | .fl u => v = u ∧ flatOk u = true
  | .sq ts => ∃ a vs, v = .ref a ∧ SeqAt H a vs ∧ Paired (TvAt H) vs ts ∧ ts.length ≤ 20
theorem TvAt.same {H H' : Hp} (s : Same H H') {v : V} {t : Tv} (x : TvAt H v t) : TvAt H' v t := by
  cases t with
  | fl u => exact x
  | sq xs =>
    obtain ⟨a, e, sq, r⟩ := x
    exact ⟨a, e, sq.same s, r⟩
theorem AvAt.same {H H' : Hp} (s : Same H H') {v : V} {t : Av} (x : AvAt H v t) : AvAt H' v t := by
  cases t with
  | fl u => exact x
  | sq ts =>
    obtain ⟨a, vs, e, sq, pw, r⟩ := x
    exact ⟨a, vs, e, sq.same s, paired_mono (fun _ _ q => q.same s) pw, r⟩
def isStr : V → Bool
  | .str _ => true
  | _ => false
def isBl : V → Bool
  | .bl _ => true
  | _ => false
theorem any_ty {K : W.Frag} {t : String} {a b : Bool} (h1 : kitB t "list" = some a) (h2 : kitB t "tuple" = some b) : W.kitAny K (.type t) [.type "list", .type "tuple"] = some (a || b) := by
  cases a <;> cases b <;> simp [W.kitAny, kit_ty h1, kit_ty h2]
theorem flat_ty {K : W.Frag} {H : Hp} {v : V} (o : flatOk v = true) : ∃ t, TyX K H v t ∧ W.kitAny K t [.type "list", .type "tuple"] = some false ∧ W.kitOne K t (.type "str") = some (isStr v) ∧ W.kitOne K t (.type "bool") = some (isBl v) := by
  cases v with
  | non => exact ⟨_, .base .non, any_ty (show kitB "NoneType" "list" = some false by decide +kernel) (show kitB "NoneType" "tuple" = some false by decide +kernel), kit_ty (show kitB "NoneType" "str" = some false by decide +kernel), kit_ty (show kitB "NoneType" "bool" = some false by decide +kernel)⟩
  | bl b => exact ⟨_, .base (.bl b), any_ty (show kitB "bool" "list" = some false by decide +kernel) (show kitB "bool" "tuple" = some false by decide +kernel), kit_ty (show kitB "bool" "str" = some false by decide +kernel), kit_ty (show kitB "bool" "bool" = some true by decide +kernel)⟩
  | int i => exact ⟨_, .base (.int i), any_ty (show kitB "int" "list" = some false by decide +kernel) (show kitB "int" "tuple" = some false by decide +kernel), kit_ty (show kitB "int" "str" = some false by decide +kernel), kit_ty (show kitB "int" "bool" = some false by decide +kernel)⟩
  | str x => exact ⟨_, .base (.str x), any_ty (show kitB "str" "list" = some false by decide +kernel) (show kitB "str" "tuple" = some false by decide +kernel), kit_ty (show kitB "str" "str" = some true by decide +kernel), kit_ty (show kitB "str" "bool" = some false by decide +kernel)⟩
  | _ => cases o
theorem seq_ty {K : W.Frag} {H : Hp} {a : Addr} {xs : List V} (o : SeqAt H a xs) : ∃ t, TyX K H (.ref a) t ∧ W.kitAny K t [.type "list", .type "tuple"] = some true ∧ W.kitOne K t (.type "str") = some false := by
  rcases o with h | h
  · exact ⟨_, .base (.lst h), any_ty (show kitB "list" "list" = some true by decide +kernel) (show kitB "list" "tuple" = some false by decide +kernel), kit_ty (show kitB "list" "str" = some false by decide +kernel)⟩
  · exact ⟨_, .base (.tup h), any_ty (show kitB "tuple" "list" = some false by decide +kernel) (show kitB "tuple" "tuple" = some true by decide +kernel), kit_ty (show kitB "tuple" "str" = some false by decide +kernel)⟩
/-- a value that is flat (none), or a list or tuple of these -/
def SqOf (H : Hp) (v : V) : Option (List V) → Prop
  | none => flatOk v = true
  | some xs => ∃ a, v = .ref a ∧ SeqAt H a xs
theorem TvAt.sqof {H : Hp} {v : V} {t : Tv} (x : TvAt H v t) : SqOf H v (match t with | .fl _ => none | .sq xs => some xs) := by
  cases t with
  | fl u => obtain ⟨rfl, h⟩ := x; exact h
  | sq xs => obtain ⟨a, e, sq, _⟩ := x; exact ⟨a, e, sq⟩
def signOk (c : Nat) : Bool := (!decide (([c] : List Nat) < ("a" : Str).cps.toList)) && !decide (("z" : Str).cps.toList < [c])
def nameOk (s : Str) : Bool := decide (1 ≤ s.length) && decide (s.length ≤ 8) && decide (s ≠ "out") && s.cps.toList.all signOk
def nmB : V → Bool
  | .str s => nameOk s
  | _ => false
def nmT : Tv → Bool
  | .fl v => nmB v
  | _ => false
def spSeq : Sp := fun vs H Q _ => ∃ v o, vs = [v] ∧ SqOf H v o ∧ ∀ H', Same H H' → Q (.bl o.isSome) H'
def spName : Sp := fun vs H Q _ => ∃ v t, vs = [v] ∧ TvAt H v t ∧ ∀ H', Same H H' → Q (.bl (nmT t)) H'
section
variable {P : Program} {w : World} {K : W.Frag} {mg : Str → Option Value} {base : Heap}
theorem scSq : FnScope ["value"] ["value"] (defScope sIsSeq) := ⟨rfl, rfl, rfl, by decide +kernel, rfl, by decide +kernel, by decide +kernel⟩
theorem ok_isseq {f : Addr} {fd : FuncData} (F : Fun K "is_sequence" "is_sequence" sIsSeq f fd) (B : Bl mg) : FnOk P w K mg base CX0 1 f fd ["value"] spSeq := by
  refine F.ok scSq (fun vs H Q E h => ?_) (fun cdv A outer s H vs Q E hr h => ?_)
  · obtain ⟨v, o, rfl, _⟩ := h
    rfl
  · obtain ⟨v, o, rfl, sq, k⟩ := h
    refine ⟨_, pss_one (ps_ret (pe_callB call_isiT (by rfl) B.isi (by decide +kernel) (pa_cons (pv 0) (pa_cons (pe_tup (pa_cons (pe_bltn (v := .ty "list") rfl B.list (by decide +kernel) rfl) (pa_cons (pe_bltn (v := .ty "tuple") rfl B.tuple (by decide +kernel) rfl) pa_nil))) pa_nil)))), ?_⟩
    refine ⟨_, rfl, by show 2 ≤ sizeLine; decide, fun t nt => ?_⟩
    have s1 := same_upd (o := .tup [.ty "list", .ty "tuple"]) nt
    cases o with
    | none =>
      obtain ⟨ty, h1, h2, _⟩ := flat_ty (K := K) (H := upd H t (.tup [.ty "list", .ty "tuple"])) sq
      exact ⟨_, t, _, _, _, _, rfl, upd_same, .cons (.ty "list") (.cons (.ty "tuple") .nil), h1, h2, k _ s1⟩
    | some xs =>
      obtain ⟨a, rfl, sq⟩ := sq
      obtain ⟨ty, h1, h2, _⟩ := seq_ty (K := K) (sq.same s1)
      exact ⟨_, t, _, _, _, _, rfl, upd_same, .cons (.ty "list") (.cons (.ty "tuple") .nil), h1, h2, k _ s1⟩
theorem scNm : FnScope ["value", "sign"] ["value"] (defScope sIsName) := ⟨rfl, rfl, rfl, by decide +kernel, rfl, by decide +kernel, by decide +kernel⟩
theorem ok_isname {f : Addr} {fd : FuncData} (F : Fun K "is_name" "is_name" sIsName f fd) (B : Bl mg) : FnOk P w K mg base CX0 1 f fd ["value"] spName := by
  refine F.ok scNm (fun vs H Q E h => ?_) (fun cdv A outer s H vs Q E hr h => ?_)
  · obtain ⟨v, t, rfl, _⟩ := h
    rfl
  · obtain ⟨v, t, rfl, o, k⟩ := h
    refine ⟨_, pss_cons (ps_if (PW.pt (pw_or (pt_not (pt_val (pe_callB call_isi (by rfl) B.isi (by decide +kernel) (pa_cons (pv 0) (pa_cons (pe_bltn (v := .ty "str") rfl B.str (by decide +kernel) rfl) pa_nil)))))
        (pw_or (pt_not (pt_chain op_le op_le pe_int (pe_callB call_len_str (by rfl) B.nums.len PySem.boot_len (pa_cons (pv 0) pa_nil)) pe_int)) (pw_or1 (pt_cmpR op_eq (pv 0) pe_str (nomark _)))))) (pss_one (ps_ret pe_bl)) pss_nil)
      (pss_one (ps_ret (pe_callB (cr_all rfl) (by rfl) B.all (by decide +kernel) (pa_cons (pe_lc (own := [("sign", 1)]) (g := gName 1) (tt := tYes) (by rfl) scNm.nd (pi_str (pv 0))
        (blkOk_by (own := [("sign", 1)]) (N := ["value", "sign"]) (sc := defScope sIsName) (by decide +kernel))
        (fun _ _ _ _ _ => pg_name (i := 1) scNm.nd rfl (Or.inl rfl)) (fun _ _ _ _ _ => pts_nil)
        (fun _ _ _ _ _ => pe_chain op_le_str op_le_str pe_str (pv 1) pe_str)) pa_nil)))), ?_⟩
    have line : (1000 : Nat) ≤ sizeLine := by decide
    have q0 := k H (Same.refl _)
    cases t with
    | sq xs =>
      obtain ⟨a, rfl, sq, _⟩ := o
      obtain ⟨ty, h1, _, h3⟩ := seq_ty (K := K) sq
      exact ⟨_, rfl, _, _, _, _, _, rfl, .ty "str", h1, h3, _, rfl, iteT (iteT q0)⟩
    | fl u =>
    obtain ⟨rfl, fo⟩ := o
    obtain ⟨ty, h1, _, h3, _⟩ := flat_ty (K := K) (H := H) fo
    refine ⟨_, rfl, _, _, _, _, _, rfl, .ty "str", h1, h3, _, rfl, ?_⟩
    cases es : isStr v with
    | false =>
      refine iteT (iteT ?_)
      have : nmT (.fl v) = false := by cases v <;> first | rfl | (cases es)
      rwa [this] at q0
    | true =>
      obtain ⟨z, rfl⟩ : ∃ z, v = .str z := by cases v <;> first | exact ⟨_, rfl⟩ | (cases es)
      have zf : z.length ≤ 1000 := by simpa [flatOk] using fo
      have no : nameOk z = false → Q (.bl false) H := fun e => by
        rwa [show nmT (.fl (.str z)) = nameOk z from rfl, e] at q0
      refine iteF ⟨_, rfl, z, rfl, Nat.le_trans zf line, 1, _, rfl, rfl, _, rfl, ?_⟩
      by_cases z1 : 1 ≤ z.length
      · rw [decide_eq_true (show (1 : Int) ≤ (z.length : Nat) by omega)]
        refine iteT ⟨_, 8, rfl, rfl, _, rfl, ?_⟩
        by_cases z8 : z.length ≤ 8
        · rw [decide_eq_true (show ((z.length : Nat) : Int) ≤ 8 by omega)]
          refine iteF ⟨_, rfl, rfl, _, rfl, ?_⟩
          by_cases zo : z = "out"
          · rw [decide_eq_true (by rw [zo])]
            exact iteT (no (by simp [nameOk, zo]))
          · rw [decide_eq_false (fun y => zo (by injection y))]
            refine iteF ⟨_, rfl, z, rfl, fun D nD => ?_⟩
            refine lc_it walk_str (fun i H' => Same H H' ∧ H' D = some (.lst (((z.cps.toList.take i).map signOk).map V.bl))) ⟨same_upd nD, upd_same⟩ (fun _ _ _ _ => trivial) ?_ ?_
            · rintro i x H1 H1' hi ⟨s1, at_D⟩ ⟨rfl, c, hc, rfl⟩
              have hl : i < 8 := by
                have : z.length = z.cps.size := rfl
                omega
              have next : ∀ b, b = signOk c → Same H (upd H1' D (.lst (((z.cps.toList.take i).map signOk).map V.bl ++ [.bl b]))) ∧ upd H1' D (.lst (((z.cps.toList.take i).map signOk).map V.bl ++ [.bl b])) D = some (.lst (((z.cps.toList.take (i + 1)).map signOk).map V.bl)) := fun b hb => by
                refine ⟨fun a o e => ?_, ?_⟩
                · by_cases ha : a = D
                  · rw [ha, nD] at e
                    cases e
                  · rw [upd_ne ha]
                    exact s1 _ _ e
                · obtain ⟨lt, e⟩ := Array.getElem?_eq_some_iff.mp hc
                  have lt' : i < z.cps.toList.length := by simpa using lt
                  have e' : z.cps.toList[i] = c := by simpa using e
                  rw [upd_same, List.take_succ_eq_append_getElem lt', e', List.map_append, List.map_append, hb]
                  rfl
              have fw : (((z.cps.toList.take i).map signOk).map V.bl).length < sizeLine := by
                rw [List.length_map, List.length_map, List.length_take]
                omega
              refine ⟨rfl, kept ⟨_, rfl, _, _, rfl, rfl, _, rfl, ?_⟩⟩
              show ite ((!decide (([c] : List Nat) < ("a" : Str).cps.toList)) = true) _ _
              refine ite2 (fun h1 => ?_) (fun h1 => ?_)
              · refine ⟨_, _, rfl, rfl, _, at_D, fw, next _ ?_⟩
                show (!decide (("z" : Str).cps.toList < [c])) = signOk c
                unfold signOk
                rw [h1, Bool.true_and]
              · refine ⟨_, at_D, fw, next false ?_⟩
                unfold signOk
                cases h : (!decide (([c] : List Nat) < ("a" : Str).cps.toList)) with
                | false => rfl
                | true => exact absurd h h1
            · rintro H1 ⟨s1, at_D⟩
              rw [show z.cps.size = z.cps.toList.length by simp, List.take_length] at at_D
              refine ⟨D, _, rfl, SqL.of at_D, ?_⟩
              have q := k _ s1
              rw [show nmT (.fl (.str z)) = nameOk z from rfl] at q
              have e : nameOk z = (z.cps.toList.map signOk).all id := by
                rw [List.all_map]
                simp [nameOk, z1, z8, zo]
              rwa [e] at q
        · rw [decide_eq_false (show ¬ ((z.length : Nat) : Int) ≤ 8 by omega)]
          exact iteT (no (by simp [nameOk, z8]))
      · rw [decide_eq_false (show ¬ (1 : Int) ≤ (z.length : Nat) by omega)]
        exact iteF ⟨_, rfl, iteT (no (by simp [nameOk, z1]))⟩
end
end K18

namespace K18
open DL (Callee pe_callee)
open PySem PySem.Spec PyProof.Rows L2
open Cal EnuT Sqx Exn Keys

/-- how it ends with InvalidHouse of a number -/
def Bad (CH : Addr) (H : Hp) (E : XK) (i : Nat) : Prop := ∀ H' d, Same H H' → H d = none → H' d = some (.xd [("at", .int (i : Nat))]) → E (.ref CH) (some d) H'
def strT (s : Str) : Tv := .fl (.str s)
structure GoodPs (ps : List Str) : Prop where
  len : ps.length ≤ 8
  nodup : ps.Nodup
  name : ∀ x, x ∈ ps → nameOk x = true
def OddPart (ps : List Str) (t : Tv) : Prop := ps.length = 8 ∨ nmT t = false ∨ ∃ s, s ∈ ps ∧ t = strT s
def spParts (CH : Addr) : Sp := fun vs H Q E => ∃ v a, vs = [v] ∧ AvAt H v a ∧ ((((∃ u, a = .fl u) ∨ a = .sq []) ∧ Bad CH H E 0) ∨
  ∃ ps rs, a = .sq (ps.map strT ++ rs) ∧ 1 ≤ ps.length + rs.length ∧ GoodPs ps ∧ (∀ t rest, rs = t :: rest → OddPart ps t ∧ Bad CH H E ps.length) ∧ (rs = [] → ∀ H' t, Same H H' → H' t = some (.tup (ps.map V.str)) → Q (.ref t) H'))
theorem flat_strs (ps : List Str) : (ps.map V.str).all flatV = true := by
  rw [List.all_map]
  exact List.all_eq_true.mpr fun _ _ => rfl
theorem inV_strs (x : Str) (ps : List Str) : inV (.str x) (ps.map V.str) = decide (x ∈ ps) := by
  unfold inV
  rw [List.any_map]
  induction ps with
  | nil => rfl
  | cons y ps ih =>
    rw [List.any_cons, ih]
    have : eqV (.str y) (.str x) = decide (y = x) := by
      by_cases h : y = x
      · subst h
        simp [eqV]
      · simp [eqV, h]
    show (eqV (.str y) (.str x) || decide (x ∈ ps)) = _
    rw [this]
    by_cases h : y = x
    · simp [h]
    · simp [h, Ne.symm h]
theorem paired_split {α β : Type} {R : α → β → Prop} : ∀ {xs : List α} {ys zs : List β}, Paired R xs (ys ++ zs) → ∃ as bs, xs = as ++ bs ∧ Paired R as ys ∧ Paired R bs zs
  | xs, [], zs, h => ⟨[], xs, rfl, .nil, h⟩
  | _, y :: ys, zs, .cons r t => by
    obtain ⟨as, bs, rfl, h1, h2⟩ := paired_split t
    exact ⟨_ :: as, bs, rfl, .cons r h1, h2⟩
theorem strs_of {H : Hp} : ∀ {as : List V} {ps : List Str}, Paired (TvAt H) as (ps.map strT) → as = ps.map V.str
  | _, [], .nil => rfl
  | _, p :: ps, .cons r t => by
    rw [strs_of t]
    obtain ⟨rfl, _⟩ := r
    rfl
theorem cut_takeV (xs : List V) (k : Nat) (h : k ≤ xs.length) : cutV xs none (some ((k : Nat) : Int)) = xs.take k := by
  unfold cutV HT.sIx
  dsimp only
  rw [if_neg (by omega), Int.toNat_natCast, Nat.min_eq_left h]
  simp
section
variable {P : Program} {w : World} {K : W.Frag} {mg : Str → Option Value} {base : Heap}
theorem scCP : FnScope ["parts", "at", "name"] ["parts"] (defScope sChParts) := ⟨rfl, rfl, rfl, by decide +kernel, rfl, by decide +kernel, by decide +kernel⟩
theorem ok_chparts {f CH : Addr} {fd : FuncData} (F : Fun K "_checked_parts" "_checked_parts" sChParts f fd) (B : Bl mg) (cH : CE P w K mg base "InvalidHouse" CH "at") (Sq : Callee P w K mg base "is_sequence" 1 ["value"] spSeq) (Nm : Callee P w K mg base "is_name" 1 ["value"] spName)
    {mt : Tok} (mP : mg "MOST_PARTS" = some (.int 8 mt)) : FnOk P w K mg base (L2.CX P w) 3 f fd ["parts"] (spParts CH) := by
  refine F.okX scCP (fun vs H Q E h => ?_) (fun cdv A outer s H vs Q E hr h => ?_)
  · obtain ⟨v, a, rfl, _⟩ := h
    rfl
  · obtain ⟨v, a, rfl, at_v, ev⟩ := h
    have hr1 := hr.mono (show 1 ≤ 2 by decide)
    refine ⟨_, pss_cons (ps_if (PW.pt (pw_or (pt_not (pt_val (pe_callee Sq hr1 rfl (pa_cons (pv 0) pa_nil)))) (pw_or1 (pt_not (pt_truth (pv 0) (by intro _; rfl)))))) (pss_one (ps_raise rfl (takes_of rfl rfl rfl rfl) (pmk_exn cH hr rfl pe_int))) pss_nil)
      (pss_cons (ps_for PassesOwn.leaving rfl (pi_enumS (by rfl) B.enu (pa_cons (pv 0) pa_nil)) (pg_tup rfl (pgs_cons (pg_name (i := 1) scCP.nd rfl (Or.inl rfl)) (pgs_cons (pg_name (i := 2) scCP.nd rfl (Or.inl rfl)) pgs_nil)))
        (pss_one (ps_if (PW.pt (pw_or (pt_cmpR op_ge (pv 1) (pe_glob (v := .int 8) rfl mP ⟨_, rfl⟩) (nomark _)) (pw_or (pt_not (pt_val (pe_callee Nm hr1 rfl (pa_cons (pv 2) pa_nil)))) (pw_or1 (pt_cmpR op_in_seq (pv 2) (pe_slice (SlR.or sl_list sl_tup) (pv 0) po_none (po_some (pv 1))) (by rfl))))))
          (pss_one (ps_raise rfl (takes_of rfl rfl rfl rfl) (pmk_exn cH hr rfl (pv 1)))) pss_nil)))
      (pss_one (ps_ret (pe_callTy call_tuple_of (by rfl) B.tuple (by decide +kernel) (pa_cons (pv 0) pa_nil))))), ?_⟩
    rcases ev with ⟨(⟨u, rfl⟩ | rfl), bad⟩ | ⟨ps, rs, rfl, ne, good, odd, k⟩
    · obtain ⟨rfl, fo⟩ := at_v
      exact ⟨_, rfl, v, none, rfl, fo, fun H1 s1 => ⟨_, rfl, iteT (iteT ⟨_, rfl, fun d nd => bad _ d (s1.trans (same_upd nd)) (s1.free nd) upd_same⟩)⟩⟩
    · obtain ⟨a, vs, rfl, sq, pw, _⟩ := at_v
      cases pw
      refine ⟨_, rfl, _, some [], rfl, ⟨a, rfl, sq⟩, fun H1 s1 => ⟨_, rfl, iteF ⟨_, rfl, false, ?_, ?_⟩⟩⟩
      · rcases sq with e | e
        · exact .inl ⟨_, SqL.of (s1 _ _ e), rfl⟩
        · exact .inr (.inl ⟨_, SqT.of (s1 _ _ e), rfl⟩)
      · exact iteT ⟨_, rfl, fun d nd => bad _ d (s1.trans (same_upd nd)) (s1.free nd) upd_same⟩
    · obtain ⟨a, vs, rfl, sq, pw, l20⟩ := at_v
      obtain ⟨as, ws, rfl, pa, pb⟩ := paired_split pw
      obtain rfl := strs_of pa
      have lw := paired_len pb
      refine ⟨_, rfl, _, some _, rfl, ⟨a, rfl, sq⟩, fun H1 s1 => ⟨_, rfl, iteF ⟨_, rfl, true, ?_, iteF ?_⟩⟩⟩
      · have : true = !(ps.map V.str ++ ws).isEmpty := by
          cases ps with
          | nil => cases ws with
            | nil => simp at ne lw; omega
            | cons _ _ => rfl
          | cons _ _ => rfl
        rcases sq with e | e
        · exact .inl ⟨_, SqL.of (s1 _ _ e), this⟩
        · exact .inr (.inl ⟨_, SqT.of (s1 _ _ e), this⟩)
      refine ⟨_, rfl, a, rfl, en_for (xs := ps.map V.str ++ ws) (fun i σ H' => ∃ v1 v2 : Option V, σ = [some (.ref a), v1, v2] ∧ Same H1 H' ∧ i ≤ ps.length) (sq.same s1) ⟨_, _, rfl, Same.refl _, Nat.zero_le _⟩ (fun i σ' H' _ z => ?_) ?_ ?_⟩
      · obtain ⟨_, _, _, s, _⟩ := z
        exact fun o e => s _ _ e
      · rintro i x σ' H2 T hx ⟨v1, v2, rfl, s2, le⟩ nT
        have s3 := same_upd (o := .tup [.int (i : Nat), x]) nT
        have s23 := s2.trans s3
        have s03 := s1.trans s23
        obtain ⟨t, ht, ax⟩ := paired_get pw hx
        have at_end : i = ps.length → ∃ rest, rs = t :: rest := fun e => by
          rw [List.getElem?_append_right (by rw [List.length_map]; omega), List.length_map, e, Nat.sub_self] at ht
          cases rs with
          | nil => cases ht
          | cons y rest => exact ⟨rest, by cases ht; rfl⟩
        have here : ∀ lt : i < ps.length, t = strT ps[i] := fun lt => by
          rw [List.getElem?_append_left (by rw [List.length_map]; omega), List.getElem?_map, List.getElem?_eq_getElem lt] at ht
          exact (Option.some.inj ht).symm
        have fail : i = ps.length → ∀ {H'}, Same H H' → ∀ d, H' d = none → E (.ref CH) (some d) (upd H' d (.xd [("at", .int (i : Nat))])) := fun e H' s' d nd => by
          obtain ⟨rest, er⟩ := at_end e
          have := (odd t rest er).2
          rw [← e] at this
          exact this _ d (s'.trans (same_upd nd)) (s'.free nd) upd_same
        have le8 := good.len
        refine ⟨T, _, rfl, SqT.of upd_same, rfl, _, _, rfl, _, _, rfl, ⟨rfl, _, rfl, _, _, rfl, rfl, _, rfl, ?_⟩⟩
        by_cases i8 : i = 8
        · rw [decide_eq_true (show (8 : Int) ≤ (i : Nat) by omega)]
          exact iteT (iteT ⟨_, rfl, _, rfl, fun d nd => fail (by omega) s03 d nd⟩)
        rw [decide_eq_false (show ¬ (8 : Int) ≤ (i : Nat) by omega)]
        refine iteF ⟨_, rfl, x, t, rfl, (ax.same s03), fun H4 s4 => ⟨_, rfl, ?_⟩⟩
        have s04 := s03.trans s4
        cases nt : nmT t with
        | false =>
          refine iteT (iteT ⟨_, rfl, _, rfl, fun d nd => fail ?_ s04 d nd⟩)
          by_cases lt : i < ps.length
          · rw [here lt, show nmT (strT ps[i]) = nameOk ps[i] from rfl, good.name _ (List.getElem_mem lt)] at nt
            cases nt
          · omega
        | true =>
          obtain ⟨s, rfl⟩ : ∃ s, t = strT s := by
            cases t with
            | sq _ => cases nt
            | fl u => cases u <;> first | exact ⟨_, rfl⟩ | cases nt
          obtain ⟨rfl, _⟩ := ax
          have m1 : s ∈ ps.take i → i = ps.length := fun h => by
            by_cases lt : i < ps.length
            · have e := here lt
              injection e with e
              injection e with e
              obtain ⟨j, hj, ej⟩ := List.getElem_of_mem h
              rw [List.length_take] at hj
              rw [List.getElem_take] at ej
              have := List.pairwise_iff_getElem.mp (List.nodup_iff_pairwise_ne.mp good.nodup) j i (by omega) lt (by omega)
              exact absurd (ej.trans e) this
            · omega
          have m2 : s ∉ ps.take i → i < ps.length := fun h => by
            apply Nat.lt_of_not_le
            intro ge
            have e : i = ps.length := by omega
            obtain ⟨rest, er⟩ := at_end e
            rcases (odd _ rest er).1 with z | z | ⟨s', hs', es⟩
            · omega
            · rw [nt] at z; cases z
            · injection es with es
              injection es with es
              rw [e, List.take_length, es] at h
              exact h hs'
          have take : (ps.map V.str ++ ws).take i = (ps.take i).map V.str := by
            rw [List.take_append_of_le_length (by rw [List.length_map]; exact le), List.map_take]
          have l1 : i ≤ (ps.map V.str ++ ws).length := by rw [List.length_append, List.length_map]; omega
          rcases sq with e | e
          · refine iteF ⟨_, rfl, _, rfl, _, rfl, _, rfl, .inl ⟨a, _, rfl, SqL.of (s04 _ _ e), fun q nq => ?_⟩⟩
            rw [cut_takeV _ _ l1, take]
            refine ⟨q, _, rfl, .inl (SqL.of upd_same), rfl, flat_strs _, _, rfl, ?_⟩
            rw [inV_strs]
            have s5 := same_upd (o := .lst ((ps.take i).map V.str)) nq
            refine ite2 (fun h => ?_) (fun h => ?_)
            · exact ⟨_, rfl, _, rfl, fun d nd => fail (m1 (of_decide_eq_true h)) (s04.trans s5) d nd⟩
            · exact ⟨_, _, rfl, (s23.trans s4).trans s5, m2 (fun z => h (decide_eq_true z))⟩
          · refine iteF ⟨_, rfl, _, rfl, _, rfl, _, rfl, .inr ⟨a, _, rfl, SqT.of (s04 _ _ e), ?_, fun q nq => ?_⟩⟩
            · rintro ⟨_, z⟩
              have lt : i < (ps.map V.str ++ ws).length := (List.getElem?_eq_some_iff.mp hx).1
              rw [HT.sIx_nat] at z
              omega
            rw [cut_takeV _ _ l1, take]
            refine ⟨q, _, rfl, .inr (SqT.of upd_same), rfl, flat_strs _, _, rfl, ?_⟩
            rw [inV_strs]
            have s5 := same_upd (o := .tup ((ps.take i).map V.str)) nq
            refine ite2 (fun h => ?_) (fun h => ?_)
            · exact ⟨_, rfl, _, rfl, fun d nd => fail (m1 (of_decide_eq_true h)) (s04.trans s5) d nd⟩
            · exact ⟨_, _, rfl, (s23.trans s4).trans s5, m2 (fun z => h (decide_eq_true z))⟩
      · rintro σ' H2 ⟨v1, v2, rfl, s2, le⟩
        have l0 : ws = [] := by
          rw [List.length_append, List.length_map] at le
          exact List.eq_nil_of_length_eq_zero (by omega)
        subst l0
        have r0 : rs = [] := List.eq_nil_of_length_eq_zero (by rw [← lw]; rfl)
        have s02 := s1.trans s2
        rw [List.append_nil] at sq
        rcases sq with e | e
        · exact ⟨_, rfl, a, _, rfl, .inl ⟨SqL.of (s02 _ _ e), fun l nl => k r0 _ l (s02.trans (same_upd nl)) upd_same⟩⟩
        · exact ⟨_, rfl, a, _, rfl, .inr ⟨SqT.of (s02 _ _ e), k r0 _ a s02 (s02 _ _ e)⟩⟩
end
end K18

namespace K18
open DL (Callee pe_callee)
open PySem PySem.Spec PyProof.Rows L2
open Cal EnuT Sqx Exn Keys

def endsV (ps : List Str) : List V := ps.map V.str ++ [.str "out"]
/-- whether any value is a door between these parts and the yard -/
def doorB (ps : List Str) : Tv → Bool
  | .sq [x0, x1, x2, x3] => nmB x0 && (inV x1 (endsV ps) && (inV x2 (endsV ps) && (!decide (x1 = x2) && isBl x3)))
  | _ => false
def cellB (ps : List Str) : Tv → Bool
  | .sq [x0, x1, x2] => nmB x0 && (inV x1 (ps.map V.str) && isBl x2)
  | _ => false
def spThing (B : List Str → Tv → Bool) : Sp := fun vs H Q _ => ∃ v tp t ps, vs = [v, .ref tp] ∧ TvAt H v t ∧ H tp = some (.tup (ps.map V.str)) ∧ ps.length ≤ 8 ∧ ∀ H', Same H H' → Q (.bl (B ps t)) H'
theorem flat_of {v : V} (h : flatOk v = true) : flatV v = true := by cases v <;> first | rfl | cases h
theorem in_str {x : V} (h : flatOk x = true) {ps : List Str} (i : inV x (ps.map V.str) = true) : ∃ s, x = .str s ∧ s ∈ ps := by
  cases x with
  | str s =>
    rw [inV_strs] at i
    exact ⟨s, rfl, of_decide_eq_true i⟩
  | non => exfalso; induction ps with
    | nil => cases i
    | cons p ps ih => exact ih (by simpa [inV, eqV] using i)
  | bl b => exfalso; induction ps with
    | nil => cases i
    | cons p ps ih => exact ih (by simpa [inV, eqV] using i)
  | int b => exfalso; induction ps with
    | nil => cases i
    | cons p ps ih => exact ih (by simpa [inV, eqV] using i)
  | _ => cases h
theorem ends_strs (ps : List Str) : endsV ps = (ps ++ [("out" : Str)]).map V.str := by
  rw [List.map_append]
  rfl
theorem len_ne {n m : Nat} : decide (V.int (n : Nat) = V.int (m : Nat)) = decide (n = m) := by
  by_cases e : n = m
  · rw [e]
    simp
  · rw [decide_eq_false e]
    refine decide_eq_false fun z => e ?_
    injection z with z
    omega
section
variable {P : Program} {w : World} {K : W.Frag} {mg : Str → Option Value} {base : Heap}
abbrev ND : List Str := ["door", "parts", "name", "one", "other", "is_open", "ends"]
theorem scDo : FnScope ND ["door", "parts"] (defScope sIsDoor) := ⟨rfl, rfl, rfl, by decide +kernel, rfl, by decide +kernel, by decide +kernel⟩
theorem ok_isdoor {f : Addr} {fd : FuncData} (F : Fun K "_is_door" "_is_door" sIsDoor f fd) (B : Bl mg) (Sq : Callee P w K mg base "is_sequence" 1 ["value"] spSeq) (Nm : Callee P w K mg base "is_name" 1 ["value"] spName) :
    FnOk P w K mg base CX0 2 f fd ["door", "parts"] (spThing doorB) := by
  refine F.ok scDo (fun vs H Q E h => ?_) (fun cdv A outer s H vs Q E hr h => ?_)
  · obtain ⟨v, tp, t, ps, rfl, _⟩ := h
    rfl
  · obtain ⟨v, tp, t, ps, rfl, ht, hp, p8, k⟩ := h
    refine ⟨_, pss_cons (ps_if (PW.pt (pw_or (pt_not (pt_val (pe_callee Sq hr rfl (pa_cons (pv 0) pa_nil)))) (pw_or1 (pt_cmpR op_ne (pe_callB call_len_seq (by rfl) B.nums.len PySem.boot_len (pa_cons (pv 0) pa_nil)) pe_int (nomark _))))) (pss_one (ps_ret pe_bl)) pss_nil)
      (pss_cons (ps_asg (pv 0) (PG_or (pg_tup rfl (pgs_cons (pg_name (i := 2) scDo.nd rfl (Or.inl rfl)) (pgs_cons (pg_name (i := 3) scDo.nd rfl (Or.inl rfl)) (pgs_cons (pg_name (i := 4) scDo.nd rfl (Or.inl rfl)) (pgs_cons (pg_name (i := 5) scDo.nd rfl (Or.inl rfl)) pgs_nil)))))
        (pg_unl rfl (pgs_cons (pg_name (i := 2) scDo.nd rfl (Or.inl rfl)) (pgs_cons (pg_name (i := 3) scDo.nd rfl (Or.inl rfl)) (pgs_cons (pg_name (i := 4) scDo.nd rfl (Or.inl rfl)) (pgs_cons (pg_name (i := 5) scDo.nd rfl (Or.inl rfl)) pgs_nil)))))))
      (pss_cons (ps_set (i := 6) scDo.nd rfl (Or.inl rfl) (pe_tup (StX.pa_star (pv 1) (pa_cons pe_str pa_nil))))
      (pss_one (ps_ret (pe_and (pe_callee Nm hr rfl (pa_cons (pv 2) pa_nil)) (pe_and (pe_cmpR op_in_seq (pv 3) (pv 6) (by rfl)) (pe_and (pe_cmpR op_in_seq (pv 4) (pv 6) (by rfl)) (pe_and (pe_cmpR op_ne (pv 3) (pv 4) (nomark _))
        (pe_one (pe_callB call_isi (by rfl) B.isi (by decide +kernel) (pa_cons (pv 5) (pa_cons (pe_bltn (v := .ty "bool") rfl B.bool (by decide +kernel) rfl) pa_nil)))))))))))), ?_⟩
    refine ⟨_, rfl, v, _, rfl, ht.sqof, fun H1 s1 => ⟨_, rfl, ?_⟩⟩
    cases t with
    | fl u => exact iteT (iteT (k _ s1))
    | sq xs =>
    obtain ⟨a, rfl, sq, l20, fl⟩ := ht
    refine iteF ⟨_, rfl, a, xs, rfl, (sq.same s1).sq, rfl, _, rfl, ?_⟩
    show ite ((!decide (V.int (xs.length : Nat) = V.int (4 : Nat))) = true) _ _
    rw [len_ne]
    by_cases l4 : xs.length = 4
    · obtain ⟨x0, x1, x2, x3, rfl⟩ : ∃ x0 x1 x2 x3, xs = [x0, x1, x2, x3] := by
        match xs, l4 with
        | [x0, x1, x2, x3], _ => exact ⟨x0, x1, x2, x3, rfl⟩
      have f0 := fl x0 (by simp)
      have f1 := fl x1 (by simp)
      have f2 := fl x2 (by simp)
      have f3 := fl x3 (by simp)
      refine iteF ⟨_, rfl, un_sq (sq.same s1) rfl ⟨_, _, rfl, _, _, rfl, _, _, rfl, _, _, rfl, rfl, ?_⟩⟩
      refine ⟨_, rfl, tp, _, rfl, .inl (SqT.of (s1 _ _ hp)), ?_, fun e ne' => ?_⟩
      · have : (20 : Nat) ≤ sizeLine := by decide
        rw [List.length_append, List.length_map]
        show ps.length + 1 ≤ _
        omega
      have s2 := same_upd (o := .tup (endsV ps)) ne'
      have fle : (endsV ps).all flatV = true := by rw [ends_strs]; exact flat_strs _
      have b : doorB ps (.sq [x0, x1, x2, x3]) = (nmT (.fl x0) && (inV x1 (endsV ps) && (inV x2 (endsV ps) && (!decide (x1 = x2) && isBl x3)))) := rfl
      rw [b] at k
      refine ⟨_, rfl, x0, .fl x0, rfl, ⟨rfl, f0⟩, fun H3 s3 => ⟨_, rfl, ?_⟩⟩
      have at_e := s3 e _ upd_same
      have sall := (s1.trans s2).trans s3
      cases c0 : nmT (.fl x0) with
      | false =>
        rw [c0] at k
        exact iteF (k _ sall)
      | true =>
      rw [c0, Bool.true_and] at k
      refine iteT ⟨_, rfl, _, rfl, e, _, rfl, .inr (SqT.of at_e), flat_of f1, fle, ⟨_, rfl, ?_⟩⟩
      show ite (inV x1 (endsV ps) = true) _ _
      cases c1 : inV x1 (endsV ps) with
      | false =>
        rw [c1] at k
        exact iteF (k _ sall)
      | true =>
      rw [c1, Bool.true_and] at k
      refine iteT ⟨_, rfl, _, rfl, e, _, rfl, .inr (SqT.of at_e), flat_of f2, fle, ⟨_, rfl, ?_⟩⟩
      show ite (inV x2 (endsV ps) = true) _ _
      cases c2 : inV x2 (endsV ps) with
      | false =>
        rw [c2] at k
        exact iteF (k _ sall)
      | true =>
      rw [c2, Bool.true_and] at k
      rw [ends_strs] at c1 c2
      obtain ⟨s1', rfl, _⟩ := in_str f1 c1
      obtain ⟨s2', rfl, _⟩ := in_str f2 c2
      refine iteT ⟨_, rfl, _, rfl, rfl, ⟨_, rfl, ?_⟩⟩
      cases c3 : (!decide (V.str s1' = V.str s2')) with
      | false =>
        rw [c3] at k
        exact iteF (k _ sall)
      | true =>
      rw [c3, Bool.true_and] at k
      obtain ⟨ty, t1, _, _, t2⟩ := flat_ty (K := K) (H := H3) f3
      exact iteT ⟨_, rfl, _, _, _, _, _, rfl, .ty "bool", t1, t2, k _ sall⟩
    · rw [decide_eq_false l4]
      refine iteT ?_
      have : doorB ps (.sq xs) = false := by
        unfold doorB
        split
        · rename_i h
          injection h with h
          rw [h] at l4
          exact absurd rfl l4
        · rfl
      have q := k _ s1
      rwa [this] at q
theorem scCe : FnScope ["cell", "parts"] ["cell", "parts"] (defScope sIsCell) := ⟨rfl, rfl, rfl, by decide +kernel, rfl, by decide +kernel, by decide +kernel⟩
theorem ok_iscell {f : Addr} {fd : FuncData} (F : Fun K "_is_cell" "_is_cell" sIsCell f fd) (B : Bl mg) (Sq : Callee P w K mg base "is_sequence" 1 ["value"] spSeq) (Nm : Callee P w K mg base "is_name" 1 ["value"] spName) :
    FnOk P w K mg base CX0 2 f fd ["cell", "parts"] (spThing cellB) := by
  refine F.ok scCe (fun vs H Q E h => ?_) (fun cdv A outer s H vs Q E hr h => ?_)
  · obtain ⟨v, tp, t, ps, rfl, _⟩ := h
    rfl
  · obtain ⟨v, tp, t, ps, rfl, ht, hp, p8, k⟩ := h
    refine ⟨_, pss_cons (ps_if (PW.pt (pw_or (pt_not (pt_val (pe_callee Sq hr rfl (pa_cons (pv 0) pa_nil)))) (pw_or1 (pt_cmpR op_ne (pe_callB call_len_seq (by rfl) B.nums.len PySem.boot_len (pa_cons (pv 0) pa_nil)) pe_int (nomark _))))) (pss_one (ps_ret pe_bl)) pss_nil)
      (pss_one (ps_ret (pe_and (pe_callee Nm hr rfl (pa_cons (pe_ix ix_seq (pv 0) pe_int (fun _ _ => rfl)) pa_nil)) (pe_and (pe_cmpR op_in_seq (pe_ix ix_seq (pv 0) pe_int (fun _ _ => rfl)) (pv 1) (by rfl))
        (pe_one (pe_callB call_isi (by rfl) B.isi (by decide +kernel) (pa_cons (pe_ix ix_seq (pv 0) pe_int (fun _ _ => rfl)) (pa_cons (pe_bltn (v := .ty "bool") rfl B.bool (by decide +kernel) rfl) pa_nil)))))))), ?_⟩
    refine ⟨_, rfl, v, _, rfl, ht.sqof, fun H1 s1 => ⟨_, rfl, ?_⟩⟩
    cases t with
    | fl u => exact iteT (iteT (k _ s1))
    | sq xs =>
    obtain ⟨a, rfl, sq, l20, fl⟩ := ht
    refine iteF ⟨_, rfl, a, xs, rfl, (sq.same s1).sq, rfl, _, rfl, ?_⟩
    show ite ((!decide (V.int (xs.length : Nat) = V.int (3 : Nat))) = true) _ _
    rw [len_ne]
    by_cases l4 : xs.length = 3
    · obtain ⟨x0, x1, x2, rfl⟩ : ∃ x0 x1 x2, xs = [x0, x1, x2] := by
        match xs, l4 with
        | [x0, x1, x2], _ => exact ⟨x0, x1, x2, rfl⟩
      have f0 := fl x0 (by simp)
      have f1 := fl x1 (by simp)
      have f2 := fl x2 (by simp)
      have fle := flat_strs ps
      have b : cellB ps (.sq [x0, x1, x2]) = (nmT (.fl x0) && (inV x1 (ps.map V.str) && isBl x2)) := rfl
      rw [b] at k
      refine iteF ⟨_, rfl, ix_sq (sq.same s1) (atI_nat (j := 0) rfl) ⟨x0, .fl x0, rfl, ⟨rfl, f0⟩, fun H3 s3 => ⟨_, rfl, ?_⟩⟩⟩
      have sall := s1.trans s3
      cases c0 : nmT (.fl x0) with
      | false =>
        rw [c0] at k
        exact iteF (k _ sall)
      | true =>
      rw [c0, Bool.true_and] at k
      refine iteT ⟨_, rfl, ix_sq (sq.same sall) (atI_nat (j := 1) rfl) ⟨_, rfl, tp, _, rfl, .inr (SqT.of (sall _ _ hp)), flat_of f1, fle, ⟨_, rfl, ?_⟩⟩⟩
      show ite (inV x1 (ps.map V.str) = true) _ _
      cases c1 : inV x1 (ps.map V.str) with
      | false =>
        rw [c1] at k
        exact iteF (k _ sall)
      | true =>
      rw [c1, Bool.true_and] at k
      obtain ⟨ty, t1, _, _, t2⟩ := flat_ty (K := K) (H := H3) f2
      exact iteT ⟨_, rfl, ix_sq (sq.same sall) (atI_nat (j := 2) rfl) ⟨_, _, _, _, _, rfl, .ty "bool", t1, t2, k _ sall⟩⟩
    · rw [decide_eq_false l4]
      refine iteT ?_
      have : cellB ps (.sq xs) = false := by
        unfold cellB
        split
        · rename_i h
          injection h with h
          rw [h] at l4
          exact absurd rfl l4
        · rfl
      have q := k _ s1
      rwa [this] at q
end
end K18

namespace K18
open DL (Callee pe_callee)
open PySem PySem.Spec PyProof.Rows L2
open Cal EnuT Sqx Exn Keys

def nameT : Tv → Option Str
  | .sq (.str n :: _) => some n
  | _ => none
structure OkThings (B : List Str → Tv → Bool) (ps tn : List Str) (m : Nat) (ts : List Tv) (ns : List Str) : Prop where
  ok : ∀ t, t ∈ ts → B ps t = true
  names : ts.map nameT = ns.map some
  nodup : (tn ++ ns).Nodup
  few : ts.length ≤ m
def OddThing (B : List Str → Tv → Bool) (ps tn : List Str) (m : Nat) (ts : List Tv) (ns : List Str) (t : Tv) : Prop := ts.length = m ∨ B ps t = false ∨ ∃ n, nameT t = some n ∧ n ∈ tn ++ ns
def TupAt (H : Hp) (w : V) (t : Tv) : Prop := ∃ c xs, w = .ref c ∧ t = .sq xs ∧ H c = some (.tup xs)
def NamedB (B : List Str → Tv → Bool) : Prop := ∀ ps t, B ps t = true → ∃ n xs, t = .sq (.str n :: xs)
theorem named_door : NamedB doorB := by
  intro ps t h
  unfold doorB at h
  split at h
  · rename_i x0 x1 x2 x3
    cases x0 <;> first | exact ⟨_, _, rfl⟩ | (simp [nmB] at h)
  · cases h
theorem named_cell : NamedB cellB := by
  intro ps t h
  unfold cellB at h
  split at h
  · rename_i x0 x1 x2
    cases x0 <;> first | exact ⟨_, _, rfl⟩ | (simp [nmB] at h)
  · cases h
def spThings' (CH : Addr) (S : Addr → Option Sp) : Sp := fun vs H Q E => ∃ (v : V) (m : Nat) (tp tk f : Addr) (b : Av) (ps tn : List Str) (B : List Str → Tv → Bool), vs = [v, .int m, .ref tp, .ref tk, .ref f] ∧ AvAt H v b ∧ m ≤ 20 ∧ H tp = some (.tup (ps.map V.str)) ∧ ps.length ≤ 8 ∧
  SeqAt H tk (tn.map V.str) ∧ tn.length ≤ 40 ∧ S f = some (spThing B) ∧ NamedB B ∧ (((∃ u, b = .fl u) ∧ Bad CH H E tn.length) ∨
  ∃ ts rs ns, b = .sq (ts ++ rs) ∧ OkThings B ps tn m ts ns ∧ (∀ t rest, rs = t :: rest → OddThing B ps tn m ts ns t ∧ Bad CH H E (tn.length + ts.length)) ∧
    (rs = [] → ∀ H' t ws, Same H H' → H' t = some (.tup ws) → Paired (TupAt H') ws ts → Q (.ref t) H'))
abbrev TupCall (K : W.Frag) (i : Nat) : TE := tCB (fun xs H Q => ∃ p ys, xs = [V.ref p] ∧ ((SqL K H p ys ∧ ∀ (l : Addr), H l = none → Q (.ref l) (upd H l (.tup ys))) ∨ SqT K H p ys ∧ Q (.ref p) H)) (tCons (tVar i) tNil)
theorem ret_one {te : TE} {D : Ends} {σ : L2.St} {H : Hp} (h : te σ H D.rt) : tRet te D σ H := h
theorem cb_one {r : List V → Hp → VK → Prop} {te : TE} {σ : L2.St} {H : Hp} {Q : VK} (h : te σ H fun x H1 => r [x] H1 Q) : tCB r (tCons te tNil) σ H Q := h
section
variable {P : Program} {w : World} {K : W.Frag} {mg : Str → Option Value} {base : Heap}
abbrev NCT : List Str := ["things", "most", "parts", "taken", "is_thing", "names", "at", "thing"]
theorem scCT : FnScope NCT ["things", "most", "parts", "taken", "is_thing"] (defScope sChThings) := ⟨rfl, rfl, rfl, by decide +kernel, rfl, by decide +kernel, by decide +kernel⟩
theorem ok_chthings {f CH : Addr} {fd : FuncData} (F : Fun K "_checked_things" "_checked_things" sChThings f fd) (B : Bl mg) (cH : CE P w K mg base "InvalidHouse" CH "at") (Sq : Callee P w K mg base "is_sequence" 1 ["value"] spSeq) (S : Addr → Option Sp) (hS : ∀ f sp, S f = some sp → Held P w K mg base 2 f sp) :
    FnOk P w K mg base (L2.CX P w) 3 f fd ["things", "most", "parts", "taken", "is_thing"] (spThings' CH S) := by
  refine F.okX scCT (fun vs H Q E h => ?_) (fun cdv A outer s H vs Q E hr h => ?_)
  · obtain ⟨v, m, tp, tk, f, b, ps, tn, Bt, rfl, _⟩ := h
    rfl
  · obtain ⟨v, m, tp, tk, f, b, ps, tn, Bt, rfl, at_v, m20, hp, p8, sk, t40, hf, nB, ev⟩ := h
    have hr1 := hr.mono (show 1 ≤ 2 by decide)
    refine ⟨_, pss_cons (ps_set (i := 5) scCT.nd rfl (Or.inl rfl) (pe_callTy call_list_of (by rfl) B.list (by decide +kernel) (pa_cons (pv 3) pa_nil)))
      (pss_cons (ps_if (pt_not (pt_val (pe_callee Sq hr1 rfl (pa_cons (pv 0) pa_nil)))) (pss_one (ps_raise rfl (takes_of rfl rfl rfl rfl) (pmk_exn cH hr rfl (pe_callB call_len_seq (by rfl) B.nums.len PySem.boot_len (pa_cons (pv 5) pa_nil))))) pss_nil)
      (pss_cons (ps_for PassesOwn.leaving rfl (pi_enumS (by rfl) B.enu (pa_cons (pv 0) pa_nil)) (pg_tup rfl (pgs_cons (pg_name (i := 6) scCT.nd rfl (Or.inl rfl)) (pgs_cons (pg_name (i := 7) scCT.nd rfl (Or.inl rfl)) pgs_nil)))
        (pss_cons (ps_if (PW.pt (pw_or (pt_cmpR op_ge (pv 6) (pv 1) (nomark _)) (pw_or (pt_not (pt_val (pe_callA (i := 4) (S := S) hS hr rfl (Or.inl rfl) (pa_cons (pv 7) (pa_cons (pv 2) pa_nil))))) (pw_or1 (pt_cmpR op_in_seq (pe_ix ix_seq (pv 7) pe_int (fun _ _ => rfl)) (pv 5) (by rfl)))))) (pss_one (ps_raise rfl (takes_of rfl rfl rfl rfl) (pmk_exn cH hr rfl (pe_callB call_len_seq (by rfl) B.nums.len PySem.boot_len (pa_cons (pv 5) pa_nil))))) pss_nil)
        (pss_one (ps_expr (pe_bm PySem.F.plainAttrs_list PySem.F.slot_list_append PySem.F.type_list_append mt_append (pv 5) (pa_cons (pe_ix ix_seq (pv 7) pe_int (fun _ _ => rfl)) pa_nil))))))
      (pss_one (ps_ret (pe_callTy call_tuple_of (by rfl) B.tuple (by decide +kernel) (pa_cons (pe_lc (own := [("thing", 7)]) (g := gName 7) (tt := tYes) (by rfl) scCT.nd (PI_or (pi_list (pv 0)) (pi_tup (pv 0)))
        (blkOk_by (own := [("thing", 7)]) (N := NCT) (sc := defScope sChThings) (by decide +kernel))
        (fun _ _ _ _ _ => pg_name (i := 7) scCT.nd rfl (Or.inl rfl)) (fun _ _ _ _ _ => pts_nil)
        (fun _ _ _ _ _ => (show PE _ _ (TupCall K 7) from pe_callTy call_tuple_of (by rfl) B.tuple (by decide +kernel) (pa_cons (pv 7) pa_nil)))) pa_nil)))))), ?_⟩
    refine ⟨_, rfl, tk, _, rfl, sk.sq, fun l nl => ?_⟩
    have s0 := same_upd (o := .lst (tn.map V.str)) nl
    rcases ev with ⟨⟨u, rfl⟩, bad⟩ | ⟨ts, rs, ns, rfl, okt, odd, k⟩
    · obtain ⟨rfl, fo⟩ := at_v
      refine ⟨_, rfl, v, none, rfl, fo, fun H1 s1 => ⟨_, rfl, iteT ⟨_, rfl, l, _, rfl, .inl (SqL.of (s1 _ _ upd_same)), ?_⟩⟩⟩
      rw [List.length_map]
      exact ⟨_, rfl, fun d nd => bad _ d ((s0.trans s1).trans (same_upd nd)) ((s0.trans s1).free nd) upd_same⟩
    · obtain ⟨a, vs, rfl, sq, pw, l20⟩ := at_v
      have lw := paired_len pw
      refine ⟨_, rfl, _, some _, rfl, ⟨a, rfl, sq.same s0⟩, fun H1 s1 => ⟨_, rfl, iteF ?_⟩⟩
      have s01 := s0.trans s1
      have at_l := s1 _ _ (upd_same (H := H) (a := l) (o := .lst (tn.map V.str)))
      have lne : ∀ {b o}, H b = some o → b ≠ l := fun {b o} e => ne_of_none e nl
      have lns : ns.length = ts.length := by
        have := congrArg List.length okt.names
        simpa using this.symm
      have la : a ≠ l := by
        rcases sq with e | e
        · exact lne e
        · exact lne e
      have keepa : ∀ {H' : Hp}, Same H H' → ∀ o, H1 a = some o → H' a = some o := fun {H'} s o e => by
        rcases sq with q | q
        · rw [s01 _ _ q] at e
          rw [← e]
          exact s _ _ q
        · rw [s01 _ _ q] at e
          rw [← e]
          exact s _ _ q
      have at_end : ∀ {i t}, i = ts.length → (ts ++ rs)[i]? = some t → ∃ rest, rs = t :: rest := fun {i t} e ht => by
        rw [List.getElem?_append_right (by omega), e, Nat.sub_self] at ht
        cases rs with
        | nil => cases ht
        | cons y rest => exact ⟨rest, by cases ht; rfl⟩
      have le_m := okt.few
      refine ⟨_, rfl, a, rfl, en_for (xs := vs) (fun i σ H' => ∃ v6 v7 : Option V, σ = [some (.ref a), some (.int (m : Nat)), some (.ref tp), some (.ref tk), some (.ref f), some (.ref l), v6, v7] ∧ Same H H' ∧ H' l = some (.lst ((tn ++ ns.take i).map V.str)) ∧ i ≤ ts.length)
        (sq.same s01) ⟨_, _, rfl, s01, by rw [List.take_zero, List.append_nil]; exact at_l, Nat.zero_le _⟩ (fun i σ' H' _ z => ?_) ?_ ?_⟩
      · obtain ⟨_, _, _, s, _⟩ := z
        exact keepa s
      · rintro i x σ' H2 T hx ⟨v6, v7, rfl, s2, at_l2, le⟩ nT
        have s3 := same_upd (o := .tup [.int (i : Nat), x]) nT
        have s23 := s2.trans s3
        have at_l3 := s3 _ _ at_l2
        obtain ⟨t, ht, ax⟩ := paired_get pw hx
        have fail : ∀ {H4 : Hp}, i = ts.length → Same H H4 → H4 l = some (.lst ((tn ++ ns.take i).map V.str)) → (SqL K H4 l ((tn ++ ns.take i).map V.str) ∨ SqT K H4 l ((tn ++ ns.take i).map V.str)) ∧ (∃ v, [V.int (((tn ++ ns.take i).map V.str).length : Nat)] = [v] ∧ ∀ d, H4 d = none → E (.ref CH) (some d) (upd H4 d (.xd [("at", v)]))) := fun {H4} e s4 at4 => by
          refine ⟨.inl (SqL.of at4), _, rfl, fun d nd => ?_⟩
          obtain ⟨rest, er⟩ := at_end e ht
          have b := (odd t rest er).2
          rw [List.length_map, List.length_append, List.length_take, lns, e, Nat.min_self]
          exact b _ d (s4.trans (same_upd nd)) (s4.free nd) upd_same
        refine ⟨T, _, rfl, SqT.of upd_same, rfl, _, _, rfl, _, _, rfl, ⟨rfl, _, rfl, _, rfl, _, _, rfl, rfl, _, rfl, ?_⟩⟩
        by_cases im : i = m
        · rw [decide_eq_true (show ((m : Nat) : Int) ≤ (i : Nat) by omega)]
          exact iteT (iteT ⟨_, rfl, l, _, rfl, (fail (by omega) s23 at_l3).1, (fail (by omega) s23 at_l3).2⟩)
        rw [decide_eq_false (show ¬ ((m : Nat) : Int) ≤ (i : Nat) by omega)]
        refine iteF ⟨f, _, rfl, hf, _, rfl, _, rfl, x, tp, t, ps, rfl, ax.same s23, s23 _ _ hp, p8, fun H4 s4 => ⟨_, rfl, ?_⟩⟩
        have s24 := s23.trans s4
        have at_l4 := s4 _ _ at_l3
        have here : ∀ lt : i < ts.length, t = ts[i] := fun lt => by
          rw [List.getElem?_append_left lt, List.getElem?_eq_getElem lt] at ht
          exact (Option.some.inj ht).symm
        cases tb : Bt ps t with
        | false =>
          have e : i = ts.length := by
            by_cases lt : i < ts.length
            · rw [here lt, okt.ok _ (List.getElem_mem lt)] at tb
              cases tb
            · omega
          exact iteT (iteT ⟨_, rfl, l, _, rfl, (fail e s24 at_l4).1, (fail e s24 at_l4).2⟩)
        | true =>
          obtain ⟨n, ys, rfl⟩ := nB ps t tb
          obtain ⟨c, rfl, sc, _⟩ := ax.same s24
          have nth : ∀ lt : i < ts.length, ∃ h : i < ns.length, ns[i] = n := fun lt => by
            have e := congrArg (fun z => z[i]?) okt.names
            simp only [List.getElem?_map] at e
            rw [List.getElem?_eq_getElem lt, ← here lt, List.getElem?_eq_getElem (by omega)] at e
            refine ⟨by omega, ?_⟩
            have e : some (some n) = some (some (ns[i]'(by omega))) := e
            injection e with e
            injection e with e
            exact e.symm
          have m1 : n ∈ tn ++ ns.take i → i = ts.length := fun h => by
            by_cases lt : i < ts.length
            · obtain ⟨hi, en⟩ := nth lt
              exfalso
              rcases List.mem_append.mp h with z | z
              · exact (List.nodup_append.mp okt.nodup).2.2 n z n (by rw [← en]; exact List.getElem_mem hi) rfl
              · obtain ⟨j, hj, e⟩ := List.getElem_of_mem z
                rw [List.length_take] at hj
                rw [List.getElem_take] at e
                have p := List.pairwise_iff_getElem.mp (List.nodup_iff_pairwise_ne.mp (List.nodup_append.mp okt.nodup).2.1) j i (by omega) hi (by omega)
                rw [en] at p
                exact p e
            · omega
          have m2 : n ∉ tn ++ ns.take i → i < ts.length := fun h => by
            apply Nat.lt_of_not_le
            intro ge
            have e : i = ts.length := by omega
            obtain ⟨rest, er⟩ := at_end e ht
            rcases (odd _ rest er).1 with z | z | ⟨n', hn', es⟩
            · omega
            · rw [tb] at z; cases z
            · have hn' : some n = some n' := hn'
              injection hn' with hn'
              rw [e, ← lns, List.take_length, hn'] at h
              exact h es
          refine iteF ⟨_, rfl, ix_sq sc (atI_nat (j := 0) rfl) ⟨_, rfl, l, _, rfl, .inl (SqL.of at_l4), rfl, flat_strs _, _, rfl, ?_⟩⟩
          rw [inV_strs]
          refine ite2 (fun h => ?_) (fun h => ?_)
          · have e := m1 (of_decide_eq_true h)
            exact ⟨_, rfl, l, _, rfl, (fail e s24 at_l4).1, (fail e s24 at_l4).2⟩
          · have lt := m2 (fun z => h (decide_eq_true z))
            obtain ⟨hi, en⟩ := nth lt
            refine ⟨_, rfl, .inl ⟨rfl, _, SqL.of at_l4⟩, _, rfl, ix_sq sc (atI_nat (j := 0) rfl) ⟨l, _, _, rfl, rfl, at_l4, ?_, _, _, rfl, fun b o e => ?_, ?_, lt⟩⟩
            · have : (100 : Nat) ≤ sizeLine := by decide
              rw [List.length_map, List.length_append, List.length_take]
              omega
            · rw [upd_ne (lne e)]
              exact s24 _ _ e
            · rw [upd_same, List.take_succ_eq_append_getElem hi, ← List.append_assoc, en]
              show some (HO.lst (List.map V.str (tn ++ ns.take i) ++ List.map V.str [n])) = _
              rw [← List.map_append]
      · rintro σ' H2 ⟨v6, v7, rfl, s2, at_l2, le⟩
        have r0 : rs = [] := by
          rw [lw, List.length_append] at le
          exact List.eq_nil_of_length_eq_zero (by omega)
        subst r0
        rw [List.append_nil] at pw
        have lw := paired_len pw
        dsimp only
        refine ret_one (cb_one (lc_seq (j := 0) (a := a) (xs := vs) (fun D i H' => ∃ ws, Same H2 H' ∧ H' D = some (.lst ws) ∧ Paired (TupAt H') ws (ts.take i)) rfl (sq.same s2) (fun D nD => ⟨[], same_upd nD, upd_same, .nil⟩) (fun D i H' nD _ z => ?_) ?_ ?_))
        · obtain ⟨_, s, _⟩ := z
          exact fun o e => s _ _ e
        · rintro D i x H3 nD hx ⟨ws, s3, at_D, pws⟩
          obtain ⟨t, ht, ax⟩ := paired_get pw hx
          obtain ⟨hi, rfl⟩ := List.getElem?_eq_some_iff.mp ht
          obtain ⟨n, ys, et⟩ := nB ps _ (okt.ok _ (List.getElem_mem hi))
          rw [et] at ax
          have s23 := s2.trans s3
          obtain ⟨c, rfl, sc, _⟩ := ax.same s23
          have lws := paired_len pws
          rw [List.length_take] at lws
          have step : ∀ (u : Addr) (H4 : Hp), Same H3 H4 → H4 u = some (.tup (V.str n :: ys)) → ∃ acc, H4 D = some (.lst acc) ∧ acc.length < sizeLine ∧ ∃ ws', Same H2 (upd H4 D (.lst (acc ++ [.ref u]))) ∧ upd H4 D (.lst (acc ++ [.ref u])) D = some (.lst ws') ∧ Paired (TupAt (upd H4 D (.lst (acc ++ [.ref u])))) ws' (ts.take (i + 1)) := by
            intro u H4 s4 hu
            have at_D4 := s4 _ _ at_D
            have up : ∀ {c ys}, H4 c = some (.tup ys) → upd H4 D (.lst (ws ++ [.ref u])) c = some (.tup ys) := fun {c ys} e => by
              rw [upd_ne (ne_of e at_D4 (fun z => by cases z))]
              exact e
            refine ⟨ws, at_D4, ?_, ws ++ [.ref u], fun b o e => ?_, upd_same, ?_⟩
            · have : (100 : Nat) ≤ sizeLine := by decide
              rw [List.append_nil] at l20
              omega
            · rw [upd_ne (ne_of_none e nD)]
              exact s4 _ _ (s3 _ _ e)
            · rw [List.take_succ_eq_append_getElem hi]
              exact paired_snoc (paired_mono (fun _ _ ⟨c, zs, e, e2, ec⟩ => ⟨c, zs, e, e2, up (s4 _ _ ec)⟩) pws) ⟨u, _, rfl, et, up hu⟩
          refine ⟨rfl, kept ⟨_, rfl, c, V.str n :: ys, rfl, ?_⟩⟩
          rcases sc with e | e
          · exact .inl ⟨SqL.of e, fun u nu => step u _ (same_upd nu) upd_same⟩
          · exact .inr ⟨SqT.of e, step c _ (Same.refl _) e⟩
        · rintro D H3 nD ⟨ws, s3, at_D, pws⟩
          rw [lw, List.take_length] at pws
          refine ⟨D, _, rfl, .inl ⟨SqL.of at_D, fun u nu => ?_⟩⟩
          have s4 := same_upd (o := .tup ws) nu
          exact k rfl _ u ws ((s2.trans s3).trans s4) upd_same (paired_mono (fun _ _ ⟨c, zs, e, e2, ec⟩ => ⟨c, zs, e, e2, s4 _ _ ec⟩) pws)
end
end K18

namespace K18
open DL (Callee pe_callee)
open PySem PySem.Spec PyProof.Rows L2
open Cal EnuT Sqx Exn Keys

/-- what a dict of numbers tells of a name -/
def numV (ps : List Str) (x : Str) : Option V := if x ∈ ps then some (.int (ps.idxOf x : Nat)) else none
theorem numV_snoc {ps : List Str} {p : Str} (h : p ∉ ps) (x : Str) : numV (ps ++ [p]) x = if x = p then some (.int (ps.length : Nat)) else numV ps x := by
  unfold numV
  by_cases e : x = p
  · subst e
    rw [if_pos (by simp), if_pos rfl, List.idxOf_append, if_neg h]
    simp
  · by_cases m : x ∈ ps
    · rw [if_pos (List.mem_append_left _ m), if_pos m, if_neg e, List.idxOf_append, if_pos m]
    · rw [if_neg (by simp [m, e]), if_neg m, if_neg e]
/-- exactly the numbers of these names -/
def NumsK (ps : List Str) (kvs : List (Key × V)) : Prop := ∀ x, valV kvs (.inr x) = numV ps x
def spNums : Sp := fun vs H Q _ => ∃ (a : Addr) (ps : List Str), vs = [.ref a] ∧ SeqAt H a (ps.map V.str) ∧ ps.length ≤ 20 ∧ ps.Nodup ∧ ∀ H' D kvs, Same H H' → H' D = some (.dK kvs) → NumsK ps kvs → Q (.ref D) H'
def spNumOf : Sp := fun vs H Q _ => ∃ (D : Addr) (x : Str) (kvs : List (Key × V)) (v : V), vs = [.ref D, .str x] ∧ H D = some (.dK kvs) ∧ valV kvs (.inr x) = some v ∧ Q v H
/-- the number of an end: outside is -1 -/
def endN (ps : List Str) (x : Str) : Int := if x = "out" then -1 else (ps.idxOf x : Nat)
/-- the instance with its numbers of parts -/
def spNumPart (C : Addr) : Sp := fun vs H Q _ => ∃ (o D dx : Addr) (x : Str) (ps : List Str) (kvs : List (Key × V)) (fs : List (Str × V)), vs = [.ref o, .str x] ∧ H o = some (.ins C dx fs) ∧ List.lookup ("_part_numbers" : Str) fs = some (.ref D) ∧ H D = some (.dK kvs) ∧ NumsK ps kvs ∧
  EndIn ps x ∧ Q (.int (endN ps x)) H
theorem not_in_take {ps : List Str} (nd : ps.Nodup) {i : Nat} (hi : i < ps.length) : ps[i] ∉ ps.take i := by
  have : (ps.take (i + 1)).Nodup := (List.take_sublist _ _).nodup nd
  rw [List.take_succ_eq_append_getElem hi] at this
  exact fun m => (List.nodup_append.mp this).2.2 _ m _ (List.mem_singleton.mpr rfl) rfl
/-- how many entries at most -/
theorem put_len {kvs : List (Key × V)} {k : Key} {v : V} : (putK kvs k v).length ≤ kvs.length + 1 := by
  unfold putK
  split
  · rw [List.length_map]
    omega
  · rw [List.length_append]
    simp
section
variable {P : Program} {w : World} {K : W.Frag} {mg : Str → Option Value} {base : Heap}
theorem scNu : FnScope ["names", "at", "name"] ["names"] (defScope sNumbers) := ⟨rfl, rfl, rfl, by decide +kernel, rfl, by decide +kernel, by decide +kernel⟩
theorem ok_numbers {f : Addr} {fd : FuncData} (F : Fun K "_numbers" "_numbers" sNumbers f fd) (B : Bl mg) : FnOk P w K mg base CX0 1 f fd ["names"] spNums := by
  refine F.ok scNu (fun vs H Q E h => ?_) (fun cdv A outer s H vs Q E hr h => ?_)
  · obtain ⟨a, ps, rfl, _⟩ := h
    rfl
  · obtain ⟨a, ps, rfl, sq, p20, nd, k⟩ := h
    refine ⟨_, pss_one (ps_ret (pe_dc (own := [("at", 1), ("name", 2)]) (g := gTup K 2 (gCons (gName 1) (gCons (gName 2) gNil))) (tt := tYes) (by rfl) scNu.nd (pi_enumS (by rfl) B.enu (pa_cons (pv 0) pa_nil))
      (blkOk_by (own := [("at", 1), ("name", 2)]) (N := ["names", "at", "name"]) (sc := defScope sNumbers) (by decide +kernel))
      (fun _ _ _ _ _ => pg_tup rfl (pgs_cons (pg_name (i := 1) scNu.nd rfl (Or.inl rfl)) (pgs_cons (pg_name (i := 2) scNu.nd rfl (Or.inl rfl)) pgs_nil)))
      (fun _ _ _ _ _ => pts_nil) (fun _ _ _ _ _ => pv 2) (fun _ _ _ _ _ => pv 1))), ?_⟩
    refine ⟨_, rfl, a, rfl, ?_⟩
    have walk : ∀ {J : It} {G : Hp → Prop}, Walk J (ps.map V.str).length G (YPair (fun i => some (.int (i : Nat))) (fun i => (ps.map V.str)[i]?)) → (∀ H', Same H H' → G H') → ∀ D, H D = none → ∃ W : Nat → Nat → Hp → Prop, (∃ m, W 0 m (upd H D (.dK []))) ∧ ∀ i m H', W i m H' → (J.stop i H' ∧ Q (.ref D) H') ∨ (J.go i H' ∧ ∃ Nx : Hp → Prop, (∀ H', Nx H' → ∃ m', m' < m ∧ W (i + 1) m' H') ∧
        ∀ x H'', J.yld i H' x H'' → gTup K 2 (gCons (gName 1) (gCons (gName 2) gNil)) x (wipe [some (.ref a), none, none] [1, 2]) H'' fun σ2 H2 => wipe σ2 [1, 2] = wipe [some (.ref a), none, none] [1, 2] ∧ tYes σ2 H2 fun b H3 => if b = true then tVar 2 σ2 H3 fun y H4 => tVar 1 σ2 H4 fun z H5 =>
          ∃ kvs k, y = kV k ∧ H5 D = some (.dK kvs) ∧ kvs.length < sizeLine ∧ Nx (upd H5 D (.dK (putK kvs k z))) else Nx H3) := by
      intro J G wk st D nD
      refine dc_it wk (fun i H' => Same H H' ∧ ∃ kvs : List (Key × V), H' D = some (.dK kvs) ∧ kvs.length ≤ i ∧ NumsK (ps.take i) kvs) ⟨same_upd nD, [], upd_same, Nat.le_refl _, fun x => rfl⟩ (fun i H' _ z => st _ z.1) ?_ ?_
      · rintro i x H1 H2 hi ⟨s1, kvs, at_D, lk, has⟩ ⟨t, y, z, rfl, nt, rfl, hy, hz⟩
        cases hy
        rw [List.length_map] at hi
        obtain rfl : z = V.str ps[i] := by
          have hz : (ps.map V.str)[i]? = some z := hz
          rw [List.getElem?_map, List.getElem?_eq_getElem hi] at hz
          exact (Option.some.inj hz).symm
        have s2 := same_upd (o := .tup [.int (i : Nat), .str ps[i]]) nt
        refine ⟨t, _, rfl, SqT.of upd_same, rfl, _, _, rfl, _, _, rfl, ⟨rfl, rfl, kept ⟨_, rfl, _, rfl, kvs, .inr ps[i], rfl, s2 _ _ at_D, ?_, ?_, _, upd_same, ?_, ?_⟩⟩⟩
        · have : (100 : Nat) ≤ sizeLine := by decide
          omega
        · intro b o e
          by_cases hb : b = D
          · rw [hb, nD] at e
            cases e
          · rw [upd_ne hb]
            exact s2 _ _ (s1 _ _ e)
        · exact Nat.le_trans put_len (by omega)
        · intro x
          rw [List.take_succ_eq_append_getElem hi, numV_snoc (not_in_take nd hi), valV_put, List.length_take, Nat.min_eq_left (Nat.le_of_lt hi)]
          by_cases e : x = ps[i]
          · subst e
            rw [if_pos rfl, if_pos rfl]
          · rw [if_neg e, if_neg (fun z => e (by injection z)), has x]
      · rintro H1 ⟨s1, kvs, at_D, lk, has⟩
        rw [List.length_map, List.take_length] at has
        exact k H1 D kvs s1 at_D has
    rcases sq with e | e
    · exact .inl ⟨_, SqL.of e, fun D nD => walk walk_enum (fun H' s => SqL.of (s _ _ e)) D nD⟩
    · exact .inr ⟨_, SqT.of e, fun D nD => walk walk_enumT (fun H' s => SqT.of (s _ _ e)) D nD⟩
theorem scNO : FnScope ["numbers", "name"] ["numbers", "name"] (defScope sNumOf) := ⟨rfl, rfl, rfl, by decide +kernel, rfl, by decide +kernel, by decide +kernel⟩
theorem ok_numof {f : Addr} {fd : FuncData} (F : Fun K "_number_of" "_number_of" sNumOf f fd) (B : Bl mg) : FnOk P w K mg base CX0 1 f fd ["numbers", "name"] spNumOf := by
  refine F.ok scNO (fun vs H Q E h => ?_) (fun cdv A outer s H vs Q E hr h => ?_)
  · obtain ⟨D, x, kvs, v, rfl, _⟩ := h
    rfl
  · obtain ⟨D, x, kvs, v, rfl, hD, hv, q⟩ := h
    have hu := hu_of hr
    refine ⟨_, pss_cons (ps_if (PW.pt (pw_or (pt_not (pt_val (pe_callB call_isi (by rfl) B.isi (by decide +kernel) (pa_cons (pv 1) (pa_cons (pe_bltn (v := .ty "str") rfl B.str (by decide +kernel) rfl) pa_nil))))) (pw_or1 (pt_cmp (pc_dnotin hu (pv 1) (pv 0)))))) (pss_one ps_never) pss_nil)
      (pss_one (ps_ret (pe_dget hu (pv 0) (pv 1) (fun _ _ => rfl)))), ?_⟩
    refine ⟨_, rfl, _, _, _, _, true, rfl, .ty "str", .base (.str _), kit_ty (by decide +kernel), _, rfl, iteF ?_⟩
    refine ⟨_, rfl, _, rfl, D, _, rfl, DGet.k (k := Sum.inr x) hD, ?_⟩
    rw [hv]
    refine ⟨_, rfl, iteF ?_⟩
    refine ⟨_, rfl, _, rfl, D, v, rfl, by rw [← hv]; exact DGet.k (k := Sum.inr x) hD, q⟩
theorem scNP : FnScope ["self", "name"] ["self", "name"] (defScope sNumPart) := ⟨rfl, rfl, rfl, by decide +kernel, rfl, by decide +kernel, by decide +kernel⟩
theorem ok_numpart {f C : Addr} {fd : FuncData} (F : Fun K "number_of_part" "House.number_of_part" sNumPart f fd) (B : Bl mg) (cl : Cls K C) (na : NoAttr K C "_part_numbers") (No : Callee P w K mg base "number_of_house" 1 ["numbers", "name"] spNumOf) :
    FnOk P w K mg base CX0 2 f fd ["self", "name"] (spNumPart C) := by
  refine F.ok scNP (fun vs H Q E h => ?_) (fun cdv A outer s H vs Q E hr h => ?_)
  · obtain ⟨o, D, dx, x, ps, kvs, fs, rfl, _⟩ := h
    rfl
  · obtain ⟨o, D, dx, x, ps, kvs, fs, rfl, ho, lD, hD, nk, hx, q⟩ := h
    refine ⟨_, pss_cons (ps_if (PW.pt (pw_and (pt_val (pe_callB call_isi (by rfl) B.isi (by decide +kernel) (pa_cons (pv 1) (pa_cons (pe_bltn (v := .ty "str") rfl B.str (by decide +kernel) rfl) pa_nil)))) (pw_and1 (pt_cmpR op_eq (pv 1) pe_str (nomark _))))) (pss_one (ps_ret (pe_un un_neg pe_int))) pss_nil)
      (pss_one (ps_ret (pe_callee No hr rfl (pa_cons (pe_fld (pv 0) rfl) (pa_cons (pv 1) pa_nil))))), ?_⟩
    refine ⟨_, rfl, _, _, _, _, true, rfl, .ty "str", .base (.str _), kit_ty (by decide +kernel), _, rfl, iteT ⟨_, rfl, rfl, _, rfl, ?_⟩⟩
    refine ite2 (fun hc => ⟨_, rfl, ?_⟩) (fun hc => ?_)
    · obtain rfl : x = "out" := by simpa using hc
      exact q
    · have no : x ≠ "out" := fun z => hc (by simp [z])
      have m : x ∈ ps := hx.resolve_left no
      refine ⟨_, rfl, o, C, dx, fs, _, rfl, ho, cl, na, lD, _, rfl, D, x, kvs, _, rfl, hD, (nk x).trans (if_pos m), ?_⟩
      unfold endN at q
      rw [if_neg no] at q
      exact q
end
end K18

namespace K18
open DL (Callee pe_callee)
open PySem PySem.Spec PyProof.Rows L2
open Cal EnuT Sqx Exn Keys

theorem comp_ix {K K' : W.Frag} {te : TE} {σ : L2.St} {H : Hp} {Q : VK} {td : Addr} {i : Nat} {j : Int} {ws ys : List V} (hte : ∀ R : VK, R (.ref td) H → te σ H R) (htd : H td = some (.tup ws)) (few : ws.length ≤ 50)
    (pw : Paired (fun v y => ∃ t xs, v = V.ref t ∧ H t = some (.tup xs) ∧ atI xs j = some y) ws ys)
    (hw : ∀ v, wipe ((wipe σ [i]).set i (some v)) [i] = wipe σ [i]) (hg : ∀ v : V, ((wipe σ [i]).set i (some v))[i]? = some (some v))
    (k : ∀ H' D, Same H H' → H D = none → H' D = some (.lst ys) → Q (.ref D) H') :
    tLc (iTup K te) (gName i) tYes (tOp (rIxT K') (tVar i) (tC (.int j))) [i] σ H Q := by
  refine hte _ ⟨td, rfl, ⟨_, SqT.of htd⟩, fun D nD => ?_⟩
  refine lc_tup (xs := ws) (fun n H' => (∀ b o, b ≠ D → H b = some o → H' b = some o) ∧ H' D = some (.lst (ys.take n))) ⟨fun b o ne e => by rw [upd_ne ne]; exact e, upd_same⟩
    (fun n H' _ z => SqT.of (z.1 _ _ (ne_of_none htd nD) htd)) ?_ ?_
  · rintro n x H1 hx ⟨keep, at_D⟩
    obtain ⟨y, hy, t, xs, rfl, et, ej⟩ := paired_get pw hx
    obtain ⟨lt, rfl⟩ := List.getElem?_eq_some_iff.mp hy
    have ly := paired_len pw
    refine ⟨hw _, kept ⟨_, hg _, t, xs, _, _, rfl, rfl, SqT.of (keep _ _ (ne_of_none et nD) et), ej, _, at_D, ?_, fun b o ne e => by rw [upd_ne ne]; exact keep b o ne e, ?_⟩⟩
    · have : (100 : Nat) ≤ sizeLine := by decide
      rw [List.length_take]
      omega
    · rw [upd_same, List.take_succ_eq_append_getElem lt]
  · rintro H1 ⟨keep, at_D⟩
    rw [paired_len pw, List.take_length] at at_D
    exact k H1 D (fun b o e => keep b o (ne_of_none e nD) e) nD at_D

/-- facts of House's class for its __init__ -/
structure HC2 (K : W.Frag) (C : Addr) : Prop where
  cl : Cls K C
  n1 : NoAttr K C "parts"
  n2 : NoAttr K C "doors"
  n3 : NoAttr K C "cells"
  n4 : NoAttr K C "_part_numbers"
  n5 : NoAttr K C "_door_numbers"
  n6 : NoAttr K C "_cell_numbers"
  n7 : NoAttr K C "ends"
  n8 : NoAttr K C "cell_parts"
  n9 : NoAttr K C "kept"
def S1 (f : Addr) (sp : Sp) : Addr → Option Sp := fun g => if g = f then some sp else none
/-- a house at o that keeps these things -/
def HouseIns (H : Hp) (C o : Addr) (h : Hs) : Prop := ∃ dx fs tp td tc vd vc, H o = some (.ins C dx fs) ∧ List.lookup ("parts" : Str) fs = some (.ref tp) ∧ List.lookup ("doors" : Str) fs = some (.ref td) ∧ List.lookup ("cells" : Str) fs = some (.ref tc) ∧ List.lookup ("text" : Str) fs = none ∧
  H tp = some (.tup (h.parts.map V.str)) ∧ H td = some (.tup vd) ∧ Paired (DoorAt H) vd h.doors ∧ H tc = some (.tup vc) ∧ Paired (CellAt H) vc h.cells
def EndAt (ps : List Str) (H : Hp) (v : V) (d : Door) : Prop := ∃ t, v = .ref t ∧ H t = some (.tup [.int (endN ps d.one), .int (endN ps d.two)])
abbrev houseFs (tp td tc D1 D2 D3 te tq tk : Addr) : List (Str × V) := [("parts", .ref tp), ("doors", .ref td), ("cells", .ref tc), ("_part_numbers", .ref D1), ("_door_numbers", .ref D2), ("_cell_numbers", .ref D3), ("ends", .ref te), ("cell_parts", .ref tq), ("kept", .ref tk)]
/-- a house at o that keeps these things, and all that it knows of them -/
structure HouseN (H : Hp) (C o : Addr) (h : Hs) (dx tp td tc D1 D2 D3 te tq tk : Addr) (vd vc ve : List V) (k1 k2 k3 : List (Key × V)) : Prop where
  ins : H o = some (.ins C dx (houseFs tp td tc D1 D2 D3 te tq tk))
  pa : H tp = some (.tup (h.parts.map V.str))
  da : H td = some (.tup vd)
  dp : Paired (DoorAt H) vd h.doors
  ca : H tc = some (.tup vc)
  cp : Paired (CellAt H) vc h.cells
  n1 : H D1 = some (.dK k1)
  m1 : NumsK h.parts k1
  n2 : H D2 = some (.dK k2)
  m2 : NumsK (h.doors.map (·.n)) k2
  n3 : H D3 = some (.dK k3)
  m3 : NumsK (h.cells.map (·.n)) k3
  ea : H te = some (.tup ve)
  ep : Paired (EndAt h.parts H) ve h.doors
  qa : H tq = some (.tup (h.cells.map fun c => V.int (endN h.parts c.p)))
  ka : H tk = some (.tup (h.cells.map fun c => V.bl c.k))
def HouseX (H : Hp) (C o : Addr) (h : Hs) : Prop := ∃ dx tp td tc D1 D2 D3 te tq tk vd vc ve k1 k2 k3, HouseN H C o h dx tp td tc D1 D2 D3 te tq tk vd vc ve k1 k2 k3
theorem HouseX.ins {H : Hp} {C o : Addr} {h : Hs} (x : HouseX H C o h) : HouseIns H C o h := by
  obtain ⟨dx, tp, td, tc, D1, D2, D3, te, tq, tk, vd, vc, ve, k1, k2, k3, n⟩ := x
  exact ⟨dx, _, tp, td, tc, vd, vc, n.ins, rfl, rfl, rfl, rfl, n.pa, n.da, n.dp, n.ca, n.cp⟩
theorem HouseN.same {H H' : Hp} {C o : Addr} {h : Hs} {dx tp td tc D1 D2 D3 te tq tk : Addr} {vd vc ve : List V} {k1 k2 k3 : List (Key × V)} (n : HouseN H C o h dx tp td tc D1 D2 D3 te tq tk vd vc ve k1 k2 k3) (s : Same H H') : HouseN H' C o h dx tp td tc D1 D2 D3 te tq tk vd vc ve k1 k2 k3 where
  ins := s _ _ n.ins
  pa := s _ _ n.pa
  da := s _ _ n.da
  dp := paired_mono (fun _ _ r => r.mono fun c ec => s _ _ ec) n.dp
  ca := s _ _ n.ca
  cp := paired_mono (fun _ _ r => r.mono fun c ec => s _ _ ec) n.cp
  n1 := s _ _ n.n1
  m1 := n.m1
  n2 := s _ _ n.n2
  m2 := n.m2
  n3 := s _ _ n.n3
  m3 := n.m3
  ea := s _ _ n.ea
  ep := paired_mono (fun _ _ ⟨t, e, et⟩ => ⟨t, e, s _ _ et⟩) n.ep
  qa := s _ _ n.qa
  ka := s _ _ n.ka
structure GoodH (h : Hs) : Prop where
  p1 : 1 ≤ h.parts.length
  p8 : h.parts.length ≤ 8
  d12 : h.doors.length ≤ 12
  c8 : h.cells.length ≤ 8
  nodup : h.names.Nodup
  name : ∀ x, x ∈ h.names → nameOk x = true
  ends : ∀ d, d ∈ h.doors → EndIn h.parts d.one ∧ EndIn h.parts d.two ∧ d.one ≠ d.two
  cin : ∀ c, c ∈ h.cells → c.p ∈ h.parts
def dT (d : Door) : Tv := .sq (dvs d)
def cT (c : Cell) : Tv := .sq (cvs c)
def PartsBad (a : Av) (i : Nat) : Prop := (((∃ u, a = .fl u) ∨ a = .sq []) ∧ i = 0) ∨ ∃ ps t rest, a = .sq (ps.map strT ++ t :: rest) ∧ GoodPs ps ∧ OddPart ps t ∧ i = ps.length
def ThingsBad (B : List Str → Tv → Bool) (ps tn : List Str) (m : Nat) (b : Av) (i : Nat) : Prop := ((∃ u, b = .fl u) ∧ i = tn.length) ∨ ∃ ts t rest ns, b = .sq (ts ++ t :: rest) ∧ OkThings B ps tn m ts ns ∧ OddThing B ps tn m ts ns t ∧ i = tn.length + ts.length
def OkParts (a : Av) (ps : List Str) : Prop := a = .sq (ps.map strT) ∧ 1 ≤ ps.length ∧ GoodPs ps
def OkDoors (b : Av) (ps : List Str) (ts : List Tv) (ns : List Str) : Prop := b = .sq ts ∧ OkThings doorB ps ps 12 ts ns
def OkCells (c : Av) (ps ns : List Str) (us : List Tv) (ms : List Str) : Prop := c = .sq us ∧ OkThings cellB ps (ps ++ ns) 8 us ms
def HouseBad (a b c : Av) (i : Nat) : Prop := PartsBad a i ∨ (∃ ps, OkParts a ps ∧ ThingsBad doorB ps ps 12 b i) ∨ ∃ ps ts ns, OkParts a ps ∧ OkDoors b ps ts ns ∧ ThingsBad cellB ps (ps ++ ns) 8 c i
def HouseOk (a b c : Av) (h : Hs) : Prop := GoodH h ∧ a = .sq (h.parts.map strT) ∧ b = .sq (h.doors.map dT) ∧ c = .sq (h.cells.map cT)
def BadO (CH o : Addr) (H : Hp) (E : XK) (i : Nat) : Prop := ∀ H' d, But o H H' → H d = none → H' d = some (.xd [("at", .int (i : Nat))]) → E (.ref CH) (some d) H'
def spInit (C CH : Addr) : Sp := fun vs H Q E => ∃ (o dx : Addr) (v1 v2 v3 : V) (a b c : Av), vs = [.ref o, v1, v2, v3] ∧ H o = some (.ins C dx []) ∧ AvAt H v1 a ∧ AvAt H v2 b ∧ AvAt H v3 c ∧
  ((∃ i, HouseBad a b c i ∧ BadO CH o H E i) ∨ ∃ h, HouseOk a b c h ∧ ∀ H', But o H H' → HouseX H' C o h → Q .non H')
theorem paired_mem {α β : Type} {R : α → β → Prop} : ∀ {xs : List α} {ys : List β} {x : α}, Paired R xs ys → x ∈ xs → ∃ y, y ∈ ys ∧ R x y
  | _, _, _, .cons r t, h => by
    rcases List.mem_cons.mp h with rfl | z
    · exact ⟨_, List.mem_cons_self .., r⟩
    · obtain ⟨y, hy, q⟩ := paired_mem t z
      exact ⟨y, List.mem_cons_of_mem _ hy, q⟩
theorem paired_map {α β γ : Type} {R : α → γ → Prop} (f : β → γ) : ∀ {xs : List α} {ys : List β}, Paired (fun x y => R x (f y)) xs ys → Paired R xs (ys.map f)
  | _, _, .nil => .nil
  | _, _, .cons r t => .cons r (paired_map f t)
theorem paired_mono' {α β : Type} {R S : α → β → Prop} : ∀ {xs : List α} {ys : List β}, Paired R xs ys → (∀ a b, b ∈ ys → R a b → S a b) → Paired S xs ys
  | _, _, .nil, _ => .nil
  | _, _, .cons r t, f => .cons (f _ _ (List.mem_cons_self ..) r) (paired_mono' t fun a b hb => f a b (List.mem_cons_of_mem _ hb))
theorem seq_fld {K : W.Frag} {ta tv : TE} {f : Str} {T : TS} {D : Ends} {σ : L2.St} {H : Hp}
    (h : tv σ H fun y H1 => ta σ H1 fun x H2 => ∃ a C dx fs, x = V.ref a ∧ H2 a = some (HO.ins C dx fs) ∧ Cls K C ∧ NoAttr K C f ∧ fs.length < 1000 ∧ T D σ (upd H2 a (HO.ins C dx (putF f y fs)))) : tSeq (sFld K ta tv f) T D σ H := h
theorem one_fld {K : W.Frag} {ta tv : TE} {f : Str} {D : Ends} {σ : L2.St} {H : Hp}
    (h : tv σ H fun y H1 => ta σ H1 fun x H2 => ∃ a C dx fs, x = V.ref a ∧ H2 a = some (HO.ins C dx fs) ∧ Cls K C ∧ NoAttr K C f ∧ fs.length < 1000 ∧ D.nx σ (upd H2 a (HO.ins C dx (putF f y fs)))) : sFld K ta tv f D σ H := h
theorem call_one {sp : Sp} {te : TE} {E : XK} {σ : L2.St} {H : Hp} {Q : VK} (h : te σ H fun x H1 => sp [x] H1 Q E) : tCall sp [] E (tCons te tNil) σ H Q := h
theorem but_upd {o : Addr} {H H1 : Hp} {u : HO} (b : But o H H1) : But o H (upd H1 o u) := fun c x ne e => by
  rw [upd_ne ne]
  exact b c x ne e
theorem but_same {o : Addr} {H H1 H2 : Hp} (b : But o H H1) (s : Same H1 H2) : But o H H2 := fun c x ne e => s _ _ (b c x ne e)
theorem keep_upd {H : Hp} {o t : Addr} {C dx : Addr} {fs fs' : List (Str × V)} {xs : List V} (eo : H o = some (.ins C dx fs)) (et : H t = some (.tup xs)) : upd H o (.ins C dx fs') t = some (.tup xs) := by
  rw [upd_ne (ne_of et eo (fun z => by cases z))]
  exact et
theorem keep_lst {H : Hp} {o t : Addr} {C dx : Addr} {fs fs' : List (Str × V)} {xs : List V} (eo : H o = some (.ins C dx fs)) (et : H t = some (.lst xs)) : upd H o (.ins C dx fs') t = some (.lst xs) := by
  rw [upd_ne (ne_of et eo (fun z => by cases z))]
  exact et
theorem keep_dK {H : Hp} {o t : Addr} {C dx : Addr} {fs fs' : List (Str × V)} {xs : List (Key × V)} (eo : H o = some (.ins C dx fs)) (et : H t = some (.dK xs)) : upd H o (.ins C dx fs') t = some (.dK xs) := by
  rw [upd_ne (ne_of et eo (fun z => by cases z))]
  exact et
theorem inV_in {x : Str} {ps : List Str} (h : x ∈ ps) : inV (.str x) (ps.map V.str) = true := by
  rw [inV_strs]
  exact decide_eq_true h
theorem door_good {h : Hs} (g : GoodH h) {d : Door} (hd : d ∈ h.doors) : doorB h.parts (dT d) = true := by
  obtain ⟨e1, e2, e3⟩ := g.ends d hd
  have n := g.name d.n (List.mem_append_right _ (List.mem_append_left _ (List.mem_map.mpr ⟨d, hd, rfl⟩)))
  have inE : ∀ {x : Str}, EndIn h.parts x → inV (.str x) (endsV h.parts) = true := fun {x} z => by
    rw [ends_strs]
    refine inV_in ?_
    rcases z with z | z
    · rw [z]; simp
    · exact List.mem_append_left _ z
  show (nmB (.str d.n) && (inV (.str d.one) (endsV h.parts) && (inV (.str d.two) (endsV h.parts) && (!decide (V.str d.one = V.str d.two) && isBl (.bl d.op))))) = true
  rw [inE e1, inE e2, show nmB (.str d.n) = nameOk d.n from rfl, n, decide_eq_false (fun z => e3 (by injection z))]
  rfl
theorem cell_good {h : Hs} (g : GoodH h) {d : Cell} (hd : d ∈ h.cells) : cellB h.parts (cT d) = true := by
  have n := g.name d.n (List.mem_append_right _ (List.mem_append_right _ (List.mem_map.mpr ⟨d, hd, rfl⟩)))
  show (nmB (.str d.n) && (inV (.str d.p) (h.parts.map V.str) && isBl (.bl d.k))) = true
  rw [inV_in (g.cin d hd), show nmB (.str d.n) = nameOk d.n from rfl, n]
  rfl
theorem parts_good {h : Hs} (g : GoodH h) : GoodPs h.parts := ⟨g.p8, (List.sublist_append_left h.parts (h.doors.map (·.n) ++ h.cells.map (·.n))).nodup g.nodup, fun x hx => g.name x (List.mem_append_left _ hx)⟩
theorem doors_good {h : Hs} (g : GoodH h) : OkThings doorB h.parts h.parts 12 (h.doors.map dT) (h.doors.map (·.n)) where
  ok := fun t ht => by
    obtain ⟨d, hd, rfl⟩ := List.mem_map.mp ht
    exact door_good g hd
  names := by
    rw [List.map_map, List.map_map]
    rfl
  nodup := by
    have : (h.parts ++ h.doors.map (·.n)).Sublist h.names := (List.Sublist.refl _).append (List.sublist_append_left _ _)
    exact this.nodup g.nodup
  few := by
    rw [List.length_map]
    exact g.d12
theorem cells_good {h : Hs} (g : GoodH h) : OkThings cellB h.parts (h.parts ++ h.doors.map (·.n)) 8 (h.cells.map cT) (h.cells.map (·.n)) where
  ok := fun t ht => by
    obtain ⟨d, hd, rfl⟩ := List.mem_map.mp ht
    exact cell_good g hd
  names := by
    rw [List.map_map, List.map_map]
    rfl
  nodup := by
    rw [List.append_assoc]
    exact g.nodup
  few := by
    rw [List.length_map]
    exact g.c8
/-- the same, stage by stage -/
theorem stages {a b c : Av} {B : Nat → Prop} {k : Hs → Prop} (h : (∃ i, HouseBad a b c i ∧ B i) ∨ ∃ h, HouseOk a b c h ∧ k h) :
    (∃ i, PartsBad a i ∧ B i) ∨ ∃ ps, OkParts a ps ∧ ((∃ i, ThingsBad doorB ps ps 12 b i ∧ B i) ∨ ∃ ts ns, OkDoors b ps ts ns ∧ ((∃ i, ThingsBad cellB ps (ps ++ ns) 8 c i ∧ B i) ∨ ∃ us ms, OkCells c ps ns us ms ∧ ∃ h, GoodH h ∧ ps = h.parts ∧ ts = h.doors.map dT ∧ us = h.cells.map cT ∧ k h)) := by
  rcases h with ⟨i, (p | ⟨ps, o1, t⟩ | ⟨ps, ts, ns, o1, o2, t⟩), bi⟩ | ⟨h, ⟨g, rfl, rfl, rfl⟩, kh⟩
  · exact .inl ⟨i, p, bi⟩
  · exact .inr ⟨ps, o1, .inl ⟨i, t, bi⟩⟩
  · exact .inr ⟨ps, o1, .inr ⟨ts, ns, o2, .inl ⟨i, t, bi⟩⟩⟩
  · exact .inr ⟨h.parts, ⟨rfl, g.p1, parts_good g⟩, .inr ⟨_, _, ⟨rfl, doors_good g⟩, .inr ⟨_, _, ⟨rfl, cells_good g⟩, h, g, rfl, rfl, rfl, kh⟩⟩⟩
theorem names_ix {H : Hp} : ∀ {ws : List V} {ts : List Tv} {ns : List Str}, Paired (TupAt H) ws ts → ts.map nameT = ns.map some → Paired (fun v y => ∃ t xs, v = V.ref t ∧ H t = some (.tup xs) ∧ atI xs 0 = some y) ws (ns.map V.str)
  | _, _, [], .nil, _ => .nil
  | _, _, n :: ns, .cons r t, e => by
    rw [List.map_cons, List.map_cons] at e
    injection e with e1 e2
    obtain ⟨c, xs, rfl, rfl, hc⟩ := r
    refine .cons ?_ (names_ix t e2)
    match xs, e1, hc with
    | V.str m :: xs, e1, hc =>
      have e1 : some m = some n := e1
      injection e1 with e1
      exact ⟨c, _, rfl, hc, by rw [e1]; exact atI_nat (j := 0) rfl⟩
end K18

namespace K18
open DL (Callee pe_callee)
open PySem PySem.Spec PyProof.Rows L2
open Cal EnuT Sqx Exn Keys

theorem SeqAt.but {H H' : Hp} {o a C dx : Addr} {fs : List (Str × V)} {xs : List V} (b : But o H H') (ho : H o = some (.ins C dx fs)) (x : SeqAt H a xs) : SeqAt H' a xs := x.imp (fun e => b _ _ (ne_of e ho (fun z => by cases z)) e) (fun e => b _ _ (ne_of e ho (fun z => by cases z)) e)
theorem TvAt.but {H H' : Hp} {o C dx : Addr} {fs : List (Str × V)} (b : But o H H') (ho : H o = some (.ins C dx fs)) {v : V} {t : Tv} (x : TvAt H v t) : TvAt H' v t := by
  cases t with
  | fl u => exact x
  | sq xs =>
    obtain ⟨a, e, sq, r⟩ := x
    exact ⟨a, e, SeqAt.but b ho sq, r⟩
theorem AvAt.but {H H' : Hp} {o C dx : Addr} {fs : List (Str × V)} (b : But o H H') (ho : H o = some (.ins C dx fs)) {v : V} {t : Av} (x : AvAt H v t) : AvAt H' v t := by
  cases t with
  | fl u => exact x
  | sq ts =>
    obtain ⟨a, vs, e, sq, pw, r⟩ := x
    exact ⟨a, vs, e, SeqAt.but b ho sq, paired_mono (fun _ _ q => q.but b ho) pw, r⟩
theorem BadO.at {CH o C dx : Addr} {H G : Hp} {E : XK} {i : Nat} {fs : List (Str × V)} (b : BadO CH o H E i) (k : But o H G) (go : G o = some (.ins C dx fs)) : Bad CH G E i := fun H' d s nd e => by
  refine b H' d (fun c u ne hc => s _ _ (k c u ne hc)) ?_ e
  cases hd : H d with
  | none => rfl
  | some u =>
    have : d ≠ o := fun z => by
      rw [z, go] at nd
      cases nd
    rw [k d u this hd] at nd
    cases nd
theorem paired_unmap {α β γ : Type} {R : α → γ → Prop} (f : γ → β) : ∀ {xs : List α} {ys : List γ}, Paired (fun x y => ∀ z, y = f z → R x z) xs (ys.map f) → Paired R xs ys
  | _, [], .nil => .nil
  | _, _ :: _, .cons r t => .cons (r _ rfl) (paired_unmap f t)
theorem nodup_doors {h : Hs} (g : GoodH h) : (h.doors.map (·.n)).Nodup := ((List.sublist_append_left _ _).trans (List.sublist_append_right h.parts _)).nodup g.nodup
theorem nodup_cells {h : Hs} (g : GoodH h) : (h.cells.map (·.n)).Nodup := ((List.sublist_append_right _ _).trans (List.sublist_append_right h.parts _)).nodup g.nodup
section
variable {P : Program} {w : World} {K : W.Frag} {mg : Str → Option Value} {base : Heap}
theorem scIn : FnScope ["self", "parts", "doors", "cells", "taken", "door", "cell"] ["self", "parts", "doors", "cells"] (defScope sInit) := ⟨rfl, rfl, rfl, by decide +kernel, rfl, by decide +kernel, by decide +kernel⟩
theorem ok_init {f C CH fD fC fM : Addr} {fd fdM : FuncData} {t1 t2 : Tok} (F : Fun K "__init__" "House.__init__" sInit f fd) (B : Bl mg) (T : HC2 K C) (ChP : CalleeX P w K mg base "_checked_parts" 3 ["parts"] (spParts CH))
    (Ch1 : CalleeX P w K mg base "_checked_things" 3 ["things", "most", "parts", "taken", "is_thing"] (spThings' CH (S1 fD (spThing doorB)))) (Ch2 : CalleeX P w K mg base "_checked_things" 3 ["things", "most", "parts", "taken", "is_thing"] (spThings' CH (S1 fC (spThing cellB))))
    (Nu : Callee P w K mg base "_numbers" 1 ["names"] spNums) (mD : mg "MOST_DOORS" = some (.int 12 t1)) (mC : mg "MOST_CELLS" = some (.int 8 t2)) (gD : mg "_is_door" = some (.ref fD)) (gC : mg "_is_cell" = some (.ref fC))
    (M : Meth K C "number_of_part" fM) (FM : FnOk P w K mg base CX0 2 fM fdM ["self", "name"] (spNumPart C)) (bM : Binds K fdM ["self", "name"] []) : FnOk P w K mg base (L2.CX P w) 4 f fd ["self", "parts", "doors", "cells"] (spInit C CH) := by
  refine F.okX scIn (fun vs H Q E h => ?_) (fun cdv A outer s H vs Q E hr h => ?_)
  · obtain ⟨o, dx, v1, v2, v3, a, b, c, rfl, _⟩ := h
    rfl
  · obtain ⟨o, dx, v1, v2, v3, a, b, c, rfl, ho, at_a, at_b, at_c, ev⟩ := h
    have hr2 := hr.mono (show 2 ≤ 3 by decide)
    have hr1 := hr.mono (show 1 ≤ 3 by decide)
    refine ⟨_, pss_cons (ps_fld (pv 0) (pe_calleeX ChP hr rfl (passes_call (takes_of rfl rfl rfl rfl) (fun _ _ _ _ h => h)) (pa_cons (pv 1) pa_nil)) rfl)
      (pss_cons (ps_fld (pv 0) (pe_calleeX Ch1 hr rfl (passes_call (takes_of rfl rfl rfl rfl) (fun _ _ _ _ h => h)) (pa_cons (pv 2) (pa_cons (pe_glob (v := .int 12) rfl mD ⟨_, rfl⟩) (pa_cons (pe_fld (pv 0) rfl) (pa_cons (pe_fld (pv 0) rfl) (pa_cons (pe_glob (v := .ref fD) rfl gD rfl) pa_nil)))))) rfl)
      (pss_cons (ps_set (i := 4) scIn.nd rfl (Or.inl rfl) (pe_lst (StX.pa_star (pe_fld (pv 0) rfl) (StX.pa_star (pe_lc (own := [("door", 5)]) (g := gName 5) (tt := tYes) (by rfl) scIn.nd (pi_tup (pe_fld (pv 0) rfl))
        (blkOk_by (own := [("door", 5)]) (N := ["self", "parts", "doors", "cells", "taken", "door", "cell"]) (sc := defScope sInit) (by decide +kernel))
        (fun _ _ _ _ _ => pg_name (i := 5) scIn.nd rfl (Or.inl rfl)) (fun _ _ _ _ _ => pts_nil) (fun _ _ _ _ _ => (show PE _ _ (tOp (rIxT K) (tVar 5) (tC (.int 0))) from pe_ix ix_tup (pv 5) pe_int (fun _ _ => rfl)))) pa_nil))))
      (pss_cons (ps_fld (pv 0) (pe_calleeX Ch2 hr rfl (passes_call (takes_of rfl rfl rfl rfl) (fun _ _ _ _ h => h)) (pa_cons (pv 3) (pa_cons (pe_glob (v := .int 8) rfl mC ⟨_, rfl⟩) (pa_cons (pe_fld (pv 0) rfl) (pa_cons (pv 4) (pa_cons (pe_glob (v := .ref fC) rfl gC rfl) pa_nil)))))) rfl)
      (pss_cons (ps_fld (pv 0) (pe_callee Nu hr1 rfl (pa_cons (pe_fld (pv 0) rfl) pa_nil)) rfl)
      (pss_cons (ps_fld (pv 0) (pe_callee Nu hr1 rfl (pa_cons (pe_lc (own := [("door", 5)]) (g := gName 5) (tt := tYes) (by rfl) scIn.nd (pi_tup (pe_fld (pv 0) rfl))
        (blkOk_by (own := [("door", 5)]) (N := ["self", "parts", "doors", "cells", "taken", "door", "cell"]) (sc := defScope sInit) (by decide +kernel))
        (fun _ _ _ _ _ => pg_name (i := 5) scIn.nd rfl (Or.inl rfl)) (fun _ _ _ _ _ => pts_nil) (fun _ _ _ _ _ => (show PE _ _ (tOp (rIxT K) (tVar 5) (tC (.int 0))) from pe_ix ix_tup (pv 5) pe_int (fun _ _ => rfl)))) pa_nil)) rfl)
      (pss_cons (ps_fld (pv 0) (pe_callee Nu hr1 rfl (pa_cons (pe_lc (own := [("cell", 6)]) (g := gName 6) (tt := tYes) (by rfl) scIn.nd (pi_tup (pe_fld (pv 0) rfl))
        (blkOk_by (own := [("cell", 6)]) (N := ["self", "parts", "doors", "cells", "taken", "door", "cell"]) (sc := defScope sInit) (by decide +kernel))
        (fun _ _ _ _ _ => pg_name (i := 6) scIn.nd rfl (Or.inl rfl)) (fun _ _ _ _ _ => pts_nil) (fun _ _ _ _ _ => (show PE _ _ (tOp (rIxT K) (tVar 6) (tC (.int 0))) from pe_ix ix_tup (pv 6) pe_int (fun _ _ => rfl)))) pa_nil)) rfl)
      (pss_cons (ps_fld (pv 0) (pe_callTy call_tuple_of (by rfl) B.tuple (by decide +kernel) (pa_cons (pe_lc (own := [("door", 5)]) (g := gName 5) (tt := tYes) (by rfl) scIn.nd (pi_tup (pe_fld (pv 0) rfl))
        (blkOk_by (own := [("door", 5)]) (N := ["self", "parts", "doors", "cells", "taken", "door", "cell"]) (sc := defScope sInit) (by decide +kernel))
        (fun _ _ _ _ _ => pg_name (i := 5) scIn.nd rfl (Or.inl rfl)) (fun _ _ _ _ _ => pts_nil)
        (fun _ _ _ _ _ => pe_tup (pa_cons (pe_meth (pv 0) T.cl M FM hr2 bM .nil pass0 (pa_cons (show PE _ _ (tOp (rIxT K) (tVar 5) (tC (.int 1))) from pe_ix ix_tup (pv 5) pe_int (fun _ _ => rfl)) pa_nil))
          (pa_cons (pe_meth (pv 0) T.cl M FM hr2 bM .nil pass0 (pa_cons (show PE _ _ (tOp (rIxT K) (tVar 5) (tC (.int 2))) from pe_ix ix_tup (pv 5) pe_int (fun _ _ => rfl)) pa_nil)) pa_nil)))) pa_nil)) rfl)
      (pss_cons (ps_fld (pv 0) (pe_callTy call_tuple_of (by rfl) B.tuple (by decide +kernel) (pa_cons (pe_lc (own := [("cell", 6)]) (g := gName 6) (tt := tYes) (by rfl) scIn.nd (pi_tup (pe_fld (pv 0) rfl))
        (blkOk_by (own := [("cell", 6)]) (N := ["self", "parts", "doors", "cells", "taken", "door", "cell"]) (sc := defScope sInit) (by decide +kernel))
        (fun _ _ _ _ _ => pg_name (i := 6) scIn.nd rfl (Or.inl rfl)) (fun _ _ _ _ _ => pts_nil)
        (fun _ _ _ _ _ => pe_meth (pv 0) T.cl M FM hr2 bM .nil pass0 (pa_cons (show PE _ _ (tOp (rIxT K) (tVar 6) (tC (.int 1))) from pe_ix ix_tup (pv 6) pe_int (fun _ _ => rfl)) pa_nil))) pa_nil)) rfl)
      (pss_one (ps_fld (pv 0) (pe_callTy call_tuple_of (by rfl) B.tuple (by decide +kernel) (pa_cons (pe_lc (own := [("cell", 6)]) (g := gName 6) (tt := tYes) (by rfl) scIn.nd (pi_tup (pe_fld (pv 0) rfl))
        (blkOk_by (own := [("cell", 6)]) (N := ["self", "parts", "doors", "cells", "taken", "door", "cell"]) (sc := defScope sInit) (by decide +kernel))
        (fun _ _ _ _ _ => pg_name (i := 6) scIn.nd rfl (Or.inl rfl)) (fun _ _ _ _ _ => pts_nil) (fun _ _ _ _ _ => (show PE _ _ (tOp (rIxT K) (tVar 6) (tC (.int 2))) from pe_ix ix_tup (pv 6) pe_int (fun _ _ => rfl)))) pa_nil)) rfl)))))))))), ?_⟩
    rcases stages ev with ⟨i, pb, bad⟩ | ⟨ps, ⟨ea, p1, gp⟩, evB⟩
    · have bad := bad.at (fun _ _ _ e => e) ho
      rcases pb with ⟨z, rfl⟩ | ⟨ps, t, rest, ea, gp, od, rfl⟩
      · exact ⟨_, rfl, v1, a, rfl, at_a, .inl ⟨z, bad⟩⟩
      · exact ⟨_, rfl, v1, a, rfl, at_a, .inr ⟨ps, t :: rest, ea, by rw [List.length_cons]; omega, gp, (fun t' r' e => by cases e; exact ⟨od, bad⟩), (fun e => nomatch e)⟩⟩
    have p8 := gp.len
    refine ⟨_, rfl, v1, a, rfl, at_a, .inr ⟨ps, [], by rw [List.append_nil]; exact ea, by simpa using p1, gp, (fun _ _ e => nomatch e), fun _ H1 tp s1 e1 => ⟨_, rfl, o, C, dx, [], rfl, s1 _ _ ho, T.cl, T.n1, by decide, ?_⟩⟩⟩
    have o1 : upd H1 o (.ins C dx [("parts", .ref tp)]) o = some (.ins C dx [("parts", .ref tp)]) := upd_same
    have b1 : But o H (upd H1 o (.ins C dx [("parts", .ref tp)])) := but_upd (but_same (fun _ _ _ e => e) s1)
    have p1' : upd H1 o (.ins C dx [("parts", .ref tp)]) tp = some (.tup (ps.map V.str)) := keep_upd (s1 _ _ ho) e1
    show Ends.nx _ _ (upd H1 o (.ins C dx [("parts", .ref tp)]))
    revert o1 b1 p1'
    generalize upd H1 o (.ins C dx [("parts", .ref tp)]) = G1
    intro o1 b1 p1'
    refine ⟨_, rfl, _, rfl, o, C, dx, _, _, rfl, o1, T.cl, T.n1, rfl, _, rfl, o, C, dx, _, _, rfl, o1, T.cl, T.n1, rfl, ?_⟩
    have at_b1 := at_b.but b1 ho
    rcases evB with ⟨i, tb, bad⟩ | ⟨ts, ns, ⟨eb, okd⟩, evC⟩
    · have bad := bad.at b1 o1
      rcases tb with ⟨z, rfl⟩ | ⟨ts, t, rest, ns, eb, ok, od, rfl⟩
      · exact ⟨v2, 12, tp, tp, fD, b, ps, ps, doorB, rfl, at_b1, by decide, p1', p8, .inr p1', by omega, if_pos rfl, named_door, .inl ⟨z, bad⟩⟩
      · exact ⟨v2, 12, tp, tp, fD, b, ps, ps, doorB, rfl, at_b1, by decide, p1', p8, .inr p1', by omega, if_pos rfl, named_door, .inr ⟨ts, t :: rest, ns, eb, ok, (fun t' r' e => by cases e; exact ⟨od, bad⟩), (fun e => nomatch e)⟩⟩
    have lns : ns.length = ts.length := by
      have := congrArg List.length okd.names
      simpa using this.symm
    have d12 := okd.few
    refine ⟨v2, 12, tp, tp, fD, b, ps, ps, doorB, rfl, at_b1, by decide, p1', p8, .inr p1', by omega, if_pos rfl, named_door, .inr ⟨ts, [], ns, by rw [List.append_nil]; exact eb, okd, (fun _ _ e => nomatch e), fun _ H2 td vd s2 e2 pd => ⟨_, rfl, o, C, dx, _, rfl, s2 _ _ o1, T.cl, T.n2, by show 1 < 1000; decide, ?_⟩⟩⟩
    have o2 : upd H2 o (.ins C dx [("parts", .ref tp), ("doors", .ref td)]) o = some (.ins C dx [("parts", .ref tp), ("doors", .ref td)]) := upd_same
    have b2 : But o H (upd H2 o (.ins C dx [("parts", .ref tp), ("doors", .ref td)])) := but_upd (but_same b1 s2)
    have p2 : upd H2 o (.ins C dx [("parts", .ref tp), ("doors", .ref td)]) tp = some (.tup (ps.map V.str)) := keep_upd (s2 _ _ o1) (s2 _ _ p1')
    have d2 : upd H2 o (.ins C dx [("parts", .ref tp), ("doors", .ref td)]) td = some (.tup vd) := keep_upd (s2 _ _ o1) e2
    have pd2 : Paired (TupAt (upd H2 o (.ins C dx [("parts", .ref tp), ("doors", .ref td)]))) vd ts := paired_mono (fun _ _ ⟨c, xs, e, e', ec⟩ => ⟨c, xs, e, e', keep_upd (s2 _ _ o1) ec⟩) pd
    show Ends.nx _ _ (upd H2 o (.ins C dx [("parts", .ref tp), ("doors", .ref td)]))
    revert o2 b2 p2 d2 pd2
    generalize upd H2 o (.ins C dx [("parts", .ref tp), ("doors", .ref td)]) = G2
    intro o2 b2 p2 d2 pd2
    have lvd := paired_len pd
    refine ⟨_, rfl, o, C, dx, _, _, rfl, o2, T.cl, T.n1, rfl, tp, _, rfl, .inl (SqT.of p2), ?_⟩
    unfold StX.tStar
    refine comp_ix (td := td) (i := 5) (j := 0) (fun R r => ⟨_, rfl, o, C, dx, _, _, rfl, o2, T.cl, T.n2, rfl, r⟩) d2 (by omega) (names_ix pd2 okd.names) (by intro; rfl) (by intro; rfl) fun H3 D s3 nD eD => ?_
    refine ⟨D, _, rfl, .inr (SqL.of eD), ?_⟩
    have line : (100 : Nat) ≤ sizeLine := by decide
    refine ⟨by simp; omega, fun l nl => ?_⟩
    have s4 := same_upd (o := .lst (ps.map V.str ++ (ns.map V.str ++ []))) nl
    have s34 := s3.trans s4
    have at_l : upd H3 l (.lst (ps.map V.str ++ (ns.map V.str ++ []))) l = some (.lst ((ps ++ ns).map V.str)) := by
      rw [upd_same, List.map_append, List.append_nil]
    have o3 := s34 _ _ o2
    have b3 := but_same b2 s34
    have p3 := s34 _ _ p2
    have d3 := s34 _ _ d2
    have pd3 : Paired (TupAt (upd H3 l (.lst (ps.map V.str ++ (ns.map V.str ++ []))))) vd ts := paired_mono (fun _ _ ⟨c, xs, e, e', ec⟩ => ⟨c, xs, e, e', s34 _ _ ec⟩) pd2
    show Ends.nx _ _ (upd H3 l (.lst (ps.map V.str ++ (ns.map V.str ++ []))))
    revert o3 b3 p3 d3 at_l pd3
    generalize upd H3 l (.lst (ps.map V.str ++ (ns.map V.str ++ []))) = G3
    intro at_l o3 b3 p3 d3 pd3
    refine ⟨_, rfl, _, rfl, o, C, dx, _, _, rfl, o3, T.cl, T.n1, rfl, _, rfl, ?_⟩
    have at_c3 := at_c.but b3 ho
    have l40 : (ps ++ ns).length ≤ 40 := by rw [List.length_append]; omega
    rcases evC with ⟨i, tb, bad⟩ | ⟨us, ms, ⟨ec, okc⟩, h, good, rfl, rfl, rfl, k⟩
    · have bad := bad.at b3 o3
      rcases tb with ⟨z, rfl⟩ | ⟨us, t, rest, ms, ec, ok, od, rfl⟩
      · exact ⟨v3, 8, tp, l, fC, c, ps, ps ++ ns, cellB, rfl, at_c3, by decide, p3, p8, .inl at_l, l40, if_pos rfl, named_cell, .inl ⟨z, bad⟩⟩
      · exact ⟨v3, 8, tp, l, fC, c, ps, ps ++ ns, cellB, rfl, at_c3, by decide, p3, p8, .inl at_l, l40, if_pos rfl, named_cell, .inr ⟨us, t :: rest, ms, ec, ok, (fun t' r' e => by cases e; exact ⟨od, bad⟩), (fun e => nomatch e)⟩⟩
    refine ⟨v3, 8, tp, l, fC, c, h.parts, h.parts ++ ns, cellB, rfl, at_c3, by decide, p3, p8, .inl at_l, l40, if_pos rfl, named_cell, .inr ⟨h.cells.map cT, [], ms, by rw [List.append_nil]; exact ec, okc, (fun _ _ e => nomatch e), fun _ H4 tc vc s5 e4 pc => ⟨_, rfl, o, C, dx, _, rfl, s5 _ _ o3, T.cl, T.n3, by show 2 < 1000; decide, ?_⟩⟩⟩
    have ld := lvd
    rw [List.length_map] at ld
    have lc := paired_len pc
    rw [List.length_map] at lc
    have d5 := good.d12
    have c3 := good.c8
    have bH4 : But o H H4 := but_same b3 s5
    have pd4 : Paired (fun v d => ∃ t, v = V.ref t ∧ H4 t = some (.tup (dvs d))) vd h.doors := paired_unmap dT (paired_mono (fun v t ⟨c, xs, e, e', ec⟩ d ed => by
      rw [ed] at e'
      injection e' with e'
      exact ⟨c, e, by rw [s5 _ _ ec, e']⟩) pd3)
    have pc4 : Paired (fun v d => ∃ t, v = V.ref t ∧ H4 t = some (.tup (cvs d))) vc h.cells := paired_unmap cT (paired_mono (fun v t ⟨c, xs, e, e', ec⟩ d ed => by
      rw [ed] at e'
      injection e' with e'
      exact ⟨c, e, by rw [ec, e']⟩) pc)
    have not : ∀ {x : Addr} {xs : List V}, H4 x = some (.tup xs) → x ≠ o := fun e => ne_of e (s5 _ _ o3) (fun z => by cases z)
    have pdx : ∀ {G : Hp}, But o H4 G → Paired (fun v d => ∃ t, v = V.ref t ∧ G t = some (.tup (dvs d))) vd h.doors := fun {G} b => paired_mono (fun v d x => by
      obtain ⟨t, rfl, et⟩ := x
      exact ⟨t, rfl, b _ _ (not et) et⟩) pd4
    have pcx : ∀ {G : Hp}, But o H4 G → Paired (fun v d => ∃ t, v = V.ref t ∧ G t = some (.tup (cvs d))) vc h.cells := fun {G} b => paired_mono (fun v d x => by
      obtain ⟨t, rfl, et⟩ := x
      exact ⟨t, rfl, b _ _ (not et) et⟩) pc4
    have dix : ∀ {G : Hp} (j : Int) (g : Door → V), (∀ d, atI (dvs d) j = some (g d)) → But o H4 G → Paired (fun v y => ∃ t xs, v = V.ref t ∧ G t = some (.tup xs) ∧ atI xs j = some y) vd (h.doors.map g) := fun {G} j g hg b =>
      paired_map g (paired_mono (fun v d x => by
        obtain ⟨t, rfl, et⟩ := x
        exact ⟨t, _, rfl, et, hg d⟩) (pdx b))
    have cix : ∀ {G : Hp} (j : Int) (g : Cell → V), (∀ d, atI (cvs d) j = some (g d)) → But o H4 G → Paired (fun v y => ∃ t xs, v = V.ref t ∧ G t = some (.tup xs) ∧ atI xs j = some y) vc (h.cells.map g) := fun {G} j g hg b =>
      paired_map g (paired_mono (fun v d x => by
        obtain ⟨t, rfl, et⟩ := x
        exact ⟨t, _, rfl, et, hg d⟩) (pcx b))
    have o4 : upd H4 o (.ins C dx [("parts", .ref tp), ("doors", .ref td), ("cells", .ref tc)]) o = some (.ins C dx [("parts", .ref tp), ("doors", .ref td), ("cells", .ref tc)]) := upd_same
    have b4 : But o H4 (upd H4 o (.ins C dx [("parts", .ref tp), ("doors", .ref td), ("cells", .ref tc)])) := but_upd (fun _ _ _ e => e)
    have p4' : upd H4 o (.ins C dx [("parts", .ref tp), ("doors", .ref td), ("cells", .ref tc)]) tp = some (.tup (h.parts.map V.str)) := keep_upd (s5 _ _ o3) (s5 _ _ p3)
    have d4 : upd H4 o (.ins C dx [("parts", .ref tp), ("doors", .ref td), ("cells", .ref tc)]) td = some (.tup vd) := keep_upd (s5 _ _ o3) (s5 _ _ d3)
    have c4 : upd H4 o (.ins C dx [("parts", .ref tp), ("doors", .ref td), ("cells", .ref tc)]) tc = some (.tup vc) := keep_upd (s5 _ _ o3) e4
    show Ends.nx _ _ (upd H4 o (.ins C dx [("parts", .ref tp), ("doors", .ref td), ("cells", .ref tc)]))
    revert o4 b4 p4' d4 c4
    generalize upd H4 o (.ins C dx [("parts", .ref tp), ("doors", .ref td), ("cells", .ref tc)]) = G4
    intro o4 b4 p4' d4 c4
    -- the numbers of the parts
    refine ⟨_, rfl, o, C, dx, _, _, rfl, o4, T.cl, T.n1, rfl, tp, h.parts, rfl, .inr p4', by omega, (parts_good good).nodup, fun H5 D5 kvs s6 e5 nk1 => ⟨_, rfl, o, C, dx, _, rfl, s6 _ _ o4, T.cl, T.n4, by show 3 < 1000; decide, ?_⟩⟩
    have o5 : upd H5 o (.ins C dx [("parts", .ref tp), ("doors", .ref td), ("cells", .ref tc), ("_part_numbers", .ref D5)]) o = some (.ins C dx [("parts", .ref tp), ("doors", .ref td), ("cells", .ref tc), ("_part_numbers", .ref D5)]) := upd_same
    have b5 : But o H4 (upd H5 o (.ins C dx [("parts", .ref tp), ("doors", .ref td), ("cells", .ref tc), ("_part_numbers", .ref D5)])) := but_upd (but_same b4 s6)
    have p5 : upd H5 o (.ins C dx [("parts", .ref tp), ("doors", .ref td), ("cells", .ref tc), ("_part_numbers", .ref D5)]) tp = some (.tup (h.parts.map V.str)) := keep_upd (s6 _ _ o4) (s6 _ _ p4')
    have d5' : upd H5 o (.ins C dx [("parts", .ref tp), ("doors", .ref td), ("cells", .ref tc), ("_part_numbers", .ref D5)]) td = some (.tup vd) := keep_upd (s6 _ _ o4) (s6 _ _ d4)
    have c5 : upd H5 o (.ins C dx [("parts", .ref tp), ("doors", .ref td), ("cells", .ref tc), ("_part_numbers", .ref D5)]) tc = some (.tup vc) := keep_upd (s6 _ _ o4) (s6 _ _ c4)
    have n5 : upd H5 o (.ins C dx [("parts", .ref tp), ("doors", .ref td), ("cells", .ref tc), ("_part_numbers", .ref D5)]) D5 = some (.dK kvs) := keep_dK (s6 _ _ o4) e5
    show Ends.nx _ _ (upd H5 o (.ins C dx [("parts", .ref tp), ("doors", .ref td), ("cells", .ref tc), ("_part_numbers", .ref D5)]))
    revert o5 b5 p5 d5' c5 n5
    generalize upd H5 o (.ins C dx [("parts", .ref tp), ("doors", .ref td), ("cells", .ref tc), ("_part_numbers", .ref D5)]) = G5
    intro o5 b5 p5 d5' c5 n5
    dsimp only
    refine seq_fld (call_one ?_)
    refine comp_ix (td := td) (i := 5) (j := 0) (fun R r => ⟨_, rfl, o, C, dx, _, _, rfl, o5, T.cl, T.n2, rfl, r⟩) d5' (by omega) (dix 0 (fun d => .str d.n) (fun d => rfl) b5) (by intro; rfl) (by intro; rfl) fun A5 D5a sa5 nD5 eD5 => ?_
    refine ⟨D5a, h.doors.map (·.n), rfl, .inl (by rw [List.map_map]; exact eD5), by rw [List.length_map]; omega, nodup_doors good, fun B5 D5b kvs5 sb5 eb5 nk2 => ⟨_, rfl, o, C, dx, _, rfl, (sa5.trans sb5) _ _ o5, T.cl, T.n5, by show 4 < 1000; decide, ?_⟩⟩
    have sc5 := sa5.trans sb5
    have o6 : upd B5 o (.ins C dx [("parts", .ref tp), ("doors", .ref td), ("cells", .ref tc), ("_part_numbers", .ref D5), ("_door_numbers", .ref D5b)]) o = some (.ins C dx [("parts", .ref tp), ("doors", .ref td), ("cells", .ref tc), ("_part_numbers", .ref D5), ("_door_numbers", .ref D5b)]) := upd_same
    have b6 : But o H4 (upd B5 o (.ins C dx [("parts", .ref tp), ("doors", .ref td), ("cells", .ref tc), ("_part_numbers", .ref D5), ("_door_numbers", .ref D5b)])) := but_upd (but_same b5 sc5)
    have p6 : upd B5 o (.ins C dx [("parts", .ref tp), ("doors", .ref td), ("cells", .ref tc), ("_part_numbers", .ref D5), ("_door_numbers", .ref D5b)]) tp = some (.tup (h.parts.map V.str)) := keep_upd (sc5 _ _ o5) (sc5 _ _ p5)
    have d6' : upd B5 o (.ins C dx [("parts", .ref tp), ("doors", .ref td), ("cells", .ref tc), ("_part_numbers", .ref D5), ("_door_numbers", .ref D5b)]) td = some (.tup vd) := keep_upd (sc5 _ _ o5) (sc5 _ _ d5')
    have c6 : upd B5 o (.ins C dx [("parts", .ref tp), ("doors", .ref td), ("cells", .ref tc), ("_part_numbers", .ref D5), ("_door_numbers", .ref D5b)]) tc = some (.tup vc) := keep_upd (sc5 _ _ o5) (sc5 _ _ c5)
    have n6 : upd B5 o (.ins C dx [("parts", .ref tp), ("doors", .ref td), ("cells", .ref tc), ("_part_numbers", .ref D5), ("_door_numbers", .ref D5b)]) D5 = some (.dK kvs) := keep_dK (sc5 _ _ o5) (sc5 _ _ n5)
    show tSeq _ _ _ _ (upd B5 o (.ins C dx [("parts", .ref tp), ("doors", .ref td), ("cells", .ref tc), ("_part_numbers", .ref D5), ("_door_numbers", .ref D5b)]))
    have w6 : But o G5 (upd B5 o (.ins C dx [("parts", .ref tp), ("doors", .ref td), ("cells", .ref tc), ("_part_numbers", .ref D5), ("_door_numbers", .ref D5b)])) := but_upd (But.of_same sc5)
    have x6 : upd B5 o (.ins C dx [("parts", .ref tp), ("doors", .ref td), ("cells", .ref tc), ("_part_numbers", .ref D5), ("_door_numbers", .ref D5b)]) D5b = some (.dK kvs5) := keep_dK (sc5 _ _ o5) eb5
    revert o6 b6 p6 d6' c6 n6 w6 x6
    generalize upd B5 o (.ins C dx [("parts", .ref tp), ("doors", .ref td), ("cells", .ref tc), ("_part_numbers", .ref D5), ("_door_numbers", .ref D5b)]) = G6
    intro o6 b6 p6 d6' c6 n6 w6 x6
    refine seq_fld (call_one ?_)
    refine comp_ix (td := tc) (i := 6) (j := 0) (fun R r => ⟨_, rfl, o, C, dx, _, _, rfl, o6, T.cl, T.n3, rfl, r⟩) c6 (by omega) (cix 0 (fun d => .str d.n) (fun d => rfl) b6) (by intro; rfl) (by intro; rfl) fun A6 D6a sa6 nD6 eD6 => ?_
    refine ⟨D6a, h.cells.map (·.n), rfl, .inl (by rw [List.map_map]; exact eD6), by rw [List.length_map]; omega, nodup_cells good, fun B6 D6b kvs6 sb6 eb6 nk3 => ⟨_, rfl, o, C, dx, _, rfl, (sa6.trans sb6) _ _ o6, T.cl, T.n6, by show 5 < 1000; decide, ?_⟩⟩
    have sc6 := sa6.trans sb6
    have o7 : upd B6 o (.ins C dx [("parts", .ref tp), ("doors", .ref td), ("cells", .ref tc), ("_part_numbers", .ref D5), ("_door_numbers", .ref D5b), ("_cell_numbers", .ref D6b)]) o = some (.ins C dx [("parts", .ref tp), ("doors", .ref td), ("cells", .ref tc), ("_part_numbers", .ref D5), ("_door_numbers", .ref D5b), ("_cell_numbers", .ref D6b)]) := upd_same
    have b7 : But o H4 (upd B6 o (.ins C dx [("parts", .ref tp), ("doors", .ref td), ("cells", .ref tc), ("_part_numbers", .ref D5), ("_door_numbers", .ref D5b), ("_cell_numbers", .ref D6b)])) := but_upd (but_same b6 sc6)
    have p7 : upd B6 o (.ins C dx [("parts", .ref tp), ("doors", .ref td), ("cells", .ref tc), ("_part_numbers", .ref D5), ("_door_numbers", .ref D5b), ("_cell_numbers", .ref D6b)]) tp = some (.tup (h.parts.map V.str)) := keep_upd (sc6 _ _ o6) (sc6 _ _ p6)
    have d7' : upd B6 o (.ins C dx [("parts", .ref tp), ("doors", .ref td), ("cells", .ref tc), ("_part_numbers", .ref D5), ("_door_numbers", .ref D5b), ("_cell_numbers", .ref D6b)]) td = some (.tup vd) := keep_upd (sc6 _ _ o6) (sc6 _ _ d6')
    have c7 : upd B6 o (.ins C dx [("parts", .ref tp), ("doors", .ref td), ("cells", .ref tc), ("_part_numbers", .ref D5), ("_door_numbers", .ref D5b), ("_cell_numbers", .ref D6b)]) tc = some (.tup vc) := keep_upd (sc6 _ _ o6) (sc6 _ _ c6)
    have n7 : upd B6 o (.ins C dx [("parts", .ref tp), ("doors", .ref td), ("cells", .ref tc), ("_part_numbers", .ref D5), ("_door_numbers", .ref D5b), ("_cell_numbers", .ref D6b)]) D5 = some (.dK kvs) := keep_dK (sc6 _ _ o6) (sc6 _ _ n6)
    show tSeq _ _ _ _ (upd B6 o (.ins C dx [("parts", .ref tp), ("doors", .ref td), ("cells", .ref tc), ("_part_numbers", .ref D5), ("_door_numbers", .ref D5b), ("_cell_numbers", .ref D6b)]))
    have w7 : But o G6 (upd B6 o (.ins C dx [("parts", .ref tp), ("doors", .ref td), ("cells", .ref tc), ("_part_numbers", .ref D5), ("_door_numbers", .ref D5b), ("_cell_numbers", .ref D6b)])) := but_upd (But.of_same sc6)
    have x7 : upd B6 o (.ins C dx [("parts", .ref tp), ("doors", .ref td), ("cells", .ref tc), ("_part_numbers", .ref D5), ("_door_numbers", .ref D5b), ("_cell_numbers", .ref D6b)]) D6b = some (.dK kvs6) := keep_dK (sc6 _ _ o6) eb6
    revert o7 b7 p7 d7' c7 n7 w7 x7
    generalize upd B6 o (.ins C dx [("parts", .ref tp), ("doors", .ref td), ("cells", .ref tc), ("_part_numbers", .ref D5), ("_door_numbers", .ref D5b), ("_cell_numbers", .ref D6b)]) = G7
    intro o7 b7 p7 d7' c7 n7 w7 x7
    have lvdd : vd.length = h.doors.length := paired_len (pdx b7)
    have lvcc : vc.length = h.cells.length := paired_len (pcx b7)
    refine seq_fld (cb_one ?_)
    refine ⟨_, rfl, o, C, dx, _, _, rfl, o7, T.cl, T.n2, rfl, td, rfl, ⟨_, SqT.of d7'⟩, fun D8 nD8 => ?_⟩
    refine lc_tup (xs := vd) (fun n H' => Same G7 H' ∧ ∃ acc, H' D8 = some (.lst acc) ∧ Paired (EndAt h.parts H') acc (h.doors.take n)) ⟨same_upd nD8, [], upd_same, .nil⟩ (fun n H' _ z => SqT.of (z.1 _ _ d7')) ?_ ?_
    · rintro n x H8 hx ⟨s8, acc, at_D, pe8⟩
      have la := paired_len pe8
      rw [List.length_take] at la
      obtain ⟨d, hd, t, rfl, et⟩ := paired_get (pdx b7) hx
      have hn : n < vd.length := (List.getElem?_eq_some_iff.mp hx).1
      obtain ⟨g1, g2, _⟩ := good.ends d (List.mem_of_getElem? hd)
      refine ⟨rfl, kept ⟨_, rfl, o, dx, _, rfl, s8 _ _ o7, rfl, _, rfl, t, _, _, V.str d.one, rfl, rfl, SqT.of (s8 _ _ et), atI_nat (j := 1) rfl, ?_⟩⟩
      refine ⟨o, D5, dx, d.one, h.parts, kvs, _, rfl, s8 _ _ o7, rfl, s8 _ _ n7, nk1, g1, ?_⟩
      refine ⟨_, rfl, o, dx, _, rfl, s8 _ _ o7, rfl, _, rfl, t, _, _, V.str d.two, rfl, rfl, SqT.of (s8 _ _ et), atI_nat (j := 2) rfl, ?_⟩
      refine ⟨o, D5, dx, d.two, h.parts, kvs, _, rfl, s8 _ _ o7, rfl, s8 _ _ n7, nk1, g2, ⟨by show 2 ≤ sizeLine; decide, fun u nu => ?_⟩⟩
      have s9 := same_upd (o := .tup [.int (endN h.parts d.one), .int (endN h.parts d.two)]) nu
      refine ⟨acc, s9 _ _ at_D, by omega, fun b x e => ?_, _, upd_same, ?_⟩
      · rw [upd_ne (ne_of_none e nD8)]
        exact s9 _ _ (s8 _ _ e)
      · obtain ⟨hl, rfl⟩ := List.getElem?_eq_some_iff.mp hd
        rw [List.take_succ_eq_append_getElem hl]
        exact paired_snoc (paired_mono (fun _ _ ⟨t, e, et⟩ => ⟨t, e, by rw [upd_ne (ne_of (s9 _ _ et) (s9 _ _ at_D) (fun z => by cases z))]; exact s9 _ _ et⟩) pe8) ⟨u, rfl, by rw [upd_ne (ne_of upd_same (s9 _ _ at_D) (fun z => by cases z))]; exact upd_same⟩
    rintro H8 ⟨s8, acc, at_D, pe8⟩
    rw [lvdd, List.take_length] at pe8
    refine ⟨D8, _, rfl, .inl ⟨SqL.of at_D, fun u8 nu8 => ⟨_, rfl, o, C, dx, _, rfl, (s8.trans (same_upd nu8)) _ _ o7, T.cl, T.n7, by show 6 < 1000; decide, ?_⟩⟩⟩
    have sc8 := s8.trans (same_upd (o := .tup acc) nu8)
    have o8 : upd (upd H8 u8 (.tup acc)) o (.ins C dx [("parts", .ref tp), ("doors", .ref td), ("cells", .ref tc), ("_part_numbers", .ref D5), ("_door_numbers", .ref D5b), ("_cell_numbers", .ref D6b), ("ends", .ref u8)]) o = some (.ins C dx [("parts", .ref tp), ("doors", .ref td), ("cells", .ref tc), ("_part_numbers", .ref D5), ("_door_numbers", .ref D5b), ("_cell_numbers", .ref D6b), ("ends", .ref u8)]) := upd_same
    have b8 : But o H4 (upd (upd H8 u8 (.tup acc)) o (.ins C dx [("parts", .ref tp), ("doors", .ref td), ("cells", .ref tc), ("_part_numbers", .ref D5), ("_door_numbers", .ref D5b), ("_cell_numbers", .ref D6b), ("ends", .ref u8)])) := but_upd (but_same b7 sc8)
    have p8 : upd (upd H8 u8 (.tup acc)) o (.ins C dx [("parts", .ref tp), ("doors", .ref td), ("cells", .ref tc), ("_part_numbers", .ref D5), ("_door_numbers", .ref D5b), ("_cell_numbers", .ref D6b), ("ends", .ref u8)]) tp = some (.tup (h.parts.map V.str)) := keep_upd (sc8 _ _ o7) (sc8 _ _ p7)
    have d8' : upd (upd H8 u8 (.tup acc)) o (.ins C dx [("parts", .ref tp), ("doors", .ref td), ("cells", .ref tc), ("_part_numbers", .ref D5), ("_door_numbers", .ref D5b), ("_cell_numbers", .ref D6b), ("ends", .ref u8)]) td = some (.tup vd) := keep_upd (sc8 _ _ o7) (sc8 _ _ d7')
    have c8 : upd (upd H8 u8 (.tup acc)) o (.ins C dx [("parts", .ref tp), ("doors", .ref td), ("cells", .ref tc), ("_part_numbers", .ref D5), ("_door_numbers", .ref D5b), ("_cell_numbers", .ref D6b), ("ends", .ref u8)]) tc = some (.tup vc) := keep_upd (sc8 _ _ o7) (sc8 _ _ c7)
    have n8 : upd (upd H8 u8 (.tup acc)) o (.ins C dx [("parts", .ref tp), ("doors", .ref td), ("cells", .ref tc), ("_part_numbers", .ref D5), ("_door_numbers", .ref D5b), ("_cell_numbers", .ref D6b), ("ends", .ref u8)]) D5 = some (.dK kvs) := keep_dK (sc8 _ _ o7) (sc8 _ _ n7)
    show tSeq _ _ _ _ (upd (upd H8 u8 (.tup acc)) o (.ins C dx [("parts", .ref tp), ("doors", .ref td), ("cells", .ref tc), ("_part_numbers", .ref D5), ("_door_numbers", .ref D5b), ("_cell_numbers", .ref D6b), ("ends", .ref u8)]))
    have w8 : But o G7 (upd (upd H8 u8 (.tup acc)) o (.ins C dx [("parts", .ref tp), ("doors", .ref td), ("cells", .ref tc), ("_part_numbers", .ref D5), ("_door_numbers", .ref D5b), ("_cell_numbers", .ref D6b), ("ends", .ref u8)])) := but_upd (But.of_same sc8)
    have x8 : upd (upd H8 u8 (.tup acc)) o (.ins C dx [("parts", .ref tp), ("doors", .ref td), ("cells", .ref tc), ("_part_numbers", .ref D5), ("_door_numbers", .ref D5b), ("_cell_numbers", .ref D6b), ("ends", .ref u8)]) u8 = some (.tup acc) := keep_upd (sc8 _ _ o7) upd_same
    have y8 : Paired (EndAt h.parts (upd (upd H8 u8 (.tup acc)) o (.ins C dx [("parts", .ref tp), ("doors", .ref td), ("cells", .ref tc), ("_part_numbers", .ref D5), ("_door_numbers", .ref D5b), ("_cell_numbers", .ref D6b), ("ends", .ref u8)]))) acc h.doors := paired_mono (fun _ _ ⟨t, e, et⟩ => ⟨t, e, keep_upd (sc8 _ _ o7) (same_upd nu8 _ _ et)⟩) pe8
    revert o8 b8 p8 d8' c8 n8 w8 x8 y8
    generalize upd (upd H8 u8 (.tup acc)) o (.ins C dx [("parts", .ref tp), ("doors", .ref td), ("cells", .ref tc), ("_part_numbers", .ref D5), ("_door_numbers", .ref D5b), ("_cell_numbers", .ref D6b), ("ends", .ref u8)]) = G8
    intro o8 b8 p8 d8' c8 n8 w8 x8 y8
    refine seq_fld (cb_one ?_)
    refine ⟨_, rfl, o, C, dx, _, _, rfl, o8, T.cl, T.n3, rfl, tc, rfl, ⟨_, SqT.of c8⟩, fun D9 nD9 => ?_⟩
    refine lc_tup (xs := vc) (fun n H' => Same G8 H' ∧ H' D9 = some (.lst ((h.cells.take n).map fun c => V.int (endN h.parts c.p)))) ⟨same_upd nD9, upd_same⟩ (fun n H' _ z => SqT.of (z.1 _ _ c8)) ?_ ?_
    · rintro n x H9 hx ⟨s9, at_D⟩
      obtain ⟨d, hd, t, rfl, et⟩ := paired_get (pcx b8) hx
      have hn : n < vc.length := (List.getElem?_eq_some_iff.mp hx).1
      refine ⟨rfl, kept ⟨_, rfl, o, dx, _, rfl, s9 _ _ o8, rfl, _, rfl, t, _, _, V.str d.p, rfl, rfl, SqT.of (s9 _ _ et), atI_nat (j := 1) rfl, ?_⟩⟩
      refine ⟨o, D5, dx, d.p, h.parts, kvs, _, rfl, s9 _ _ o8, rfl, s9 _ _ n8, nk1, (.inr (good.cin d (List.mem_of_getElem? hd))), ?_⟩
      refine ⟨_, at_D, by rw [List.length_map, List.length_take]; omega, fun b x e => ?_, ?_⟩
      · rw [upd_ne (ne_of_none e nD9)]
        exact s9 _ _ e
      · obtain ⟨hl, rfl⟩ := List.getElem?_eq_some_iff.mp hd
        rw [upd_same, List.take_succ_eq_append_getElem hl, List.map_append]
        rfl
    rintro H9 ⟨s9, at_D9⟩
    rw [lvcc, List.take_length] at at_D9
    generalize hacc9 : (h.cells.map fun c => V.int (endN h.parts c.p)) = acc9 at at_D9
    refine ⟨D9, _, rfl, .inl ⟨SqL.of at_D9, fun u9 nu9 => ⟨_, rfl, o, C, dx, _, rfl, (s9.trans (same_upd nu9)) _ _ o8, T.cl, T.n8, by show 7 < 1000; decide, ?_⟩⟩⟩
    have sc9 := s9.trans (same_upd (o := .tup acc9) nu9)
    have o9 : upd (upd H9 u9 (.tup acc9)) o (.ins C dx [("parts", .ref tp), ("doors", .ref td), ("cells", .ref tc), ("_part_numbers", .ref D5), ("_door_numbers", .ref D5b), ("_cell_numbers", .ref D6b), ("ends", .ref u8), ("cell_parts", .ref u9)]) o = some (.ins C dx [("parts", .ref tp), ("doors", .ref td), ("cells", .ref tc), ("_part_numbers", .ref D5), ("_door_numbers", .ref D5b), ("_cell_numbers", .ref D6b), ("ends", .ref u8), ("cell_parts", .ref u9)]) := upd_same
    have b9 : But o H4 (upd (upd H9 u9 (.tup acc9)) o (.ins C dx [("parts", .ref tp), ("doors", .ref td), ("cells", .ref tc), ("_part_numbers", .ref D5), ("_door_numbers", .ref D5b), ("_cell_numbers", .ref D6b), ("ends", .ref u8), ("cell_parts", .ref u9)])) := but_upd (but_same b8 sc9)
    have p9 : upd (upd H9 u9 (.tup acc9)) o (.ins C dx [("parts", .ref tp), ("doors", .ref td), ("cells", .ref tc), ("_part_numbers", .ref D5), ("_door_numbers", .ref D5b), ("_cell_numbers", .ref D6b), ("ends", .ref u8), ("cell_parts", .ref u9)]) tp = some (.tup (h.parts.map V.str)) := keep_upd (sc9 _ _ o8) (sc9 _ _ p8)
    have d9' : upd (upd H9 u9 (.tup acc9)) o (.ins C dx [("parts", .ref tp), ("doors", .ref td), ("cells", .ref tc), ("_part_numbers", .ref D5), ("_door_numbers", .ref D5b), ("_cell_numbers", .ref D6b), ("ends", .ref u8), ("cell_parts", .ref u9)]) td = some (.tup vd) := keep_upd (sc9 _ _ o8) (sc9 _ _ d8')
    have c9 : upd (upd H9 u9 (.tup acc9)) o (.ins C dx [("parts", .ref tp), ("doors", .ref td), ("cells", .ref tc), ("_part_numbers", .ref D5), ("_door_numbers", .ref D5b), ("_cell_numbers", .ref D6b), ("ends", .ref u8), ("cell_parts", .ref u9)]) tc = some (.tup vc) := keep_upd (sc9 _ _ o8) (sc9 _ _ c8)
    have n9 : upd (upd H9 u9 (.tup acc9)) o (.ins C dx [("parts", .ref tp), ("doors", .ref td), ("cells", .ref tc), ("_part_numbers", .ref D5), ("_door_numbers", .ref D5b), ("_cell_numbers", .ref D6b), ("ends", .ref u8), ("cell_parts", .ref u9)]) D5 = some (.dK kvs) := keep_dK (sc9 _ _ o8) (sc9 _ _ n8)
    show sFld _ _ _ _ _ _ (upd (upd H9 u9 (.tup acc9)) o (.ins C dx [("parts", .ref tp), ("doors", .ref td), ("cells", .ref tc), ("_part_numbers", .ref D5), ("_door_numbers", .ref D5b), ("_cell_numbers", .ref D6b), ("ends", .ref u8), ("cell_parts", .ref u9)]))
    have w9 : But o G8 (upd (upd H9 u9 (.tup acc9)) o (.ins C dx [("parts", .ref tp), ("doors", .ref td), ("cells", .ref tc), ("_part_numbers", .ref D5), ("_door_numbers", .ref D5b), ("_cell_numbers", .ref D6b), ("ends", .ref u8), ("cell_parts", .ref u9)])) := but_upd (But.of_same sc9)
    have x9 : upd (upd H9 u9 (.tup acc9)) o (.ins C dx [("parts", .ref tp), ("doors", .ref td), ("cells", .ref tc), ("_part_numbers", .ref D5), ("_door_numbers", .ref D5b), ("_cell_numbers", .ref D6b), ("ends", .ref u8), ("cell_parts", .ref u9)]) u9 = some (.tup acc9) := keep_upd (sc9 _ _ o8) upd_same
    revert o9 b9 p9 d9' c9 n9 w9 x9
    generalize upd (upd H9 u9 (.tup acc9)) o (.ins C dx [("parts", .ref tp), ("doors", .ref td), ("cells", .ref tc), ("_part_numbers", .ref D5), ("_door_numbers", .ref D5b), ("_cell_numbers", .ref D6b), ("ends", .ref u8), ("cell_parts", .ref u9)]) = G9
    intro o9 b9 p9 d9' c9 n9 w9 x9
    refine one_fld (cb_one ?_)
    refine comp_ix (td := tc) (i := 6) (j := 2) (fun R r => ⟨_, rfl, o, C, dx, _, _, rfl, o9, T.cl, T.n3, rfl, r⟩) c9 (by omega) (cix 2 (fun d => .bl d.k) (fun d => rfl) b9) (by intro; rfl) (by intro; rfl) fun A9 D9a sa9 nD9 eD9 => ?_
    refine ⟨D9a, _, rfl, .inl ⟨SqL.of eD9, fun u nu => ⟨_, rfl, o, C, dx, _, rfl, (sa9.trans (same_upd nu)) _ _ o9, T.cl, T.n9, by show 8 < 1000; decide, ?_⟩⟩⟩
    have sc9 := sa9.trans (same_upd (o := .tup (h.cells.map fun d => V.bl d.k)) nu)
    have wA : But o G9 (upd (upd A9 u (.tup (h.cells.map fun d => V.bl d.k))) o (.ins C dx (houseFs tp td tc D5 D5b D6b u8 u9 u))) := but_upd (But.of_same sc9)
    have w9A := w9.trans wA
    have w8A := w8.trans w9A
    have w7A := w7.trans w8A
    have nt : ∀ {G : Hp} {fs : List (Str × V)} {x : Addr} {xs : List V}, G o = some (.ins C dx fs) → G x = some (.tup xs) → x ≠ o := fun e e' => ne_of e' e (fun z => by cases z)
    have nk : ∀ {G : Hp} {fs : List (Str × V)} {x : Addr} {xs : List (Key × V)}, G o = some (.ins C dx fs) → G x = some (.dK xs) → x ≠ o := fun e e' => ne_of e' e (fun z => by cases z)
    refine k _ (But.trans bH4 (but_upd (but_same b9 sc9))) ⟨dx, tp, td, tc, D5, D5b, D6b, u8, u9, u, vd, vc, acc, kvs, kvs5, kvs6, {
      ins := upd_same
      pa := keep_upd (sc9 _ _ o9) (sc9 _ _ p9)
      da := keep_upd (sc9 _ _ o9) (sc9 _ _ d9')
      dp := pdx (but_upd (but_same b9 sc9))
      ca := keep_upd (sc9 _ _ o9) (sc9 _ _ c9)
      cp := pcx (but_upd (but_same b9 sc9))
      n1 := keep_dK (sc9 _ _ o9) (sc9 _ _ n9)
      m1 := nk1
      n2 := w7A _ _ (nk o6 x6) x6
      m2 := nk2
      n3 := w8A _ _ (nk o7 x7) x7
      m3 := nk3
      ea := w9A _ _ (nt o8 x8) x8
      ep := paired_mono (fun _ _ ⟨t, e, et⟩ => ⟨t, e, w9A _ _ (nt o8 et) et⟩) y8
      qa := by
        rw [hacc9]
        exact wA _ _ (nt o9 x9) x9
      ka := keep_upd (sc9 _ _ o9) upd_same }⟩
end
end K18

namespace K18
open DL (Callee pe_callee)
open PySem PySem.Spec PyProof.Rows L2
open Cal EnuT Sqx Exn Keys

/-! ### numbers that may lack -/
abbrev CN1 (P : Program) (w : World) (K : W.Frag) (mg : Str → Option Value) (base : Heap) (CN : Addr) : Prop := Cl1 P w K mg base "NoName" CN "name" "LookupError" "LookupError.__new__" "LookupError.__init__" keyTail
def BadN (CN : Addr) (H : Hp) (E : XK) (v : V) : Prop := ∀ H' d, Same H H' → H d = none → H' d = some (.xd [("name", v)]) → E (.ref CN) (some d) H'
theorem BadN.same {CN : Addr} {H H1 : Hp} {E : XK} {v : V} (b : BadN CN H E v) (s : Same H H1) : BadN CN H1 E v := fun H' d s' nd e => b H' d (s.trans s') (s.free nd) e
/-- no name of these -/
def Miss (H : Hp) (ps : List Str) (v : V) : Prop := (∃ x, v = .str x ∧ x ∉ ps) ∨ ∃ o, SqOf H v o ∧ (o = none → isStr v = false)
theorem idx_of {ps : List Str} {x : Str} (h : x ∈ ps) : numV ps x = some (.int (ps.idxOf x : Nat)) := if_pos h
theorem idx_no {ps : List Str} {x : Str} (h : x ∉ ps) : numV ps x = none := if_neg h
theorem miss_ty {K : W.Frag} {H : Hp} {v : V} {o : Option (List V)} (sq : SqOf H v o) (n : o = none → isStr v = false) : ∃ t, TyX K H v t ∧ W.kitOne K t (.type "str") = some false := by
  cases o with
  | none =>
    obtain ⟨t, h1, _, h3, _⟩ := flat_ty (K := K) (H := H) sq
    rw [n rfl] at h3
    exact ⟨t, h1, h3⟩
  | some xs =>
    obtain ⟨a, rfl, sq⟩ := sq
    obtain ⟨t, h1, _, h3⟩ := seq_ty (K := K) sq
    exact ⟨t, h1, h3⟩
def spNumOfX (CN : Addr) : Sp := fun vs H Q E => ∃ (D : Addr) (v : V) (ps : List Str) (kvs : List (Key × V)), vs = [.ref D, v] ∧ H D = some (.dK kvs) ∧ NumsK ps kvs ∧ ((∃ x, v = .str x ∧ x ∈ ps ∧ Q (.int (ps.idxOf x : Nat)) H) ∨ (Miss H ps v ∧ BadN CN H E v))
section
variable {P : Program} {w : World} {K : W.Frag} {mg : Str → Option Value} {base : Heap}
theorem ok_numofX {f CN : Addr} {fd : FuncData} (F : Fun K "_number_of" "_number_of" sNumOf f fd) (B : Bl mg) (cN : CN1 P w K mg base CN) : FnOk P w K mg base (L2.CX P w) 3 f fd ["numbers", "name"] (spNumOfX CN) := by
  refine F.okX scNO (fun vs H Q E h => ?_) (fun cdv A outer s H vs Q E hr h => ?_)
  · obtain ⟨D, v, ps, kvs, rfl, _⟩ := h
    rfl
  · obtain ⟨D, v, ps, kvs, rfl, hD, nk, ev⟩ := h
    have hu0 := hr.units
    have hu : (A.deeper (envOfC "_number_of" (defScope sNumOf) s.heap.objs.size f cdv)).units + 1 < cLine := by omega
    refine ⟨_, pss_cons (ps_if (PW.pt (pw_or (pt_not (pt_val (pe_callB call_isi (by rfl) B.isi (by decide +kernel) (pa_cons (pv 1) (pa_cons (pe_bltn (v := .ty "str") rfl B.str (by decide +kernel) rfl) pa_nil))))) (pw_or1 (pt_cmp (pc_dnotin hu (pv 1) (pv 0)))))) (pss_one (ps_raise rfl (takes_of rfl rfl rfl rfl) (pmk_exn cN hr rfl (pv 1)))) pss_nil)
      (pss_one (ps_ret (pe_dget hu (pv 0) (pv 1) (fun _ _ => rfl)))), ?_⟩
    rcases ev with ⟨x, rfl, m, q⟩ | ⟨(⟨x, rfl, m⟩ | ⟨o, sq, no⟩), bad⟩
    · refine ⟨_, rfl, _, _, _, _, true, rfl, .ty "str", .base (.str _), kit_ty (by decide +kernel), _, rfl, iteF ?_⟩
      refine ⟨_, rfl, _, rfl, D, _, rfl, DGet.k (k := Sum.inr x) hD, ?_⟩
      rw [nk x, idx_of m]
      refine ⟨_, rfl, iteF ?_⟩
      exact ⟨_, rfl, _, rfl, D, _, rfl, by rw [← idx_of m, ← nk x]; exact DGet.k (k := Sum.inr x) hD, q⟩
    · refine ⟨_, rfl, _, _, _, _, true, rfl, .ty "str", .base (.str _), kit_ty (by decide +kernel), _, rfl, iteF ?_⟩
      refine ⟨_, rfl, _, rfl, D, _, rfl, DGet.k (k := Sum.inr x) hD, ?_⟩
      rw [nk x, idx_no m]
      exact ⟨_, rfl, iteT ⟨_, rfl, _, rfl, fun d nd => bad _ d (same_upd nd) nd upd_same⟩⟩
    · obtain ⟨t, h1, h3⟩ := miss_ty (K := K) sq no
      exact ⟨_, rfl, _, _, _, _, false, rfl, .ty "str", h1, h3, _, rfl, iteT (iteT ⟨_, rfl, _, rfl, fun d nd => bad _ d (same_upd nd) nd upd_same⟩)⟩
/-- the number of a thing: what the field f of the house tells of these names -/
def spNumX (C CN : Addr) (f : Str) (ns : Hs → List Str) : Sp := fun vs H Q E => ∃ (o dx D : Addr) (v : V) (h : Hs) (fs : List (Str × V)) (kvs : List (Key × V)), vs = [.ref o, v] ∧ H o = some (.ins C dx fs) ∧ List.lookup f fs = some (.ref D) ∧ H D = some (.dK kvs) ∧ NumsK (ns h) kvs ∧
  ((∃ x, v = .str x ∧ x ∈ ns h ∧ Q (.int ((ns h).idxOf x : Nat)) H) ∨ (Miss H (ns h) v ∧ BadN CN H E v))
theorem scND : FnScope ["self", "name"] ["self", "name"] (defScope sNumDoor) := ⟨rfl, rfl, rfl, by decide +kernel, rfl, by decide +kernel, by decide +kernel⟩
theorem ok_numdoor {f C CN : Addr} {fd : FuncData} (F : Fun K "number_of_door" "House.number_of_door" sNumDoor f fd) (cl : Cls K C) (na : NoAttr K C "_door_numbers") (No : CalleeX P w K mg base "number_of_house" 3 ["numbers", "name"] (spNumOfX CN)) :
    FnOk P w K mg base (L2.CX P w) 4 f fd ["self", "name"] (spNumX C CN "_door_numbers" fun h => h.doors.map (·.n)) := by
  refine F.okX scND (fun vs H Q E h => ?_) (fun cdv A outer s H vs Q E hr h => ?_)
  · obtain ⟨o, dx, D, v, h, fs, kvs, rfl, _⟩ := h
    rfl
  · obtain ⟨o, dx, D, v, h, fs, kvs, rfl, ho, lD, hD, nk, ev⟩ := h
    exact ⟨_, pss_one (ps_ret (pe_calleeX No hr rfl (passes_call (takes_of rfl rfl rfl rfl) (fun _ _ _ _ h => h)) (pa_cons (pe_fld (pv 0) rfl) (pa_cons (pv 1) pa_nil)))), _, rfl, o, C, dx, fs, _, rfl, ho, cl, na, lD, _, rfl, D, v, _, kvs, rfl, hD, nk, ev⟩
theorem scNC : FnScope ["self", "name"] ["self", "name"] (defScope sNumCell) := ⟨rfl, rfl, rfl, by decide +kernel, rfl, by decide +kernel, by decide +kernel⟩
theorem ok_numcell {f C CN : Addr} {fd : FuncData} (F : Fun K "number_of_cell" "House.number_of_cell" sNumCell f fd) (cl : Cls K C) (na : NoAttr K C "_cell_numbers") (No : CalleeX P w K mg base "number_of_house" 3 ["numbers", "name"] (spNumOfX CN)) :
    FnOk P w K mg base (L2.CX P w) 4 f fd ["self", "name"] (spNumX C CN "_cell_numbers" fun h => h.cells.map (·.n)) := by
  refine F.okX scNC (fun vs H Q E h => ?_) (fun cdv A outer s H vs Q E hr h => ?_)
  · obtain ⟨o, dx, D, v, h, fs, kvs, rfl, _⟩ := h
    rfl
  · obtain ⟨o, dx, D, v, h, fs, kvs, rfl, ho, lD, hD, nk, ev⟩ := h
    exact ⟨_, pss_one (ps_ret (pe_calleeX No hr rfl (passes_call (takes_of rfl rfl rfl rfl) (fun _ _ _ _ h => h)) (pa_cons (pe_fld (pv 0) rfl) (pa_cons (pv 1) pa_nil)))), _, rfl, o, C, dx, fs, _, rfl, ho, cl, na, lD, _, rfl, D, v, _, kvs, rfl, hD, nk, ev⟩
/-- the number of a part, or of outside -/
def spNumPartX (C CN : Addr) : Sp := fun vs H Q E => ∃ (o dx D : Addr) (v : V) (ps : List Str) (fs : List (Str × V)) (kvs : List (Key × V)), vs = [.ref o, v] ∧ H o = some (.ins C dx fs) ∧ List.lookup ("_part_numbers" : Str) fs = some (.ref D) ∧ H D = some (.dK kvs) ∧ NumsK ps kvs ∧
  ((∃ x, v = .str x ∧ EndIn ps x ∧ Q (.int (endN ps x)) H) ∨ (Miss H ps v ∧ v ≠ .str "out" ∧ BadN CN H E v))
theorem ok_numpartX {f C CN : Addr} {fd : FuncData} (F : Fun K "number_of_part" "House.number_of_part" sNumPart f fd) (B : Bl mg) (cl : Cls K C) (na : NoAttr K C "_part_numbers") (No : CalleeX P w K mg base "number_of_house" 3 ["numbers", "name"] (spNumOfX CN)) :
    FnOk P w K mg base (L2.CX P w) 4 f fd ["self", "name"] (spNumPartX C CN) := by
  refine F.okX scNP (fun vs H Q E h => ?_) (fun cdv A outer s H vs Q E hr h => ?_)
  · obtain ⟨o, dx, D, v, ps, fs, kvs, rfl, _⟩ := h
    rfl
  · obtain ⟨o, dx, D, v, ps, fs, kvs, rfl, ho, lD, hD, nk, ev⟩ := h
    refine ⟨_, pss_cons (ps_if (PW.pt (pw_and (pt_val (pe_callB call_isi (by rfl) B.isi (by decide +kernel) (pa_cons (pv 1) (pa_cons (pe_bltn (v := .ty "str") rfl B.str (by decide +kernel) rfl) pa_nil)))) (pw_and1 (pt_cmpR op_eq (pv 1) pe_str (nomark _))))) (pss_one (ps_ret (pe_un un_neg pe_int))) pss_nil)
      (pss_one (ps_ret (pe_calleeX No hr rfl (passes_call (takes_of rfl rfl rfl rfl) (fun _ _ _ _ h => h)) (pa_cons (pe_fld (pv 0) rfl) (pa_cons (pv 1) pa_nil))))), ?_⟩
    rcases ev with ⟨x, rfl, hx, q⟩ | ⟨(⟨x, rfl, m⟩ | ⟨u, sq, no⟩), nout, bad⟩
    · refine ⟨_, rfl, _, _, _, _, true, rfl, .ty "str", .base (.str _), kit_ty (by decide +kernel), _, rfl, iteT ⟨_, rfl, rfl, _, rfl, ?_⟩⟩
      refine ite2 (fun hc => ⟨_, rfl, ?_⟩) (fun hc => ?_)
      · obtain rfl : x = "out" := by simpa using hc
        exact q
      · have no : x ≠ "out" := fun z => hc (by simp [z])
        have m : x ∈ ps := hx.resolve_left no
        refine ⟨_, rfl, o, C, dx, fs, _, rfl, ho, cl, na, lD, _, rfl, D, _, ps, kvs, rfl, hD, nk, .inl ⟨x, rfl, m, ?_⟩⟩
        unfold endN at q
        rw [if_neg no] at q
        exact q
    · refine ⟨_, rfl, _, _, _, _, true, rfl, .ty "str", .base (.str _), kit_ty (by decide +kernel), _, rfl, iteT ⟨_, rfl, rfl, _, rfl, ?_⟩⟩
      refine ite2 (fun hc => ?_) (fun hc => ?_)
      · obtain rfl : x = "out" := by simpa using hc
        exact absurd rfl nout
      · exact ⟨_, rfl, o, C, dx, fs, _, rfl, ho, cl, na, lD, _, rfl, D, _, ps, kvs, rfl, hD, nk, .inr ⟨.inl ⟨x, rfl, m⟩, bad⟩⟩
    · obtain ⟨t, h1, h3⟩ := miss_ty (K := K) sq no
      exact ⟨_, rfl, _, _, _, _, false, rfl, .ty "str", h1, h3, _, rfl, iteF ⟨_, rfl, o, C, dx, fs, _, rfl, ho, cl, na, lD, _, rfl, D, _, ps, kvs, rfl, hD, nk, .inr ⟨.inr ⟨u, sq, no⟩, bad⟩⟩⟩
end
end K18

/-! a comprehension over enumerate of a list or a tuple; the places at which something holds -/
namespace Sqx
open PySem PySem.Spec PyProof.Rows L2
open EnuT
theorem en_lc {K : W.Frag} {a : Addr} {xs : List V} {g : TG} {tt : TT} {te : TE} {vs : List Nat} {σ : L2.St} {H : Hp} {Q : VK} {ta : TA} (Pv : Addr → Nat → Hp → Prop) (hta : ∀ R : List V → Hp → Prop, R [.ref a] H → ta σ H R) (sq : SeqAt H a xs)
    (h0 : ∀ D, H D = none → Pv D 0 (upd H D (.lst []))) (hG : ∀ D i H', H D = none → i ≤ xs.length → Pv D i H' → ∀ o, H a = some o → H' a = some o)
    (hs : ∀ D i x H' T, H D = none → xs[i]? = some x → Pv D i H' → H' T = none → g (.ref T) (wipe σ vs) (upd H' T (.tup [.int (i : Nat), x])) fun σ2 H2 => wipe σ2 vs = wipe σ vs ∧ tt σ2 H2 fun b H3 =>
      if b = true then te σ2 H3 fun y H4 => ∃ acc, H4 D = some (.lst acc) ∧ acc.length < sizeLine ∧ Pv D (i + 1) (upd H4 D (.lst (acc ++ [y]))) else Pv D (i + 1) H3)
    (hd : ∀ D H', H D = none → Pv D xs.length H' → Q (.ref D) H') :
    tLc (iEnS K ta) g tt te vs σ H Q := by
  have step : ∀ (D : Addr), H D = none → ∀ (i : Nat) (x : V) (H' H'' : Hp), i < xs.length → Pv D i H' → YPair (fun i => some (.int (i : Nat))) (fun i => xs[i]?) i H' x H'' → g x (wipe σ vs) H'' fun σ2 H2 => wipe σ2 vs = wipe σ vs ∧ tt σ2 H2 fun b H3 =>
      if b = true then te σ2 H3 fun y H4 => ∃ acc, H4 D = some (.lst acc) ∧ acc.length < sizeLine ∧ Pv D (i + 1) (upd H4 D (.lst (acc ++ [y]))) else Pv D (i + 1) H3 := by
    rintro D nD i x H' H'' hi p ⟨t, y, z, rfl, nt, rfl, hy, hz⟩
    cases hy
    exact hs D i z H' t nD hz p nt
  rcases sq with e | e
  · exact hta _ ⟨a, rfl, .inl ⟨xs, SqL.of e, fun D nD => lc_it (walk_enum (xs := xs)) (Pv D) (h0 D nD) (fun i H' hi p => SqL.of (hG D i H' nD hi p _ e)) (step D nD) (fun H' p => hd D H' nD p)⟩⟩
  · exact hta _ ⟨a, rfl, .inr ⟨xs, SqT.of e, fun D nD => lc_it (walk_enumT (xs := xs)) (Pv D) (h0 D nD) (fun i H' hi p => SqT.of (hG D i H' nD hi p _ e)) (step D nD) (fun H' p => hd D H' nD p)⟩⟩
/-- the places, from k on, at which f holds -/
def ixsV {α : Type} (f : α → Bool) (k : Nat) : List α → List V
  | [] => []
  | x :: xs => (if f x = true then [V.int (k : Nat)] else []) ++ ixsV f (k + 1) xs
theorem ixsV_snoc {α : Type} (f : α → Bool) (x : α) : ∀ (k : Nat) (xs : List α), ixsV f k (xs ++ [x]) = ixsV f k xs ++ if f x = true then [V.int ((k + xs.length : Nat) : Int)] else []
  | k, [] => by simp [ixsV]
  | k, y :: ys => by
    show _ ++ ixsV f (k + 1) (ys ++ [x]) = (_ ++ ixsV f (k + 1) ys) ++ _
    rw [ixsV_snoc f x (k + 1) ys, List.append_assoc, List.length_cons, show k + 1 + ys.length = k + (ys.length + 1) from by omega]
theorem ixsV_take {α : Type} {f : α → Bool} {xs : List α} {i : Nat} {x : α} (h : xs[i]? = some x) : ixsV f 0 (xs.take (i + 1)) = ixsV f 0 (xs.take i) ++ if f x = true then [V.int ((i : Nat) : Int)] else [] := by
  obtain ⟨hi, rfl⟩ := List.getElem?_eq_some_iff.mp h
  rw [List.take_succ_eq_append_getElem hi, ixsV_snoc, List.length_take, Nat.min_eq_left (Nat.le_of_lt hi), Nat.zero_add]
theorem ixsV_len {α : Type} (f : α → Bool) : ∀ (k : Nat) (xs : List α), (ixsV f k xs).length ≤ xs.length
  | _, [] => Nat.le_refl _
  | k, x :: xs => by
    have := ixsV_len f (k + 1) xs
    show ((if f x = true then [V.int (k : Nat)] else []) ++ ixsV f (k + 1) xs).length ≤ xs.length + 1
    rw [List.length_append]
    split
    · rw [List.length_singleton]
      omega
    · rw [List.length_nil]
      omega
theorem ixsV_map {α β : Type} (f : β → Bool) (g : α → β) : ∀ (k : Nat) (xs : List α), ixsV f k (xs.map g) = ixsV (fun x => f (g x)) k xs
  | _, [] => rfl
  | k, x :: xs => by
    show _ ++ ixsV f (k + 1) (xs.map g) = _ ++ _
    rw [ixsV_map f g (k + 1) xs]
end Sqx

/-! what is written down: each thing in a list of them has a property that stays -/
namespace Gvx
open PySem PySem.Spec PyProof.Rows L2
def Stay (I : Hp → Prop) : Prop := ∀ H H', Same H H' → I H → I H'
def StayV (W : Hp → V → Prop) : Prop := ∀ H H' x, Same H H' → W H x → W H' x
def Gv (I : Hp → Prop) (W : Hp → V → Prop) (t : TE) (σ : L2.St) : Prop := ∀ (H : Hp) (Q : VK), I H → (∀ x H', Same H H' → W H' x → Q x H') → t σ H Q
def Gvs (I : Hp → Prop) (W : Hp → V → Prop) (ta : TA) (σ : L2.St) (n : Nat) : Prop := ∀ (H : Hp) (Q : List V → Hp → Prop), I H → (∀ xs H', Same H H' → xs.length = n → (∀ x, x ∈ xs → W H' x) → Q xs H') → ta σ H Q
def Gx (ta : TA) (σ : L2.St) (vals : List V) : Prop := ∀ (H : Hp) (Q : List V → Hp → Prop), Q vals H → ta σ H Q
section
variable {I : Hp → Prop} {W : Hp → V → Prop} {t : TE} {ta : TA} {σ : L2.St} {n : Nat} {vals xs : List V} {H : Hp} {Q : VK}
theorem gx_nil : Gx tNil σ [] := fun _ _ q => q
theorem gx_c {v : V} (g : Gx ta σ vals) : Gx (tCons (tC v) ta) σ (v :: vals) := fun H Q q => g H (fun xs H2 => Q (v :: xs) H2) q
theorem gx_v {i : Nat} {v : V} (g : Gx ta σ vals) (e : σ[i]? = some (some v)) : Gx (tCons (tVar i) ta) σ (v :: vals) := fun H Q q => ⟨v, e, g H (fun xs H2 => Q (v :: xs) H2) q⟩
theorem gv_c {v : V} (h : ∀ H, I H → W H v) : Gv I W (tC v) σ := fun H Q i k => k v H (Same.refl _) (h H i)
theorem gv_tup (g : Gx ta σ vals) (few : vals.length ≤ sizeLine) (h : ∀ H a, I H → H a = none → W (upd H a (.tup vals)) (.ref a)) : Gv I W (tTup ta) σ := fun H Q i k =>
  g H _ ⟨few, fun p np => k _ _ (fun b u e => by rw [upd_ne (ne_of_none e np)]; exact e) (h H p i np)⟩
theorem gv_lst (g : Gx ta σ vals) (few : vals.length ≤ sizeLine) (h : ∀ H a, I H → H a = none → W (upd H a (.lst vals)) (.ref a)) : Gv I W (tLst ta) σ := fun H Q i k =>
  g H _ ⟨few, fun p np => k _ _ (fun b u e => by rw [upd_ne (ne_of_none e np)]; exact e) (h H p i np)⟩
theorem gvs_nil : Gvs I W tNil σ 0 := fun H Q _ k => k [] H (Same.refl _) rfl (fun _ h => nomatch h)
theorem gvs_cons (sI : Stay I) (sW : StayV W) (g : Gv I W t σ) (gs : Gvs I W ta σ n) : Gvs I W (tCons t ta) σ (n + 1) := fun H Q i k =>
  g H _ i fun x H1 s1 w1 => gs H1 _ (sI _ _ s1 i) fun xs H2 s2 l2 all => k (x :: xs) H2 (s1.trans s2) (by rw [List.length_cons, l2]) fun y hy => by
    rcases List.mem_cons.mp hy with z | z
    · rw [z]
      exact sW _ _ _ s2 w1
    · exact all y z
/-- a list of them -/
theorem lst_gv (sW : StayV W) (g : Gvs I W ta σ n) (i : I H) (few : n ≤ sizeLine) (k : ∀ xs H' l, Same H H' → H l = none → H' l = some (.lst xs) → xs.length = n → (∀ x, x ∈ xs → W H' x) → Q (.ref l) H') : tLst ta σ H Q :=
  g H _ i fun xs H1 s1 l1 all => ⟨by omega, fun p np => by
    have s2 : Same H1 (upd H1 p (.lst xs)) := fun b u e => by rw [upd_ne (ne_of_none e np)]; exact e
    exact k xs _ p (s1.trans s2) (s1.free np) upd_same l1 fun x hx => sW _ _ _ s2 (all x hx)⟩
/-- a list and one of them -/
theorem cat_gv {j : Nat} {l : Addr} (sW : StayV W) (hv : σ[j]? = some (some (.ref l))) (hl : H l = some (.lst xs)) (aw : ∀ x, x ∈ xs → W H x) (g : Gvs I W ta σ n) (i : I H) (few : xs.length + n ≤ sizeLine)
    (k : ∀ ys H' p, Same H H' → H p = none → H' p = some (.lst ys) → ys.length = xs.length + n → (∀ x, x ∈ ys → W H' x) → Q (.ref p) H') : tOp rCat (tVar j) (tLst ta) σ H Q :=
  ⟨_, hv, lst_gv sW g i (by omega) fun zs H1 m s1 nm hm lm all => ⟨l, m, xs, zs, rfl, rfl, s1 _ _ hl, hm, by omega, fun p np => by
    have s2 : Same H1 (upd H1 p (.lst (xs ++ zs))) := fun b u e => by rw [upd_ne (ne_of_none e np)]; exact e
    refine k _ _ p (s1.trans s2) (s1.free np) upd_same (by rw [List.length_append, lm]) fun x hx => ?_
    rcases List.mem_append.mp hx with z | z
    · exact sW _ _ _ (s1.trans s2) (aw x z)
    · exact sW _ _ _ s2 (all x z)⟩⟩
theorem seq_set {te : TE} {i : Nat} {T : TS} {D : Ends} (h : te σ H fun x H1 => T D (σ.set i (some x)) H1) : tSeq (tAsg te (gName i)) T D σ H := h
theorem ret_of {te : TE} {D : Ends} (h : te σ H D.rt) : tRet te D σ H := h
end
end Gvx

namespace K18
open DL (Callee pe_callee)
open PySem PySem.Spec PyProof.Rows L2
open Cal EnuT Sqx Exn Keys Gvx

/-! ### what is where -/
def farV (e1 e2 s : Int) : V := if s = e1 then .int e2 else if s = e2 then .int e1 else .non
def spFarEnd (C : Addr) : Sp := fun vs H Q _ => ∃ (o dx te t : Addr) (i : Nat) (s e1 e2 : Int) (fs : List (Str × V)) (ve : List V), vs = [.ref o, .int (i : Nat), .int s] ∧ H o = some (.ins C dx fs) ∧ List.lookup ("ends" : Str) fs = some (.ref te) ∧ H te = some (.tup ve) ∧ ve[i]? = some (.ref t) ∧ H t = some (.tup [.int e1, .int e2]) ∧ Q (farV e1 e2 s) H
def PrAt (H : Hp) (v : V) (p : Int × Int) : Prop := ∃ t, v = .ref t ∧ H t = some (.tup [.int p.1, .int p.2])
theorem PrAt.same {H H' : Hp} (s : Same H H') {v : V} {p : Int × Int} (x : PrAt H v p) : PrAt H' v p := by
  obtain ⟨t, e, h⟩ := x
  exact ⟨t, e, s _ _ h⟩
def inPr (s : Int) (p : Int × Int) : Bool := inV (.int s) [.int p.1, .int p.2]
def spDoorsAt (C : Addr) : Sp := fun vs H Q _ => ∃ (o dx te : Addr) (s : Int) (fs : List (Str × V)) (ve : List V) (ps : List (Int × Int)), vs = [.ref o, .int s] ∧ H o = some (.ins C dx fs) ∧ List.lookup ("ends" : Str) fs = some (.ref te) ∧ H te = some (.tup ve) ∧ Paired (PrAt H) ve ps ∧ ps.length ≤ 20 ∧
  ∀ H' t, Same H H' → H' t = some (.tup (ixsV (inPr s) 0 ps)) → Q (.ref t) H'
def eqI (s : Int) (n : Int) : Bool := decide (V.int n = V.int s)
def spCellsIn (C : Addr) : Sp := fun vs H Q _ => ∃ (o dx tq : Addr) (s : Int) (fs : List (Str × V)) (ns : List Int), vs = [.ref o, .int s] ∧ H o = some (.ins C dx fs) ∧ List.lookup ("cell_parts" : Str) fs = some (.ref tq) ∧ H tq = some (.tup (ns.map V.int)) ∧ ns.length ≤ 20 ∧
  ∀ H' t, Same H H' → H t = none → H' t = some (.tup (ixsV (eqI s) 0 ns)) → Q (.ref t) H'
theorem none_back {H H' : Hp} {l : Addr} (s : Same H H') (n : H' l = none) : H l = none := by
  cases e : H l with
  | none => rfl
  | some o => rw [s _ _ e] at n; cases n
section
variable {P : Program} {w : World} {K : W.Frag} {mg : Str → Option Value} {base : Heap}
abbrev NCi : List Str := ["self", "spot", "cell", "part"]
theorem scCi : FnScope NCi ["self", "spot"] (defScope sCellsIn) := ⟨rfl, rfl, rfl, by decide +kernel, rfl, by decide +kernel, by decide +kernel⟩
theorem ok_cellsin {f C : Addr} {fd : FuncData} (F : Fun K "cells_in" "House.cells_in" sCellsIn f fd) (B : Bl mg) (cl : Cls K C) (na : NoAttr K C "cell_parts") : FnOk P w K mg base CX0 1 f fd ["self", "spot"] (spCellsIn C) := by
  refine F.ok scCi (fun vs H Q E h => ?_) (fun cdv A outer s H vs Q E hr h => ?_)
  · obtain ⟨o, dx, te, s, fs, ve, rfl, _⟩ := h
    rfl
  · obtain ⟨o, dx, tq, sp, fs, ns, rfl, ho, lE, hte, l20, k⟩ := h
    refine ⟨_, pss_one (ps_ret (pe_callTy call_tuple_of (by rfl) B.tuple (by decide +kernel) (pa_cons (pe_lc (own := [("cell", 2), ("part", 3)]) (g := gTup K 2 (gCons (gName 2) (gCons (gName 3) gNil))) (by rfl) scCi.nd (pi_enumS (by rfl) B.enu (pa_cons (pe_fld (pv 0) rfl) pa_nil))
      (blkOk_by (own := [("cell", 2), ("part", 3)]) (N := NCi) (sc := defScope sCellsIn) (by decide +kernel))
      (fun _ _ _ _ _ => pg_tup rfl (pgs_cons (pg_name (i := 2) scCi.nd rfl (Or.inl rfl)) (pgs_cons (pg_name (i := 3) scCi.nd rfl (Or.inl rfl)) pgs_nil)))
      (fun _ _ _ _ _ => pts_one (pt_cmpR op_eq (pv 3) (pv 1) (nomark _))) (fun _ _ _ _ _ => pv 2)) pa_nil))), ?_⟩
    refine ret_of (cb_one (en_lc (a := tq) (xs := ns.map V.int) (fun D n H' => Same H H' ∧ H' D = some (.lst (ixsV (eqI sp) 0 (ns.take n)))) (fun R r => ⟨_, rfl, o, C, dx, fs, _, rfl, ho, cl, na, lE, r⟩) (.inr hte) (fun D nD => ⟨same_upd nD, upd_same⟩) (fun D i H' nD _ z => z.1 _) ?_ ?_))
    · rintro D i x H' T nD hx ⟨s1, at_D⟩ nT
      rw [List.getElem?_map] at hx
      obtain ⟨n, hn, rfl⟩ := Option.map_eq_some_iff.mp hx
      have s2 := same_upd (o := .tup [.int (i : Nat), .int n]) nT
      have lt : i < ns.length := (List.getElem?_eq_some_iff.mp hn).1
      have la := ixsV_len (eqI sp) 0 (ns.take i)
      rw [List.length_take] at la
      have line : (100 : Nat) ≤ sizeLine := by decide
      refine ⟨T, _, rfl, SqT.of upd_same, rfl, _, _, rfl, _, _, rfl, ⟨rfl, rfl, _, rfl, _, rfl, rfl, _, rfl, ?_⟩⟩
      have e1 := ixsV_take (f := eqI sp) hn
      refine ite2 (fun hb => ?_) (fun hb => ?_)
      · refine ⟨_, rfl, _, s2 _ _ at_D, by omega, fun b u e => ?_, ?_⟩
        · rw [upd_ne (ne_of_none e nD)]
          exact s2 _ _ (s1 _ _ e)
        · rw [e1, if_pos (show eqI sp n = true from hb)]
          exact upd_same
      · refine ⟨s1.trans s2, ?_⟩
        rw [e1, if_neg (show ¬ eqI sp n = true from hb), List.append_nil]
        exact s2 _ _ at_D
    · rintro D H' nD ⟨s1, at_D⟩
      rw [List.length_map, List.take_length] at at_D
      exact ⟨D, _, rfl, .inl ⟨SqL.of at_D, fun l nl => k _ l (s1.trans (same_upd nl)) (none_back s1 nl) upd_same⟩⟩
end
end K18

namespace K18
open PySem PySem.Spec PyProof.Rows L2
open DL
open Sqx (ixsV)
/-! ### a house over data -/
def dgH (K : W.Frag) (C : Addr) (h : Hs) : DG := ⟨K, fun c ds a H => c = "House" ∧ ds = [] ∧ HouseX H C a h⟩
abbrev hob : D := .obj "House" []
def Hs.cp (h : Hs) : List Int := h.cells.map fun c => endN h.parts c.p
def Hs.kp (h : Hs) : List Bool := h.cells.map (·.k)
def Hs.dn (h : Hs) : List Str := h.doors.map (·.n)
def Hs.cn (h : Hs) : List Str := h.cells.map (·.n)
section
variable {G : DG} {O : Addr → Prop} {H : Hp}
theorem dvs_map {α : Type} {f : α → D} {g : α → V} (h : ∀ x, DV G O H (f x) (g x)) : ∀ l : List α, DVs G O H (l.map f) (l.map g)
  | [] => rfl
  | x :: l => ⟨_, _, rfl, h x, dvs_map h l⟩
end
section
variable {K : W.Frag} {C : Addr} {h : Hs}
theorem fld_cp (T : HC2 K C) : FldOk (dgH K C h) "House" C "cell_parts" (fun _ => some (numD h.cp)) where
  cl := T.cl
  no := T.n8
  at_ := fun ds al H d ⟨_, _, dx, tp, td, tc, D1, D2, D3, te, tq, tk, vd, vc, ve, k1, k2, k3, n⟩ e => by
    cases e
    refine ⟨dx, _, .ref tq, n.ins, rfl, tq, h.cp.map V.int, rfl, fun H' s => SqT.of (s _ _ id ?_), dvs_map (f := D.int) (g := V.int) (fun _ => rfl) _⟩
    rw [n.qa]
    unfold Hs.cp
    rw [List.map_map]
    rfl
theorem fld_kp (T : HC2 K C) : FldOk (dgH K C h) "House" C "kept" (fun _ => some (bolD h.kp)) where
  cl := T.cl
  no := T.n9
  at_ := fun ds al H d ⟨_, _, dx, tp, td, tc, D1, D2, D3, te, tq, tk, vd, vc, ve, k1, k2, k3, n⟩ e => by
    cases e
    refine ⟨dx, _, .ref tk, n.ins, rfl, tk, h.kp.map V.bl, rfl, fun H' s => SqT.of (s _ _ id ?_), dvs_map (f := D.bl) (g := V.bl) (fun _ => rfl) _⟩
    rw [n.ka]
    unfold Hs.kp
    rw [List.map_map]
    rfl
def RNum (ns : List Str) : List D → List D → (D → Prop) → Prop := fun _ xs q => ∃ x, xs = [.str x] ∧ x ∈ ns ∧ q (.int (ns.idxOf x : Nat))
def RNumP (ps : List Str) : List D → List D → (D → Prop) → Prop := fun _ xs q => ∃ x, xs = [.str x] ∧ EndIn ps x ∧ q (.int (endN ps x))
def ixk (s : Int) (k : Nat) : List Int → List Nat
  | [] => []
  | n :: ns => (if n = s then [k] else []) ++ ixk s (k + 1) ns
def natV (k : Nat) : V := .int (k : Nat)
def natD (k : Nat) : D := .int (k : Nat)
theorem ixk_V (s : Int) : ∀ (k : Nat) (ns : List Int), ixsV (eqI s) k ns = (ixk s k ns).map natV
  | _, [] => rfl
  | k, n :: ns => by
    show (if eqI s n = true then [V.int (k : Nat)] else []) ++ ixsV (eqI s) (k + 1) ns = _
    rw [ixk_V s (k + 1) ns]
    show _ = ((if n = s then [k] else []) ++ ixk s (k + 1) ns).map natV
    rw [List.map_append]
    by_cases e : n = s
    · subst e
      rw [if_pos rfl, if_pos (by unfold eqI; simp)]
      rfl
    · rw [if_neg e, if_neg (by unfold eqI; simpa using e)]
      rfl
theorem ixk_lt (s : Int) : ∀ (k : Nat) (ns : List Int) (c : Nat), c ∈ ixk s k ns → k ≤ c ∧ c < k + ns.length
  | _, [], _, h => nomatch h
  | k, n :: ns, c, h => by
    rw [List.length_cons]
    rcases List.mem_append.mp (show c ∈ (if n = s then [k] else []) ++ ixk s (k + 1) ns from h) with z | z
    · by_cases e : n = s
      · rw [if_pos e] at z
        obtain rfl := List.mem_singleton.mp z
        omega
      · rw [if_neg e] at z
        cases z
    · have := ixk_lt s (k + 1) ns c z
      omega
theorem ixk_len (s : Int) : ∀ (k : Nat) (ns : List Int), (ixk s k ns).length ≤ ns.length
  | _, [] => Nat.le_refl _
  | k, n :: ns => by
    have := ixk_len s (k + 1) ns
    show ((if n = s then [k] else []) ++ ixk s (k + 1) ns).length ≤ _
    rw [List.length_append, List.length_cons]
    split
    · rw [List.length_singleton]
      omega
    · rw [List.length_nil]
      omega
def RCellsIn (ns : List Int) : List D → List D → (D → Prop) → Prop := fun _ xs q => ∃ s, xs = [.int s] ∧ q (.tup ((ixk s 0 ns).map natD))
@[simp] theorem RNum_eq {ns : List Str} {ds : List D} {x : Str} {q : D → Prop} : RNum ns ds [.str x] q = (x ∈ ns ∧ q (.int (ns.idxOf x : Nat))) := by
  refine propext ⟨fun ⟨x', e, h⟩ => ?_, fun h => ⟨x, rfl, h⟩⟩
  cases e
  exact h
@[simp] theorem RNumP_eq {ns : List Str} {ds : List D} {x : Str} {q : D → Prop} : RNumP ns ds [.str x] q = (EndIn ns x ∧ q (.int (endN ns x))) := by
  refine propext ⟨fun ⟨x', e, h⟩ => ?_, fun h => ⟨x, rfl, h⟩⟩
  cases e
  exact h
@[simp] theorem RCellsIn_eq {ns : List Int} {ds : List D} {s : Int} {q : D → Prop} : RCellsIn ns ds [.int s] q = q (.tup ((ixk s 0 ns).map natD)) := by
  refine propext ⟨fun ⟨x', e, h⟩ => ?_, fun h => ⟨s, rfl, h⟩⟩
  cases e
  exact h
theorem mo_door {CN : Addr} : MethOk (dgH K C h) "House" C "number_of_door" (spNumX C CN "_door_numbers" fun h => h.doors.map (·.n)) (RNum h.dn) where
  ins := fun ds al H ⟨_, _, dx, tp, td, tc, D1, D2, D3, te, tq, tk, vd, vc, ve, k1, k2, k3, n⟩ => ⟨dx, _, n.ins, rfl⟩
  sp := fun O H al ds xs vs q Q E nO st dv r k => by
    obtain ⟨_, _, dx, tp, td, tc, D1, D2, D3, te, tq, tk, vd, vc, ve, k1, k2, k3, n⟩ := st.now
    obtain ⟨x, rfl, hx, hq⟩ := r
    obtain ⟨v, rfl, hv⟩ := one_at dv
    cases (show _ = _ from hv)
    exact ⟨al, dx, D2, _, h, _, k2, rfl, n.ins, rfl, n.n2, n.m2, .inl ⟨x, rfl, hx, k _ _ H hq (fun _ _ z => z) rfl⟩⟩
theorem mo_cell {CN : Addr} : MethOk (dgH K C h) "House" C "number_of_cell" (spNumX C CN "_cell_numbers" fun h => h.cells.map (·.n)) (RNum h.cn) where
  ins := fun ds al H ⟨_, _, dx, tp, td, tc, D1, D2, D3, te, tq, tk, vd, vc, ve, k1, k2, k3, n⟩ => ⟨dx, _, n.ins, rfl⟩
  sp := fun O H al ds xs vs q Q E nO st dv r k => by
    obtain ⟨_, _, dx, tp, td, tc, D1, D2, D3, te, tq, tk, vd, vc, ve, k1, k2, k3, n⟩ := st.now
    obtain ⟨x, rfl, hx, hq⟩ := r
    obtain ⟨v, rfl, hv⟩ := one_at dv
    cases (show _ = _ from hv)
    exact ⟨al, dx, D3, _, h, _, k3, rfl, n.ins, rfl, n.n3, n.m3, .inl ⟨x, rfl, hx, k _ _ H hq (fun _ _ z => z) rfl⟩⟩
theorem mo_part {CN : Addr} : MethOk (dgH K C h) "House" C "number_of_part" (spNumPartX C CN) (RNumP h.parts) where
  ins := fun ds al H ⟨_, _, dx, tp, td, tc, D1, D2, D3, te, tq, tk, vd, vc, ve, k1, k2, k3, n⟩ => ⟨dx, _, n.ins, rfl⟩
  sp := fun O H al ds xs vs q Q E nO st dv r k => by
    obtain ⟨_, _, dx, tp, td, tc, D1, D2, D3, te, tq, tk, vd, vc, ve, k1, k2, k3, n⟩ := st.now
    obtain ⟨x, rfl, hx, hq⟩ := r
    obtain ⟨v, rfl, hv⟩ := one_at dv
    cases (show _ = _ from hv)
    exact ⟨al, dx, D1, _, h.parts, _, k1, rfl, n.ins, rfl, n.n1, n.m1, .inl ⟨x, rfl, hx, k _ _ H hq (fun _ _ z => z) rfl⟩⟩
theorem mo_cells (few : h.cells.length ≤ 20) : MethOk (dgH K C h) "House" C "cells_in" (spCellsIn C) (RCellsIn h.cp) where
  ins := fun ds al H ⟨_, _, dx, tp, td, tc, D1, D2, D3, te, tq, tk, vd, vc, ve, k1, k2, k3, n⟩ => ⟨dx, _, n.ins, rfl⟩
  sp := fun O H al ds xs vs q Q E nO st dv r k => by
    obtain ⟨_, _, dx, tp, td, tc, D1, D2, D3, te, tq, tk, vd, vc, ve, k1, k2, k3, n⟩ := st.now
    obtain ⟨x, rfl, hq⟩ := r
    obtain ⟨v, rfl, hv⟩ := one_at dv
    cases (show _ = _ from hv)
    have qa : H tq = some (.tup (h.cp.map V.int)) := by
      rw [n.qa]
      unfold Hs.cp
      rw [List.map_map]
      rfl
    refine ⟨al, dx, tq, x, _, h.cp, rfl, n.ins, rfl, qa, by unfold Hs.cp; rw [List.length_map]; exact few, fun H' t s1 nt e => ?_⟩
    refine k _ _ H' hq s1 ⟨t, (ixk x 0 h.cp).map natV, rfl, fun H2 s => SqT.of (s _ _ (nO t nt) (by rw [e, ixk_V])), dvs_map (f := natD) (g := natV) (fun _ => rfl) _⟩
end
end K18

namespace K18
open PySem PySem.Spec PyProof.Rows L2
open DL
/-! ### what the program does at a deed -/
def isDoorW (x : Str) : Prop := x = "shut" ∨ x = "open"
def isPartW (x : Str) : Prop := x = "drain" ∨ x = "off" ∨ x = "on"
instance (x : Str) : Decidable (isDoorW x) := by unfold isDoorW; infer_instance
instance (x : Str) : Decidable (isPartW x) := by unfold isPartW; infer_instance
def Knows (h : Hs) (x n : Str) : Prop := if isDoorW x then n ∈ h.dn else if isPartW x then EndIn h.parts n else n ∈ h.cn
def numOf (h : Hs) (x n : Str) : Int := if isDoorW x then (h.dn.idxOf n : Nat) else if isPartW x then endN h.parts n else (h.cn.idxOf n : Nat)
def atb (l : List Bool) (i : Nat) : Bool := l.getD i false
def lost (h : Hs) (s : Int) : List Nat := (ixk s 0 h.cp).filter fun c => !atb h.kp c
theorem bol_at {l : List Bool} {i : Nat} (h : i < l.length) : (l.map D.bl)[i]? = some (.bl (atb l i)) := bol_get h
section
variable {P : Program} {w : World} {K : W.Frag} {mg : Str → Option Value} {base : Heap} {C : Addr} {h : Hs} {f : Addr} {fd : FuncData}
def RNumPl (h : Hs) : List D → (D → Prop) → Prop := fun xs q => ∃ x n, xs = [hob, .tup [.str x, .str n]] ∧ Knows h x n ∧ q (.int (numOf h x n))
@[simp] theorem RNumPl_eq {x n : Str} {q : D → Prop} : RNumPl h [hob, .tup [.str x, .str n]] q = (Knows h x n ∧ q (.int (numOf h x n))) := by
  refine propext ⟨fun ⟨a', b', e, h⟩ => ?_, fun h => ⟨x, n, rfl, h⟩⟩
  cases e
  exact h
abbrev NNp : List Str := ["house", "told"]
theorem scNp : FnScope NNp ["house", "told"] (defScope sNumPl) := ⟨rfl, rfl, rfl, by decide +kernel, rfl, by decide +kernel, by decide +kernel⟩
theorem ok_numpl {aD aP : Addr} (F : Fun K "_number_of" "_number_of" sNumPl f fd) (B : Bl mg) (mDD : mg "DOOR_DEEDS" = some (.ref aD)) (kDD : ∀ H, SqT K H aD [.str "shut", .str "open"]) (mPD : mg "PART_DEEDS" = some (.ref aP)) (kPD : ∀ H, SqT K H aP [.str "drain", .str "off", .str "on"])
    (mD : MethD (L2.CX P w) P w mg base (dgH K C h) C "House" "number_of_door" 4 ["self", "name"] (RNum h.dn)) (mP : MethD (L2.CX P w) P w mg base (dgH K C h) C "House" "number_of_part" 4 ["self", "name"] (RNumP h.parts)) (mC : MethD (L2.CX P w) P w mg base (dgH K C h) C "House" "number_of_cell" 4 ["self", "name"] (RNum h.cn)) :
    FnOk P w K mg base CX0 5 f fd ["house", "told"] (spP (dgH K C h) 2 (RNumPl h)) :=
  okP (G := dgH K C h) F scNp (fun O cdv A outer s H E hr => by
    have un := hr.units
    exact (ds_cons (ds_if (d_tcmp op_in_seq abs_in (d_ix (dv 1) d_int) (d_glob (v := .ref _) (by rfl) mDD rfl (kon_strs (xs := ["shut", "open"]) kDD)) (by rfl))
 (ds_one (ds_ret (d_methD (CX := L2.CX P w) mD (hr.mono (by decide)) passX (dv 0) (da_cons (d_ix (dv 1) d_int) da_nil))))
 ds_nil)
 (ds_cons (ds_if (d_tcmp op_in_seq abs_in (d_ix (dv 1) d_int) (d_glob (v := .ref _) (by rfl) mPD rfl (kon_strs (xs := ["drain", "off", "on"]) kPD)) (by rfl))
 (ds_one (ds_ret (d_methD (CX := L2.CX P w) mP (hr.mono (by decide)) passX (dv 0) (da_cons (d_ix (dv 1) d_int) da_nil))))
 ds_nil)
 (ds_one (ds_ret (d_methD (CX := L2.CX P w) mC (hr.mono (by decide)) passX (dv 0) (da_cons (d_ix (dv 1) d_int) da_nil))))))) (fun xs q l r => by
    obtain ⟨x, n, rfl, kn, k⟩ := r
    simp
    unfold Knows at kn
    unfold numOf at k
    by_cases h1 : isDoorW x
    · rw [if_pos h1] at kn k
      exact .inr ⟨h1.imp Eq.symm Eq.symm, kn, k⟩
    · rw [if_neg h1] at kn k
      refine .inl ⟨⟨fun z => h1 (.inl z.symm), fun z => h1 (.inr z.symm)⟩, ?_⟩
      by_cases h2 : isPartW x
      · rw [if_pos h2] at kn k
        exact .inr ⟨h2.imp Eq.symm (Or.imp Eq.symm Eq.symm), kn, k⟩
      · rw [if_neg h2] at kn k
        exact .inl ⟨⟨fun z => h2 (.inl z.symm), fun z => h2 (.inr (.inl z.symm)), fun z => h2 (.inr (.inr z.symm))⟩, kn, k⟩)
def RLost (h : Hs) : List D → (D → Prop) → Prop := fun xs q => ∃ s, xs = [hob, .int s] ∧ q (.lst ((lost h s).map natD))
@[simp] theorem RLost_eq {s : Int} {q : D → Prop} : RLost h [hob, .int s] q = q (.lst ((lost h s).map natD)) := by
  refine propext ⟨fun ⟨a', e, h⟩ => ?_, fun h => ⟨s, rfl, h⟩⟩
  cases e
  exact h
abbrev NLc : List Str := ["house", "part", "cell"]
theorem scLc : FnScope NLc ["house", "part"] (defScope sLost) := ⟨rfl, rfl, rfl, by decide +kernel, rfl, by decide +kernel, by decide +kernel⟩
theorem ok_lost (F : Fun K "_lost_cells" "_lost_cells" sLost f fd) (B : Bl mg) (T : HC2 K C) (few : h.cells.length ≤ 20) (mI : MethD CX0 P w mg base (dgH K C h) C "House" "cells_in" 1 ["self", "spot"] (RCellsIn h.cp)) :
    FnOk P w K mg base CX0 2 f fd ["house", "part"] (spP (dgH K C h) 2 (RLost h)) :=
  okP (G := dgH K C h) F scLc (fun O cdv A outer s H E hr => by
    have un := hr.units
    exact (ds_one (ds_ret (d_lc (own := [("cell", 2)]) rfl scLc.nd (di_seq (d_methD (CX := CX0) mI (hr.mono (by decide)) pass0 (dv 0) (da_cons (dv 1) da_nil))) (blkOk_by (own := [("cell", 2)]) (N := NLc) (sc := defScope sLost) (by decide +kernel)) (fun _ _ _ _ _ => (pg_name (i := 2) scLc.nd rfl (Or.inl rfl))) to_name (by decide) (fun _ _ _ _ _ => pts_D (d_tnot (d_tval (d_ix (d_fld (fld_kp T) (dv 0)) (dv 2))))) (fun _ _ _ z => z) (fun _ _ _ _ _ => (dv 2)))))) (fun xs q l r => by
    obtain ⟨s, rfl, k⟩ := r
    have := line
    have lc : h.cp.length = h.cells.length := by unfold Hs.cp; rw [List.length_map]
    have lk : h.kp.length = h.cells.length := by unfold Hs.kp; rw [List.length_map]
    have li := ixk_len s 0 h.cp
    simp
    refine lc_known (xs := (ixk s 0 h.cp).map natD) (fun i acc => acc = (((ixk s 0 h.cp).take i).filter fun c => !atb h.kp c).map natD) (fun q h => by simpa using h) (by rw [List.length_map]; omega) rfl ?_ ?_
    · rintro i x acc hx la rfl
      obtain ⟨hi, rfl⟩ := map_get hx
      have hk : (ixk s 0 h.cp)[i] < h.kp.length := by
        have := (ixk_lt s 0 h.cp _ (List.getElem_mem hi)).2
        omega
      rw [List.take_succ_eq_append_getElem hi, List.filter_append]
      generalize ((ixk s 0 h.cp).take i).filter (fun c => !atb h.kp c) = L at *
      cases e : atb h.kp (ixk s 0 h.cp)[i] <;> simp [natD, numD, bolD, bol_at hk, e]
    · rintro acc rfl
      rw [List.length_map, List.take_length]
      exact k)
end
end K18

namespace K18
open PySem PySem.Spec PyProof.Rows L2
open DL
/-- as the house has them -/
def RowOk (h : Hs) (r : Row) : Prop := r.Ok h.dn.length h.parts.length h.cn.length
theorem cp_len {h : Hs} : h.cp.length = h.cn.length := by unfold Hs.cp Hs.cn; rw [List.length_map, List.length_map]
theorem kp_len {h : Hs} : h.kp.length = h.cn.length := by unfold Hs.kp Hs.cn; rw [List.length_map, List.length_map]
theorem lost_lt {h : Hs} {s : Int} {c : Nat} (m : c ∈ lost h s) : c < h.cn.length := by
  have := (ixk_lt s 0 h.cp c (List.mem_filter.mp m).1).2
  rw [cp_len] at this
  omega
theorem lost_len {h : Hs} {s : Int} : (lost h s).length ≤ h.cn.length := by
  have h1 := List.length_filter_le (fun c => !atb h.kp c) (ixk s 0 h.cp)
  have h2 := ixk_len s 0 h.cp
  rw [cp_len] at h2
  unfold lost
  omega
/-- a cell's value is lost -/
def off1 (r : Row) (c : Nat) : Row := { r with va := r.va.set c 0, te := if at0 r.te c = 1 ∨ at0 r.te c = 2 then r.te.set c (at0 r.te c + 2) else r.te }
def putOff (h : Hs) (r : Row) (s : Nat) : Row := { (lost h (s : Nat)).foldl off1 r with li := r.li.set s false }
theorem off1_li {r : Row} {c : Nat} : (off1 r c).li = r.li := rfl
theorem off1_dr {r : Row} {c : Nat} : (off1 r c).dr = r.dr := rfl
theorem off1_sa {r : Row} {c : Nat} : (off1 r c).sa = r.sa := rfl
theorem off1_va {r : Row} {c : Nat} : (off1 r c).va.length = r.va.length := List.length_set
theorem off1_te {r : Row} {c : Nat} : (off1 r c).te.length = r.te.length := by
  show (if at0 r.te c = 1 ∨ at0 r.te c = 2 then r.te.set c (at0 r.te c + 2) else r.te).length = _
  split
  · exact List.length_set
  · rfl
theorem fold_keep {r : Row} : ∀ l : List Nat, (l.foldl off1 r).dr = r.dr ∧ (l.foldl off1 r).li = r.li ∧ (l.foldl off1 r).sa = r.sa ∧ (l.foldl off1 r).va.length = r.va.length ∧ (l.foldl off1 r).te.length = r.te.length := by
  intro l
  induction l generalizing r with
  | nil => exact ⟨rfl, rfl, rfl, rfl, rfl⟩
  | cons c l ih =>
    obtain ⟨h1, h2, h3, h4, h5⟩ := ih (r := off1 r c)
    exact ⟨h1, h2, h3, h4.trans off1_va, h5.trans off1_te⟩
section
variable {P : Program} {w : World} {K : W.Frag} {mg : Str → Option Value} {base : Heap} {C : Addr} {h : Hs} {f : Addr} {fd : FuncData}
def RPutOff (h : Hs) : List D → (D → Prop) → Prop := fun xs q => ∃ (r : Row) (s : Nat), xs = [hob, r.d, .int s] ∧ RowOk h r ∧ s < h.parts.length ∧ q (putOff h r s).d
abbrev NPo : List Str := ["house", "row", "part", "doors", "lights", "worth", "saved", "tales", "cell"]
theorem scPo : FnScope NPo ["house", "row", "part"] (defScope sPutOff) := ⟨rfl, rfl, rfl, by decide +kernel, rfl, by decide +kernel, by decide +kernel⟩
theorem ok_putoff (F : Fun K "_put_off" "_put_off" sPutOff f fd) (B : Bl mg) (few : h.cn.length ≤ 20) (f2 : h.parts.length ≤ 20) (cRepl : Callee P w K mg base "replaced" 1 ["row", "at", "value"] (spP (dgH K C h) 3 RWith)) (cLost : Callee P w K mg base "_lost_cells" 2 ["house", "part"] (spP (dgH K C h) 2 (RLost h))) :
    FnOk P w K mg base CX0 3 f fd ["house", "row", "part"] (spP (dgH K C h) 3 (RPutOff h)) :=
  okP (G := dgH K C h) F scPo (fun O cdv A outer s H E hr => by
    have un := hr.units
    exact (ds_cons (ds_asg (dv 1) (pg_tup rfl (pgs_cons (pg_name (i := 3) scPo.nd rfl (Or.inl rfl)) (pgs_cons (pg_name (i := 4) scPo.nd rfl (Or.inl rfl)) (pgs_cons (pg_name (i := 5) scPo.nd rfl (Or.inl rfl)) (pgs_cons (pg_name (i := 6) scPo.nd rfl (Or.inl rfl)) (pgs_cons (pg_name (i := 7) scPo.nd rfl (Or.inl rfl)) pgs_nil)))))) (to_tup rfl (to_cons to_name (to_cons to_name (to_cons to_name (to_cons to_name (to_cons to_name to_nil)))))))
 (ds_cons (ds_for PassesOwn.never rfl (di_seq (d_call cLost (hr.mono (by decide)) (by rfl) (da_cons (dv 0) (da_cons (dv 2) da_nil)))) (pg_name (i := 8) scPo.nd rfl (Or.inl rfl)) to_name
 (ds_cons (ds_set (i := 5) scPo.nd rfl (Or.inl rfl) (d_call cRepl (hr.mono (by decide)) (by rfl) (da_cons (dv 5) (da_cons (dv 8) (da_cons d_int da_nil)))))
 (ds_one (ds_if (d_tcmp op_in_seq abs_in (d_ix (dv 7) (dv 8)) (d_tup (da_cons d_int (da_cons d_int da_nil))) (by rfl))
 (ds_one (ds_set (i := 7) scPo.nd rfl (Or.inl rfl) (d_call cRepl (hr.mono (by decide)) (by rfl) (da_cons (dv 7) (da_cons (dv 8) (da_cons (d_op op_addA abs_add (d_ix (dv 7) (dv 8)) d_int) da_nil))))))
 ds_nil))))
 (ds_one (ds_ret (d_tup (da_cons (dv 3) (da_cons (d_call cRepl (hr.mono (by decide)) (by rfl) (da_cons (dv 4) (da_cons (dv 2) (da_cons d_bl da_nil)))) (da_cons (dv 5) (da_cons (dv 6) (da_cons (dv 7) da_nil))))))))))) (fun xs q l r => by
    obtain ⟨r, s, rfl, ok, hs, k⟩ := r
    have := line
    have l1 := ok.va
    have l2 := ok.te
    have l3 := ok.li
    simp [Row.d, bolD, numD]
    refine for_known (xs := (lost h (s : Nat)).map natD) (fun i ρ ω => ω = [] ∧ ∃ s8, ρ = [.dat hob, .dat r.d, .dat (.int s), .dat (bolD r.dr), .dat (bolD r.li), .dat (numD (((lost h (s : Nat)).take i).foldl off1 r).va), .dat (numD r.sa), .dat (numD (((lost h (s : Nat)).take i).foldl off1 r).te), s8])
      (fun q h => by simpa using h) ⟨rfl, _, rfl⟩ ?_ ?_
    · rintro i x ρ ω hx ⟨rfl, s8, rfl⟩
      obtain ⟨hi, rfl⟩ := map_get hx
      have lt := lost_lt (List.getElem_mem hi)
      obtain ⟨e1, e2, e3, e4, e5⟩ := fold_keep (r := r) ((lost h (s : Nat)).take i)
      rw [List.take_succ_eq_append_getElem hi, List.foldl_append]
      generalize ((lost h (s : Nat)).take i).foldl off1 r = r1 at *
      generalize (lost h (s : Nat))[i] = c at *
      have h4 : c < r1.va.length := by omega
      have h5 : c < r1.te.length := by omega
      simp [natD, numD, num_get h5, off1, List.map_set]
      by_cases z : at0 r1.te c = 1 ∨ at0 r1.te c = 2
      · rw [if_pos z]
        exact ⟨h4, by omega, .inr ⟨z.imp Eq.symm Eq.symm, h5, by omega, List.map_set.symm⟩⟩
      · rw [if_neg z]
        exact ⟨h4, by omega, .inl ⟨⟨fun y => z (.inl y.symm), fun y => z (.inr y.symm)⟩, rfl⟩⟩
    · rintro ρ ω ⟨rfl, s8, rfl⟩
      rw [List.length_map, List.take_length]
      obtain ⟨e1, e2, e3, e4, e5⟩ := fold_keep (r := r) (lost h (s : Nat))
      unfold putOff at k
      generalize (lost h (s : Nat)).foldl off1 r = r1 at *
      simp [Row.d, bolD, numD, List.map_set, e1, e3] at k
      simp [numD, bolD]
      exact ⟨by omega, by omega, k⟩)
/-! what the hand changes that is no drain and no off -/
def change (h : Hs) (r : Row) (x : Str) (n : Nat) : Row :=
  if isDoorW x then { r with dr := r.dr.set n (decide (x = "open")) } else if x = "on" then { r with li := r.li.set n true }
  else if atb r.li (at0 h.cp n).toNat = false then r else if x = "save" then { r with sa := r.sa.set n (at0 r.va n) } else load r n
def numOk (h : Hs) (x : Str) (n : Nat) : Prop := if isDoorW x then n < h.dn.length else if x = "on" then n < h.parts.length else n < h.cn.length ∧ ∃ k : Nat, k < h.parts.length ∧ at0 h.cp n = (k : Nat)
def RChange (h : Hs) : List D → (D → Prop) → Prop := fun xs q => ∃ (r : Row) (x nm : Str) (n : Nat), xs = [hob, r.d, .tup [.str x, .str nm], .int n] ∧ RowOk h r ∧ numOk h x n ∧ q (change h r x n).d
abbrev NCh : List Str := ["house", "row", "told", "number", "doors", "lights", "worth", "saved", "tales"]
theorem scCh : FnScope NCh ["house", "row", "told", "number"] (defScope sChange) := ⟨rfl, rfl, rfl, by decide +kernel, rfl, by decide +kernel, by decide +kernel⟩
theorem RLoad_of {h : Hs} {r : Row} (ok : RowOk h r) (few : h.cn.length ≤ 10) {c : Nat} {q : D → Prop} (hc : c < h.cn.length) (k : q (load r c).d) : RLoad [r.d, .int c] q := ⟨r, c, _, _, _, rfl, ok, few, hc, k⟩
theorem ok_change {aD : Addr} (F : Fun K "_change" "_change" sChange f fd) (B : Bl mg) (T : HC2 K C) (few : h.cn.length ≤ 10) (f2 : h.parts.length ≤ 20) (f3 : h.dn.length ≤ 20) (mDD : mg "DOOR_DEEDS" = some (.ref aD)) (kDD : ∀ H, SqT K H aD [.str "shut", .str "open"])
    (cRepl : Callee P w K mg base "replaced" 1 ["row", "at", "value"] (spP (dgH K C h) 3 RWith)) (cTurned : Callee P w K mg base "turned" 2 ["row", "door", "is_open"] (spP (dgH K C h) 3 RTurned)) (cLoad : Callee P w K mg base "_load" 2 ["row", "cell"] (spP (dgH K C h) 2 RLoad)) :
    FnOk P w K mg base CX0 3 f fd ["house", "row", "told", "number"] (spP (dgH K C h) 4 (RChange h)) :=
  okP (G := dgH K C h) F scCh (fun O cdv A outer s H E hr => by
    have un := hr.units
    exact (ds_cons (ds_asg (dv 1) (pg_tup rfl (pgs_cons (pg_name (i := 4) scCh.nd rfl (Or.inl rfl)) (pgs_cons (pg_name (i := 5) scCh.nd rfl (Or.inl rfl)) (pgs_cons (pg_name (i := 6) scCh.nd rfl (Or.inl rfl)) (pgs_cons (pg_name (i := 7) scCh.nd rfl (Or.inl rfl)) (pgs_cons (pg_name (i := 8) scCh.nd rfl (Or.inl rfl)) pgs_nil)))))) (to_tup rfl (to_cons to_name (to_cons to_name (to_cons to_name (to_cons to_name (to_cons to_name to_nil)))))))
 (ds_cons (ds_if (d_tcmp op_in_seq abs_in (d_ix (dv 2) d_int) (d_glob (v := .ref _) (by rfl) mDD rfl (kon_strs (xs := ["shut", "open"]) kDD)) (by rfl))
 (ds_one (ds_ret (d_call cTurned (hr.mono (by decide)) (by rfl) (da_cons (dv 1) (da_cons (dv 3) (da_cons (d_cmp (op_eqA un) abs_eq (d_ix (dv 2) d_int) d_str (nomark _)) da_nil))))))
 ds_nil)
 (ds_cons (ds_if (d_tcmp (op_eqA un) abs_eq (d_ix (dv 2) d_int) d_str (nomark _))
 (ds_one (ds_ret (d_tup (da_cons (dv 4) (da_cons (d_call cRepl (hr.mono (by decide)) (by rfl) (da_cons (dv 5) (da_cons (dv 3) (da_cons d_bl da_nil)))) (da_cons (dv 6) (da_cons (dv 7) (da_cons (dv 8) da_nil))))))))
 ds_nil)
 (ds_cons (ds_if (d_tnot (d_tval (d_ix (dv 5) (d_ix (d_fld (fld_cp T) (dv 0)) (dv 3)))))
 (ds_one (ds_ret (dv 1)))
 ds_nil)
 (ds_cons (ds_if (d_tcmp (op_eqA un) abs_eq (d_ix (dv 2) d_int) d_str (nomark _))
 (ds_one (ds_ret (d_tup (da_cons (dv 4) (da_cons (dv 5) (da_cons (dv 6) (da_cons (d_call cRepl (hr.mono (by decide)) (by rfl) (da_cons (dv 7) (da_cons (dv 3) (da_cons (d_ix (dv 6) (dv 3)) da_nil)))) (da_cons (dv 8) da_nil))))))))
 ds_nil)
 (ds_one (ds_ret (d_call cLoad (hr.mono (by decide)) (by rfl) (da_cons (dv 1) (da_cons (dv 3) da_nil))))))))))) (fun xs q l r => by
    obtain ⟨r, x, nm, n, rfl, ok, nk, k⟩ := r
    have := line
    have l0 := ok.dr
    have l1 := ok.va
    have l2 := ok.sa
    have l3 := ok.li
    unfold numOk at nk
    unfold change at k
    simp [Row.d, bolD, numD]
    by_cases h1 : isDoorW x
    · rw [if_pos h1] at nk k
      simp [Row.d, bolD, numD, List.map_set] at k
      exact .inr ⟨h1.imp Eq.symm Eq.symm, by omega, by omega, k⟩
    · rw [if_neg h1] at nk k
      refine .inl ⟨⟨fun z => h1 (.inl z.symm), fun z => h1 (.inr z.symm)⟩, ?_⟩
      by_cases h2 : x = "on"
      · rw [if_pos h2] at nk k
        simp [Row.d, bolD, numD, List.map_set] at k
        exact .inr ⟨h2, by omega, by omega, k⟩
      · rw [if_neg h2] at nk k
        obtain ⟨hn, m, hm, em⟩ := nk
        have lcp := cp_len (h := h)
        have g1 : h.cp[n]? = some (m : Int) := by
          have hl : n < h.cp.length := by omega
          rw [List.getElem?_eq_getElem hl, ← em]
          unfold at0
          rw [List.getD_eq_getElem?_getD, List.getElem?_eq_getElem hl]
          rfl
        have em' : (at0 h.cp n).toNat = m := by omega
        rw [em'] at k
        have hml : m < r.li.length := by omega
        have g2 := bol_at hml
        have hva : n < r.va.length := by omega
        have g3 : r.va[n]? = some (at0 r.va n) := by
          unfold at0
          rw [List.getD_eq_getElem?_getD, List.getElem?_eq_getElem hva]
          rfl
        refine .inl ⟨h2, .int (m : Nat), ⟨_, g1, rfl⟩, ?_⟩
        refine ⟨.bl (atb r.li m), by rw [ixD_tup, atI_nat']; exact g2, ?_⟩
        cases hb : atb r.li m with
        | false =>
          rw [if_pos hb] at k
          exact .inl ⟨rfl, k⟩
        | true =>
          rw [if_neg (by rw [hb]; decide)] at k
          refine .inr ⟨rfl, ?_⟩
          by_cases h3 : x = "save"
          · rw [if_pos h3] at k
            simp [Row.d, bolD, numD, List.map_set] at k
            exact .inr ⟨h3, _, ⟨_, g3, rfl⟩, by omega, by omega, k⟩
          · rw [if_neg h3] at k
            exact .inl ⟨h3, RLoad_of ok few hn k⟩)
end
end K18

namespace K18
open PySem PySem.Spec PyProof.Rows L2
open DL
/-! ### a deed -/
def numN (h : Hs) (x n : Str) : Nat := if isDoorW x then h.dn.idxOf n else if isPartW x then h.parts.idxOf n else h.cn.idxOf n
def Has (h : Hs) (x n : Str) : Prop := if isDoorW x then n ∈ h.dn else if isPartW x then n ∈ h.parts else n ∈ h.cn
theorem not_out {h : Hs} (g : GoodH h) {n : Str} (m : n ∈ h.parts) : n ≠ "out" := fun z => by
  subst z
  have := g.name "out" (List.mem_append_left _ m)
  revert this
  decide +kernel
theorem has_knows {h : Hs} {x n : Str} (k : Has h x n) : Knows h x n := by
  unfold Has at k
  unfold Knows
  split
  · rename_i e
    rw [if_pos e] at k
    exact k
  · rename_i e
    rw [if_neg e] at k
    split
    · rename_i e2
      rw [if_pos e2] at k
      exact .inr k
    · rename_i e2
      rw [if_neg e2] at k
      exact k
theorem numOf_N {h : Hs} (g : GoodH h) {x n : Str} (k : Has h x n) : numOf h x n = (numN h x n : Nat) := by
  unfold Has at k
  unfold numOf numN
  split
  · rfl
  · rename_i e
    rw [if_neg e] at k
    split
    · rename_i e2
      rw [if_pos e2] at k
      unfold endN
      rw [if_neg (not_out g k)]
    · rfl
def asks (x : Str) : Prop := x = "drain" ∨ x = "off"
instance (x : Str) : Decidable (asks x) := by unfold asks; infer_instance
theorem asks_part {x : Str} (a : asks x) : ¬ isDoorW x ∧ isPartW x := by
  rcases a with rfl | rfl
  · exact ⟨by decide +kernel, by decide +kernel⟩
  · exact ⟨by decide +kernel, by decide +kernel⟩
theorem num_ok {h : Hs} (g : GoodH h) {x n : Str} (k : Has h x n) (na : ¬ asks x) : numOk h x (numN h x n) := by
  unfold Has at k
  unfold numOk numN
  by_cases e : isDoorW x
  · rw [if_pos e] at k ⊢
    rw [if_pos e]
    exact List.idxOf_lt_length_of_mem k
  · rw [if_neg e] at k ⊢
    rw [if_neg e]
    by_cases e2 : x = "on"
    · have e3 : isPartW x := .inr (.inr e2)
      rw [if_pos e3] at k
      rw [if_pos e2, if_pos e3]
      exact List.idxOf_lt_length_of_mem k
    · have e3 : ¬ isPartW x := fun z => z.elim (fun y => na (.inl y)) fun y => y.elim (fun y => na (.inr y)) e2
      rw [if_neg e3] at k
      rw [if_neg e2, if_neg e3]
      have lt : h.cn.idxOf n < h.cn.length := List.idxOf_lt_length_of_mem k
      have lt2 : h.cn.idxOf n < h.cells.length := by unfold Hs.cn at lt ⊢; rw [List.length_map] at lt; exact lt
      have cin := g.cin _ (List.getElem_mem lt2)
      refine ⟨lt, h.parts.idxOf h.cells[h.cn.idxOf n].p, List.idxOf_lt_length_of_mem cin, ?_⟩
      unfold at0 Hs.cp
      rw [List.getD_eq_getElem?_getD, List.getElem?_map, List.getElem?_eq_getElem lt2]
      show endN h.parts h.cells[h.cn.idxOf n].p = _
      unfold endN
      rw [if_neg (not_out g cin)]
def plsD (ps : List Pl) : D := .tup (ps.map Pl.d)
def taken (ps : List Pl) (n : Nat) : Prop := (n : Int) ∈ ps.map Pl.wh
instance (ps : List Pl) (n : Nat) : Decidable (taken ps n) := by unfold taken; infer_instance
def natI (k : Nat) : Int := (k : Int)
def deedD (h : Hs) (r : Row) (ps : List Pl) (x nm : Str) : D :=
  if ¬ asks x then .tup [(change h r x (numN h x nm)).d, plsD ps, .non]
  else if x = "drain" then (if taken ps (numN h x nm) then .non else .tup [r.d, plsD ps, .non])
  else if atb r.li (numN h x nm) = false then .tup [r.d, plsD ps, .non]
  else if taken ps (numN h x nm) then .tup [r.d, plsD ps, .tup [.str "inside", .str nm]]
  else .tup [(putOff h r (numN h x nm)).d, plsD (ps.map (age ((lost h (numN h x nm : Nat)).map natI))), .non]
@[simp] theorem row_1 {r : Row} : ixD r.d (.int 1) = some (bolD r.li) := rfl
theorem nat_int {l : List Nat} : l.map natD = (l.map natI).map D.int := by rw [List.map_map]; rfl
section
variable {P : Program} {w : World} {K : W.Frag} {mg : Str → Option Value} {base : Heap} {C : Addr} {h : Hs} {f : Addr} {fd : FuncData}
def RDeed (h : Hs) : List D → (D → Prop) → Prop := fun xs q => ∃ (r : Row) (ps : List Pl) (pd : D) (x nm : Str), xs = [hob, r.d, pd, .tup [.str x, .str nm]] ∧ (pd = plsD ps ∨ pd = .lst (ps.map Pl.d)) ∧ ps.length ≤ 20 ∧ RowOk h r ∧ Has h x nm ∧ q (deedD h r ps x nm)
abbrev NDe : List Str := ["house", "row", "places", "told", "number", "same", "is_taken", "place"]
theorem scDe : FnScope NDe ["house", "row", "places", "told"] (defScope sDeed) := ⟨rfl, rfl, rfl, by decide +kernel, rfl, by decide +kernel, by decide +kernel⟩
theorem ok_deed (F : Fun K "deed" "deed" sDeed f fd) (B : Bl mg) (g : GoodH h)
    (cNumPl : Callee P w K mg base "number_of_plans" 5 ["house", "told"] (spP (dgH K C h) 2 (RNumPl h))) (cAsked : Callee P w K mg base "asked_empty" 1 ["told"] (spP (dgH K C h) 1 RAsked)) (cChange : Callee P w K mg base "_change" 3 ["house", "row", "told", "number"] (spP (dgH K C h) 4 (RChange h)))
    (cPutOff : Callee P w K mg base "_put_off" 3 ["house", "row", "part"] (spP (dgH K C h) 3 (RPutOff h))) (cAged : Callee P w K mg base "_aged" 1 ["places", "cells"] (spP (dgH K C h) 2 RAged)) (cLost : Callee P w K mg base "_lost_cells" 2 ["house", "part"] (spP (dgH K C h) 2 (RLost h))) :
    FnOk P w K mg base CX0 6 f fd ["house", "row", "places", "told"] (spP (dgH K C h) 4 (RDeed h)) :=
  okP (G := dgH K C h) F scDe (fun O cdv A outer s H E hr => by
    have un := hr.units
    exact (ds_cons (ds_set (i := 4) scDe.nd rfl (Or.inl rfl) (d_call cNumPl (hr.mono (by decide)) (by rfl) (da_cons (dv 0) (da_cons (dv 3) da_nil))))
 (ds_cons (ds_set (i := 5) scDe.nd rfl (Or.inl rfl) (d_callTy call_tuple_of abs_tuple (by rfl) B.tuple (by decide +kernel) (da_cons (dv 2) da_nil)))
 (ds_cons (ds_if (d_tisN (d_call cAsked (hr.mono (by decide)) (by rfl) (da_cons (dv 3) da_nil)))
 (ds_one (ds_ret (d_tup (da_cons (d_call cChange (hr.mono (by decide)) (by rfl) (da_cons (dv 0) (da_cons (dv 1) (da_cons (dv 3) (da_cons (dv 4) da_nil))))) (da_cons (dv 5) (da_cons d_non da_nil))))))
 ds_nil)
 (ds_cons (ds_set (i := 6) scDe.nd rfl (Or.inl rfl) (d_cmp op_in_seq abs_in (dv 4) (d_lc (own := [("place", 7)]) rfl scDe.nd (di_seq (dv 5)) (blkOk_by (own := [("place", 7)]) (N := NDe) (sc := defScope sDeed) (by decide +kernel)) (fun _ _ _ _ _ => (pg_name (i := 7) scDe.nd rfl (Or.inl rfl))) to_name (by decide) (fun _ _ _ _ _ => pts_nil) (fun _ _ _ => yes_ok) (fun _ _ _ _ _ => (d_ix (dv 7) d_int))) (by rfl)))
 (ds_cons (ds_if (d_tcmp (op_eqA un) abs_eq (d_ix (dv 3) d_int) d_str (nomark _))
 (ds_one (ds_ret (d_if (d_tval (dv 6)) d_non (d_tup (da_cons (dv 1) (da_cons (dv 5) (da_cons d_non da_nil)))))))
 ds_nil)
 (ds_cons (ds_if (d_tnot (d_tval (d_ix (d_ix (dv 1) d_int) (dv 4))))
 (ds_one (ds_ret (d_tup (da_cons (dv 1) (da_cons (dv 5) (da_cons d_non da_nil))))))
 ds_nil)
 (ds_cons (ds_if (d_tval (dv 6))
 (ds_one (ds_ret (d_tup (da_cons (dv 1) (da_cons (dv 5) (da_cons (d_tup (da_cons d_str (da_cons (d_ix (dv 3) d_int) da_nil))) da_nil))))))
 ds_nil)
 (ds_one (ds_ret (d_tup (da_cons (d_call cPutOff (hr.mono (by decide)) (by rfl) (da_cons (dv 0) (da_cons (dv 1) (da_cons (dv 4) da_nil)))) (da_cons (d_call cAged (hr.mono (by decide)) (by rfl) (da_cons (dv 5) (da_cons (d_call cLost (hr.mono (by decide)) (by rfl) (da_cons (dv 0) (da_cons (dv 4) da_nil))) da_nil))) (da_cons d_non da_nil)))))))))))))) (fun xs q l r => by
    obtain ⟨r, ps, pd, x, nm, rfl, hpd, few, ok, hk, k⟩ := r
    have := line
    have kn := has_knows hk
    have en := numOf_N g hk
    have tp : tupleD [pd] = some (plsD ps) := by rcases hpd with rfl | rfl <;> rfl
    unfold deedD at k
    simp [tp, kn, en]
    by_cases ha : asks x
    · obtain ⟨nd, pw⟩ := asks_part ha
      have hm : nm ∈ h.parts := by
        unfold Has at hk
        rw [if_neg nd, if_pos pw] at hk
        exact hk
      have hn : numN h x nm < h.parts.length := by
        unfold numN
        rw [if_neg nd, if_pos pw]
        exact List.idxOf_lt_length_of_mem hm
      rw [if_neg (not_not_intro ha)] at k
      have e0 : (if x = "drain" ∨ x = "off" then D.str nm else D.non) = D.str nm := if_pos ha
      refine ⟨by rw [e0]; simp, .inl ⟨by rw [e0]; rfl, ?_⟩⟩
      refine lc_map (xs := ps.map Pl.d) (fun d => (ixD d (.int 2)).getD .non) (fun q h => by simpa [plsD] using h) (by rw [List.length_map]; omega) (fun y hy => ?_) ?_
      · obtain ⟨p, _, rfl⟩ := List.mem_map.mp hy
        refine ⟨_, rfl, fun acc q' hq => ?_⟩
        simpa [Pl.d] using hq
      have ew : ((ps.map Pl.d).map fun d => (ixD d (.int 2)).getD .non) = (ps.map Pl.wh).map D.int := by
        rw [List.map_map, List.map_map]
        rfl
      rw [ew]
      refine ⟨_, rfl, _, fls_ints _, ?_⟩
      rw [inV_ints]
      have et : decide ((numN h x nm : Int) ∈ ps.map Pl.wh) = decide (taken ps (numN h x nm)) := rfl
      rw [et]
      by_cases hd : x = "drain"
      · rw [if_pos hd] at k
        refine .inr ⟨hd, ?_⟩
        by_cases ht : taken ps (numN h x nm)
        · rw [if_pos ht] at k
          exact .inr ⟨decide_eq_true ht, k⟩
        · rw [if_neg ht] at k
          exact .inl ⟨decide_eq_false ht, k⟩
      · rw [if_neg hd] at k
        refine .inl ⟨hd, .bl (atb r.li (numN h x nm)), ?_, ?_⟩
        · unfold bolD
          rw [ixD_tup, atI_nat']
          exact bol_at (by rw [ok.li]; exact hn)
        cases hb : atb r.li (numN h x nm) with
        | false =>
          rw [if_pos hb] at k
          exact .inl ⟨rfl, k⟩
        | true =>
          rw [if_neg (by rw [hb]; decide)] at k
          refine .inr ⟨rfl, ?_⟩
          by_cases ht : taken ps (numN h x nm)
          · rw [if_pos ht] at k
            exact .inr ⟨decide_eq_true ht, k⟩
          · rw [if_neg ht] at k
            refine .inl ⟨decide_eq_false ht, r, _, rfl, ok, hn, ?_⟩
            rw [nat_int]
            exact ⟨ps, _, rfl, by omega, k⟩
    · rw [if_pos ha] at k
      have e0 : (if x = "drain" ∨ x = "off" then D.str nm else D.non) = D.non := if_neg ha
      refine ⟨by rw [e0]; simp, .inr ⟨by rw [e0]; rfl, ?_⟩⟩
      exact ⟨r, x, nm, _, rfl, ok, num_ok g hk ha, k⟩)
end
end K18

namespace K18
open PySem PySem.Spec PyProof.Rows L2
open DL
/-! ### a world of the law, and its house -/
structure Wd where
  ps : List Str
  ds : List (Str × Int × Int × Bool)
  cs : List (Str × Nat × Bool)
  ki : D
def doorD (d : Str × Int × Int × Bool) : D := .tup [.str d.1, .int d.2.1, .int d.2.2.1, .bl d.2.2.2]
def cellD (c : Str × Nat × Bool) : D := .tup [.str c.1, .int (c.2.1 : Nat), .bl c.2.2]
abbrev wkeys : List Str := ["parts", "doors", "cells", "names", "deeds", "kinds"]
def Wd.vals (W : Wd) : List D := [.lst (W.ps.map D.str), .lst (W.ds.map doorD), .lst (W.cs.map cellD), .lst [.str "k", .str "other"], .lst [], W.ki]
def Wd.d (W : Wd) : D := .dic wkeys W.vals
theorem look_parts {W : Wd} : lookD wkeys W.vals "parts" = some (.lst (W.ps.map D.str)) := rfl
theorem look_doors {W : Wd} : lookD wkeys W.vals "doors" = some (.lst (W.ds.map doorD)) := by
  show (if ("parts" : Str) = "doors" then _ else _) = _
  rw [if_neg (by decide +kernel)]
  rfl
theorem look_cells {W : Wd} : lookD wkeys W.vals "cells" = some (.lst (W.cs.map cellD)) := by
  show (if ("parts" : Str) = "cells" then _ else _) = _
  rw [if_neg (by decide +kernel)]
  show (if ("doors" : Str) = "cells" then _ else _) = _
  rw [if_neg (by decide +kernel)]
  rfl
/-- the name of an end, by its number -/
def endS (ps : List Str) (i : Int) : Str := if i = -1 then "out" else ps.getD i.toNat "out"
def hOf (W : Wd) : Hs := ⟨W.ps, W.ds.map fun d => ⟨d.1, endS W.ps d.2.1, endS W.ps d.2.2.1, d.2.2.2⟩, W.cs.map fun c => ⟨c.1, W.ps.getD c.2.1 "out", c.2.2⟩⟩
structure WOk (W : Wd) : Prop where
  g : GoodH (hOf W)
  c : ∀ c, c ∈ W.cs → c.2.1 < W.ps.length
  nd : W.ps.Nodup
  few : W.ps.length ≤ 2 ∧ W.ds.length ≤ 3 ∧ W.cs.length ≤ 2
  one : 1 ≤ W.ds.length ∧ 1 ≤ W.cs.length
theorem dn_of {W : Wd} : (hOf W).dn = W.ds.map (·.1) := by unfold Hs.dn hOf; rw [List.map_map]; rfl
theorem cn_of {W : Wd} : (hOf W).cn = W.cs.map (·.1) := by unfold Hs.cn hOf; rw [List.map_map]; rfl
theorem kp_of {W : Wd} : (hOf W).kp = W.cs.map (·.2.2) := by unfold Hs.kp hOf; rw [List.map_map]; rfl
theorem idx_get {ps : List Str} (nd : ps.Nodup) {i : Nat} (h : i < ps.length) : ps.idxOf ps[i] = i := by
  have lt : ps.idxOf ps[i] < ps.length := List.idxOf_lt_length_of_mem (List.getElem_mem h)
  exact (List.getElem_inj nd (h₀ := lt) (h₁ := h)).mp (List.getElem_idxOf lt)
theorem cp_of {W : Wd} (ok : WOk W) : (hOf W).cp = W.cs.map fun c => (c.2.1 : Int) := by
  unfold Hs.cp hOf
  rw [List.map_map]
  refine List.map_congr_left fun c hc => ?_
  have lt := ok.c c hc
  show endN W.ps (W.ps.getD c.2.1 "out") = _
  rw [List.getD_eq_getElem?_getD, List.getElem?_eq_getElem lt]
  show endN W.ps W.ps[c.2.1] = _
  unfold endN
  rw [if_neg (not_out (h := hOf W) ok.g (List.getElem_mem lt)), idx_get ok.nd lt]
section
variable {P : Program} {w : World} {mg : Str → Option Value} {base : Heap} {G : DG} {f : Addr} {fd : FuncData}
theorem find_str {ns : List Str} {n : Str} : (ns.map V.str).findIdx (fun z => eqV z (.str n)) = ns.idxOf n := by
  unfold List.idxOf
  rw [List.findIdx_map]
  rfl
def RSpot : List D → (D → Prop) → Prop := fun xs q => ∃ (rs : List D) (ns : List Str) (n : Str), xs = [.lst rs, .str n] ∧ (rs.map fun d => (ixD d (.int 0)).getD .non) = ns.map D.str ∧ (∀ r, r ∈ rs → ∃ x, ixD r (.int 0) = some x) ∧ rs.length ≤ 20 ∧ n ∈ ns ∧ q (.int (ns.idxOf n : Nat))
abbrev NSp : List Str := ["_law_rows", "_law_name", "_law_row_here"]
theorem scSp : FnScope NSp ["_law_rows", "_law_name"] (defScope sSpot) := ⟨rfl, rfl, rfl, by decide +kernel, rfl, by decide +kernel, by decide +kernel⟩
theorem ok_spot (F : Fun G.K "_law_spot" "_law_spot" sSpot f fd) (B : Bl mg) : FnOk P w G.K mg base CX0 1 f fd ["_law_rows", "_law_name"] (spP G 2 RSpot) :=
  okP F scSp (fun O cdv A outer s H E hr => by
    have un := hr.units
    exact (ds_one (ds_ret (d_index (d_lc (own := [("_law_row_here", 2)]) rfl scSp.nd (di_seq (dv 0)) (blkOk_by (own := [("_law_row_here", 2)]) (N := NSp) (sc := defScope sSpot) (by decide +kernel)) (fun _ _ _ _ _ => (pg_name (i := 2) scSp.nd rfl (Or.inl rfl))) to_name (by decide) (fun _ _ _ _ _ => pts_nil) (fun _ _ _ => yes_ok) (fun _ _ _ _ _ => (d_ix (dv 2) d_int))) (da_cons (dv 1) da_nil))))) (fun xs q l r => by
    obtain ⟨rs, ns, n, rfl, e, al, few, hn, k⟩ := r
    have := line
    simp
    refine lc_map (xs := rs) (fun d => (ixD d (.int 0)).getD .non) (fun q h => by simpa using h) (by omega) (fun y hy => ?_) ?_
    · obtain ⟨x, hx⟩ := al y hy
      refine ⟨_, rfl, fun acc q' hq => ?_⟩
      rw [hx] at hq
      simpa [hx] using hq
    rw [e]
    refine ⟨trivial, _, _, _, _, rfl, rfl, fls_strs _, rfl, ?_, ?_⟩
    · rw [find_str, List.length_map]
      exact List.idxOf_lt_length_of_mem hn
    · rw [find_str]
      exact k)
/-! pockets and cells when a light goes out -/
def ROff : List D → (D → Prop) → Prop := fun xs q => ∃ (W : Wd) (r : Row) (ps : List Pl) (s : Nat), xs = [W.d, r.d, plsD ps, .int s] ∧ WOk W ∧ RowOk (hOf W) r ∧ ps.length ≤ 20 ∧ s < W.ps.length ∧ q (.tup [(putOff (hOf W) r s).d, plsD (ps.map (age ((lost (hOf W) (s : Nat)).map natI)))])
/-- the numbers of the cells that are lost, as the law looks for them -/
def gone (s : Nat) (k : Nat) : List (Str × Nat × Bool) → List Nat
  | [] => []
  | c :: cs => (if c.2.1 = s ∧ c.2.2 = false then [k] else []) ++ gone s (k + 1) cs
theorem gone_lost {W : Wd} (ok : WOk W) (s : Nat) : gone s 0 W.cs = lost (hOf W) (s : Nat) := by
  unfold lost
  rw [cp_of ok, kp_of]
  have go : ∀ (k : Nat) (pre cs : List (Str × Nat × Bool)), pre.length = k → gone s k cs = (ixk (s : Nat) k (cs.map fun c => (c.2.1 : Int))).filter fun c => !atb ((pre ++ cs).map (·.2.2)) c := by
    intro k pre cs
    induction cs generalizing k pre with
    | nil => intro _; rfl
    | cons c cs ih =>
      intro lp
      have ih' := ih (k + 1) (pre ++ [c]) (by rw [List.length_append, lp]; rfl)
      rw [List.append_assoc] at ih'
      show (if c.2.1 = s ∧ c.2.2 = false then [k] else []) ++ gone s (k + 1) cs = ((if (c.2.1 : Int) = (s : Int) then [k] else []) ++ ixk (s : Nat) (k + 1) (cs.map fun c => (c.2.1 : Int))).filter _
      rw [List.filter_append, ih']
      congr 1
      have at_k : atb ((pre ++ c :: cs).map (·.2.2)) k = c.2.2 := by
        unfold atb
        rw [List.getD_eq_getElem?_getD, List.getElem?_map, List.getElem?_append_right (by omega), lp, Nat.sub_self]
        rfl
      by_cases e : c.2.1 = s
      · rw [if_pos (show (c.2.1 : Int) = (s : Int) by omega)]
        cases hb : c.2.2 with
        | false => rw [if_pos ⟨e, rfl⟩, List.filter_cons_of_pos (by rw [at_k, hb]; rfl)]; rfl
        | true => rw [if_neg (fun z => by cases z.2), List.filter_cons_of_neg (by rw [at_k, hb]; decide)]; rfl
      · rw [if_neg (fun z => e z.1), if_neg (show ¬ (c.2.1 : Int) = (s : Int) by omega)]
        rfl
  exact go 0 [] W.cs rfl
theorem gone_snoc (s : Nat) (c : Str × Nat × Bool) : ∀ (k : Nat) (cs : List (Str × Nat × Bool)), gone s k (cs ++ [c]) = gone s k cs ++ if c.2.1 = s ∧ c.2.2 = false then [k + cs.length] else []
  | k, [] => by simp [gone]
  | k, x :: cs => by
    show (if x.2.1 = s ∧ x.2.2 = false then [k] else []) ++ gone s (k + 1) (cs ++ [c]) = ((if x.2.1 = s ∧ x.2.2 = false then [k] else []) ++ gone s (k + 1) cs) ++ _
    rw [gone_snoc s c (k + 1) cs, List.length_cons, List.append_assoc]
    congr 3
    rw [show k + 1 + cs.length = k + (cs.length + 1) by omega]
abbrev NOf : List Str := ["_law_world", "_law_row_here", "_law_places_here", "_law_part", "_law_doors", "_law_lights", "_law_values", "_law_saved", "_law_told", "_law_gone", "_law_at", "_law_later", "_law_place", "_law_pocket", "_law_cell"]
theorem scOff : FnScope NOf ["_law_world", "_law_row_here", "_law_places_here", "_law_part"] (defScope sOff) := ⟨rfl, rfl, rfl, by decide +kernel, rfl, by decide +kernel, by decide +kernel⟩
theorem ok_off (F : Fun G.K "_law_off" "_law_off" sOff f fd) (B : Bl mg) (cWith : Callee P w G.K mg base "_law_with" 1 ["_law_items", "_law_at", "_law_value"] (spP G 3 RWith)) : FnOk P w G.K mg base CX0 2 f fd ["_law_world", "_law_row_here", "_law_places_here", "_law_part"] (spP G 4 ROff) :=
  okP F scOff (fun O cdv A outer s H E hr => by
    have un := hr.units
    have hu := hu_of hr
    exact (ds_cons (ds_asg (dv 1) (pg_tup rfl (pgs_cons (pg_name (i := 4) scOff.nd rfl (Or.inl rfl)) (pgs_cons (pg_name (i := 5) scOff.nd rfl (Or.inl rfl)) (pgs_cons (pg_name (i := 6) scOff.nd rfl (Or.inl rfl)) (pgs_cons (pg_name (i := 7) scOff.nd rfl (Or.inl rfl)) (pgs_cons (pg_name (i := 8) scOff.nd rfl (Or.inl rfl)) pgs_nil)))))) (to_tup rfl (to_cons to_name (to_cons to_name (to_cons to_name (to_cons to_name (to_cons to_name to_nil)))))))
 (ds_cons (ds_setLc (i := 9) rfl scOff.nd rfl rfl (sw_true rfl rfl rfl (by decide +kernel)) (own := [("_law_at", 10), ("_law_cell", 14)]) (di_enum (by rfl) B.enu (da_cons (d_dget hu (dv 0) d_str) da_nil)) (blkOk_by (own := [("_law_at", 10), ("_law_cell", 14)]) (N := NOf) (sc := defScope sOff) (by decide +kernel)) (fun _ _ _ _ _ => (pg_tup rfl (pgs_cons (pg_name (i := 10) scOff.nd rfl (Or.inl rfl)) (pgs_cons (pg_name (i := 14) scOff.nd rfl (Or.inl rfl)) pgs_nil)))) (to_tup rfl (to_cons to_name (to_cons to_name to_nil))) (by decide) (fun _ _ _ _ _ => pts_D (PW.pt (dw_and (d_tcmp (op_eqA un) abs_eq (d_ix (dv 14) d_int) (dv 3) (nomark _)) (dw_and1 (d_tnot (d_tval (d_ix (dv 14) d_int))))))) (fun _ _ _ z => z) (fun _ _ _ _ _ => (dv 10)))
 (ds_cons (ds_for PassesOwn.never rfl (di_seq (dv 9)) (pg_name (i := 10) scOff.nd rfl (Or.inl rfl)) to_name
 (ds_cons (ds_set (i := 6) scOff.nd rfl (Or.inl rfl) (d_call cWith (hr.mono (by decide)) (by rfl) (da_cons (dv 6) (da_cons (dv 10) (da_cons d_int da_nil)))))
 (ds_one (ds_set (i := 8) scOff.nd rfl (Or.inl rfl) (d_call cWith (hr.mono (by decide)) (by rfl) (da_cons (dv 8) (da_cons (dv 10) (da_cons (d_if (d_tcmp op_in_seq abs_in (d_ix (dv 8) (dv 10)) (d_tup (da_cons d_int (da_cons d_int da_nil))) (by rfl)) (d_op op_addA abs_add (d_ix (dv 8) (dv 10)) d_int) (d_ix (dv 8) (dv 10))) da_nil))))))))
 (ds_cons (ds_new (i := 11) scOff.nd rfl (Or.inl rfl))
 (ds_cons (ds_for PassesOwn.never rfl (di_seq (dv 2)) (pg_name (i := 12) scOff.nd rfl (Or.inl rfl)) to_name
 (ds_cons (ds_set (i := 13) scOff.nd rfl (Or.inl rfl) (d_ix (dv 12) d_int))
 (ds_one (ds_app (i := 11) rfl (.inl rfl) (d_if (PW.pt (dw_or (d_tisN (dv 13)) (dw_or1 (d_tcmp op_notIn_seq abs_in (d_ix (dv 13) d_int) (dv 9) (by rfl))))) (dv 12) (d_op op_addA abs_add (d_slice (dv 12) dp_none (dp_some d_int)) (d_tup (da_cons (d_tup (da_cons (d_ix (dv 13) d_int) (da_cons (d_ix (dv 13) d_int) (da_cons d_bl da_nil)))) da_nil))))))))
 (ds_give (i := 11) (ds_one (ds_ret (d_tup (da_cons (d_tup (da_cons (dv 4) (da_cons (d_call cWith (hr.mono (by decide)) (by rfl) (da_cons (dv 5) (da_cons (dv 3) (da_cons d_bl da_nil)))) (da_cons (dv 6) (da_cons (dv 7) (da_cons (dv 8) da_nil)))))) (da_cons (d_callTy call_tuple_of abs_tuple (by rfl) B.tuple (by decide +kernel) (da_cons (dv 11) da_nil)) da_nil)))))))))))) (fun xs q l r => by
    obtain ⟨W, r, ps, s, rfl, ok, ro, few, hs, k⟩ := r
    have := line
    obtain ⟨f1, f2, f3⟩ := ok.few
    have cn := cn_of (W := W)
    have lcn : (hOf W).cn.length = W.cs.length := by rw [cn, List.length_map]
    have l1 := ro.va
    have l2 := ro.te
    have l3 := ro.li
    have lp : (hOf W).parts.length = W.ps.length := rfl
    simp [Wd.d, look_cells, Row.d]
    refine lc_known (xs := (W.cs.map cellD).mapIdx fun i x => .tup [.int (i : Nat), x]) (fun i acc => acc = (gone s 0 (W.cs.take i)).map natD) (fun q h => by simpa [look_cells, and_assoc] using h) (by rw [List.length_mapIdx, List.length_map]; omega) rfl ?_ ?_
    · rintro i x acc hx la rfl
      rw [List.getElem?_mapIdx] at hx
      obtain ⟨y, hy, rfl⟩ := Option.map_eq_some_iff.mp hx
      obtain ⟨hi, rfl⟩ := map_get hy
      rw [List.take_succ_eq_append_getElem hi, gone_snoc, List.length_take, Nat.min_eq_left (by omega), Nat.zero_add]
      generalize gone s 0 (W.cs.take i) = L at *
      generalize W.cs[i] = c at *
      obtain ⟨c1, c2, c3⟩ := c
      simp [cellD]
      by_cases e : c2 = s
      · subst e
        cases c3 <;> simp [natD]
      · have e' : ¬ (c2 : Int) = s := by omega
        simp [e, e']
    · rintro acc rfl
      rw [List.length_mapIdx, List.length_map, List.take_length, gone_lost ok]
      refine for_known (xs := (lost (hOf W) (s : Nat)).map natD) (fun i ρ ω => ω = [] ∧ ∃ s10, ρ = [.dat W.d, .dat r.d, .dat (plsD ps), .dat (.int s), .dat (bolD r.dr), .dat (bolD r.li), .dat (numD (((lost (hOf W) (s : Nat)).take i).foldl off1 r).va), .dat (numD r.sa), .dat (numD (((lost (hOf W) (s : Nat)).take i).foldl off1 r).te), .dat (.lst ((lost (hOf W) (s : Nat)).map natD)), s10, .any, .any, .any, .any])
        (fun q h => by simpa using h) ⟨rfl, _, rfl⟩ ?_ ?_
      · rintro i x ρ ω hx ⟨rfl, s10, rfl⟩
        obtain ⟨hi, rfl⟩ := map_get hx
        have lt := lost_lt (List.getElem_mem hi)
        obtain ⟨e1, e2, e3, e4, e5⟩ := fold_keep (r := r) ((lost (hOf W) (s : Nat)).take i)
        rw [List.take_succ_eq_append_getElem hi, List.foldl_append]
        generalize ((lost (hOf W) (s : Nat)).take i).foldl off1 r = r1 at *
        generalize (lost (hOf W) (s : Nat))[i] = c at *
        have h4 : c < r1.va.length := by omega
        have h5 : c < r1.te.length := by omega
        simp [natD, numD, num_get h5, off1, List.map_set]
        have same : (List.map D.int r1.te).set c (D.int (at0 r1.te c)) = List.map D.int r1.te := by rw [← List.map_set, set_same h5]
        by_cases z : at0 r1.te c = 1 ∨ at0 r1.te c = 2
        · rw [if_pos z]
          refine ⟨h4, by omega, .inr ⟨z.imp Eq.symm Eq.symm, h5, by omega, List.map_set.symm⟩⟩
        · rw [if_neg z]
          exact ⟨h4, by omega, .inl ⟨⟨fun y => z (.inl y.symm), fun y => z (.inr y.symm)⟩, h5, by omega, same⟩⟩
      · rintro ρ ω ⟨rfl, s10, rfl⟩
        rw [List.length_map, List.take_length]
        obtain ⟨e1, e2, e3, e4, e5⟩ := fold_keep (r := r) (lost (hOf W) (s : Nat))
        unfold putOff at k
        generalize (lost (hOf W) (s : Nat)).foldl off1 r = r1 at *
        simp
        rw [nat_int]
        generalize (lost (hOf W) (s : Nat)).map natI = cs at *
        obtain ⟨L, l0, ls, le, ll⟩ := grown (fun p => (age cs p).d) ps
        refine for_known (xs := ps.map Pl.d) (fun i ρ ω => ∃ s10 s12 s13, ρ = [.dat W.d, .dat r.d, .dat (plsD ps), .dat (.int s), .dat (bolD r.dr), .dat (bolD r.li), .dat (numD r1.va), .dat (numD r.sa), .dat (numD r1.te), .dat (.lst (cs.map D.int)), s10, .own 0, s12, s13, .any] ∧ ω = [.lst (L i)])
          (fun q h => by simpa [plsD] using h) ⟨_, _, _, rfl, by rw [l0]⟩ ?_ ?_
        · rintro i x ρ ω hx ⟨s10, s12, s13, rfl, rfl⟩
          obtain ⟨hi, rfl⟩ := map_get hx
          have e1 := ls i hi
          have e2 := ll i (by omega)
          have lt : i < sizeLine := by omega
          rcases hpo : ps[i].po with _ | ⟨c, v, o⟩
          · simp [Pl.d, hpo, pkd, e1, age, e2, lt]
          · by_cases hc : c ∈ cs <;> simp [Pl.d, hpo, pkd, e1, age, fls_ints, inV_ints, e2, hc, lt]
        · rintro ρ ω ⟨s10, s12, s13, rfl, rfl⟩
          rw [List.length_map, le]
          have e7 : (ps.map (age cs)).map Pl.d = ps.map fun p => (age cs p).d := by rw [List.map_map]; rfl
          unfold plsD at k
          rw [e7] at k
          simp [Row.d, bolD, numD, List.map_set, e1, e3] at k
          simp [bolD, numD]
          exact ⟨by omega, by omega, k⟩)
end
end K18

namespace K18
open PySem PySem.Spec PyProof.Rows L2
open DL
/-! ### what the hand does, as the law tells it -/
def isCellW (x : Str) : Prop := x = "save" ∨ x = "load"
def Word (x : Str) : Prop := isDoorW x ∨ isPartW x ∨ isCellW x
def RHanded : List D → (D → Prop) → Prop := fun xs q => ∃ (W : Wd) (r : Row) (ps : List Pl) (x nm : Str), xs = [W.d, r.d, plsD ps, .tup [.str x, .str nm]] ∧ WOk W ∧ RowOk (hOf W) r ∧ ps.length ≤ 20 ∧ Word x ∧ Has (hOf W) x nm ∧ q (deedD (hOf W) r ps x nm)
section
variable {P : Program} {w : World} {mg : Str → Option Value} {base : Heap} {G : DG} {f : Addr} {fd : FuncData}
theorem spot_doors {W : Wd} (ok : WOk W) {nm : Str} {q : D → Prop} (m : nm ∈ (hOf W).dn) (k : q (.int ((hOf W).dn.idxOf nm : Nat))) : RSpot [.lst (W.ds.map doorD), .str nm] q :=
  ⟨_, _, nm, rfl, by rw [dn_of, List.map_map, List.map_map]; rfl, fun r hr => by obtain ⟨d, _, rfl⟩ := List.mem_map.mp hr; exact ⟨_, rfl⟩, by rw [List.length_map]; have := ok.few; omega, m, k⟩
theorem spot_cells {W : Wd} (ok : WOk W) {nm : Str} {q : D → Prop} (m : nm ∈ (hOf W).cn) (k : q (.int ((hOf W).cn.idxOf nm : Nat))) : RSpot [.lst (W.cs.map cellD), .str nm] q :=
  ⟨_, _, nm, rfl, by rw [cn_of, List.map_map, List.map_map]; rfl, fun r hr => by obtain ⟨d, _, rfl⟩ := List.mem_map.mp hr; exact ⟨_, rfl⟩, by rw [List.length_map]; have := ok.few; omega, m, k⟩
theorem with_bol {l : List Bool} {n : Nat} {b : Bool} {q : D → Prop} (h : n < l.length) (few : l.length ≤ 1000) (k : q (bolD (l.set n b))) : RWith [bolD l, .int (n : Nat), .bl b] q := by
  unfold bolD at *
  rw [RWith_eq, List.length_map]
  exact ⟨h, few, by rw [bol_set]; exact k⟩
theorem with_num {l : List Int} {n : Nat} {b : Int} {q : D → Prop} (h : n < l.length) (few : l.length ≤ 1000) (k : q (numD (l.set n b))) : RWith [numD l, .int (n : Nat), .int b] q := by
  unfold numD at *
  rw [RWith_eq, List.length_map]
  exact ⟨h, few, by rw [num_set]; exact k⟩
theorem ix_bol {l : List Bool} {n : Nat} (h : n < l.length) : ixD (bolD l) (.int (n : Nat)) = some (.bl (atb l n)) := by
  unfold bolD
  rw [ixD_tup, atI_nat']
  exact bol_at h
theorem ix_num {l : List Int} {n : Nat} (h : n < l.length) : ixD (numD l) (.int (n : Nat)) = some (.int (at0 l n)) := by
  unfold numD
  rw [ixD_tup, atI_nat']
  exact num_get h
theorem index_strs {l : List Str} {x : Str} {q : D → Prop} (m : x ∈ l) (k : q (.int (l.idxOf x : Nat))) : RIndex (.lst (l.map D.str)) [.str x] q :=
  ⟨_, _, _, _, rfl, rfl, fls_strs _, rfl, by rw [find_str, List.length_map]; exact List.idxOf_lt_length_of_mem m, by rw [find_str]; exact k⟩
abbrev NHd : List Str := ["_law_world", "_law_row_here", "_law_places_here", "_law_order", "_law_word", "_law_name", "_law_cell", "_law_part", "_law_is_taken", "_law_behind", "_law_later", "_law_place"]
theorem scHd : FnScope NHd ["_law_world", "_law_row_here", "_law_places_here", "_law_order"] (defScope sHanded) := ⟨rfl, rfl, rfl, by decide +kernel, rfl, by decide +kernel, by decide +kernel⟩
theorem ok_handed (F : Fun G.K "_law_handed" "_law_handed" sHanded f fd) (B : Bl mg) (cWith : Callee P w G.K mg base "_law_with" 1 ["_law_items", "_law_at", "_law_value"] (spP G 3 RWith)) (cSpot : Callee P w G.K mg base "_law_spot" 1 ["_law_rows", "_law_name"] (spP G 2 RSpot))
    (cLoaded : Callee P w G.K mg base "_law_loaded" 2 ["_law_row_here", "_law_cell"] (spP G 2 RLoad)) (cOff : Callee P w G.K mg base "_law_off" 2 ["_law_world", "_law_row_here", "_law_places_here", "_law_part"] (spP G 4 ROff)) :
    FnOk P w G.K mg base CX0 3 f fd ["_law_world", "_law_row_here", "_law_places_here", "_law_order"] (spP G 4 RHanded) :=
  okP F scHd (fun O cdv A outer s H E hr => by
    have un := hr.units
    have hu := hu_of hr
    exact (ds_cons (ds_asg (dv 3) (pg_tup rfl (pgs_cons (pg_name (i := 4) scHd.nd rfl (Or.inl rfl)) (pgs_cons (pg_name (i := 5) scHd.nd rfl (Or.inl rfl)) pgs_nil))) (to_tup rfl (to_cons to_name (to_cons to_name to_nil))))
 (ds_cons (ds_if (d_tcmp op_in_seq abs_in (dv 4) (d_tup (da_cons d_str (da_cons d_str da_nil))) (by rfl))
 (ds_one (ds_ret (d_tup (da_cons (d_op op_addA abs_add (d_tup (da_cons (d_call cWith (hr.mono (by decide)) (by rfl) (da_cons (d_ix (dv 1) d_int) (da_cons (d_call cSpot (hr.mono (by decide)) (by rfl) (da_cons (d_dget hu (dv 0) d_str) (da_cons (dv 5) da_nil))) (da_cons (d_cmp (op_eqA un) abs_eq (dv 4) d_str (nomark _)) da_nil)))) da_nil)) (d_slice (dv 1) (dp_some d_int) dp_none)) (da_cons (dv 2) (da_cons d_non da_nil))))))
 ds_nil)
 (ds_cons (ds_if (d_tcmp op_in_seq abs_in (dv 4) (d_tup (da_cons d_str (da_cons d_str da_nil))) (by rfl))
 (ds_cons (ds_set (i := 6) scHd.nd rfl (Or.inl rfl) (d_call cSpot (hr.mono (by decide)) (by rfl) (da_cons (d_dget hu (dv 0) d_str) (da_cons (dv 5) da_nil))))
 (ds_cons (ds_if (d_tnot (d_tval (d_ix (d_ix (dv 1) d_int) (d_ix (d_ix (d_dget hu (dv 0) d_str) (dv 6)) d_int))))
 (ds_one (ds_ret (d_tup (da_cons (dv 1) (da_cons (dv 2) (da_cons d_non da_nil))))))
 ds_nil)
 (ds_cons (ds_if (d_tcmp (op_eqA un) abs_eq (dv 4) d_str (nomark _))
 (ds_one (ds_ret (d_tup (da_cons (d_call cLoaded (hr.mono (by decide)) (by rfl) (da_cons (dv 1) (da_cons (dv 6) da_nil))) (da_cons (dv 2) (da_cons d_non da_nil))))))
 ds_nil)
 (ds_one (ds_ret (d_tup (da_cons (d_op op_addA abs_add (d_slice (dv 1) dp_none (dp_some d_int)) (d_tup (da_cons (d_call cWith (hr.mono (by decide)) (by rfl) (da_cons (d_ix (dv 1) d_int) (da_cons (dv 6) (da_cons (d_ix (d_ix (dv 1) d_int) (dv 6)) da_nil)))) (da_cons (d_ix (dv 1) d_int) da_nil)))) (da_cons (dv 2) (da_cons d_non da_nil)))))))))
 ds_nil)
 (ds_cons (ds_set (i := 7) scHd.nd rfl (Or.inl rfl) (d_index (d_dget hu (dv 0) d_str) (da_cons (dv 5) da_nil)))
 (ds_cons (ds_set (i := 8) scHd.nd rfl (Or.inl rfl) (d_cmp op_in_seq abs_in (dv 7) (d_lc (own := [("_law_place", 11)]) rfl scHd.nd (di_seq (dv 2)) (blkOk_by (own := [("_law_place", 11)]) (N := NHd) (sc := defScope sHanded) (by decide +kernel)) (fun _ _ _ _ _ => (pg_name (i := 11) scHd.nd rfl (Or.inl rfl))) to_name (by decide) (fun _ _ _ _ _ => pts_nil) (fun _ _ _ => yes_ok) (fun _ _ _ _ _ => (d_ix (dv 11) d_int))) (by rfl)))
 (ds_cons (ds_if (d_tcmp (op_eqA un) abs_eq (dv 4) d_str (nomark _))
 (ds_one (ds_ret (d_if (d_tval (dv 8)) d_non (d_tup (da_cons (dv 1) (da_cons (dv 2) (da_cons d_non da_nil)))))))
 ds_nil)
 (ds_cons (ds_if (d_tcmp (op_eqA un) abs_eq (dv 4) d_str (nomark _))
 (ds_one (ds_ret (d_tup (da_cons (d_op op_addA abs_add (d_tup (da_cons (d_ix (dv 1) d_int) (da_cons (d_call cWith (hr.mono (by decide)) (by rfl) (da_cons (d_ix (dv 1) d_int) (da_cons (dv 7) (da_cons d_bl da_nil)))) da_nil))) (d_slice (dv 1) (dp_some d_int) dp_none)) (da_cons (dv 2) (da_cons d_non da_nil))))))
 ds_nil)
 (ds_cons (ds_if (d_tnot (d_tval (d_ix (d_ix (dv 1) d_int) (dv 7))))
 (ds_one (ds_ret (d_tup (da_cons (dv 1) (da_cons (dv 2) (da_cons d_non da_nil))))))
 ds_nil)
 (ds_cons (ds_if (d_tval (dv 8))
 (ds_one (ds_ret (d_tup (da_cons (dv 1) (da_cons (dv 2) (da_cons (d_tup (da_cons d_str (da_cons (dv 5) da_nil))) da_nil))))))
 ds_nil)
 (ds_cons (ds_asg (d_call cOff (hr.mono (by decide)) (by rfl) (da_cons (dv 0) (da_cons (dv 1) (da_cons (dv 2) (da_cons (dv 7) da_nil))))) (pg_tup rfl (pgs_cons (pg_name (i := 9) scHd.nd rfl (Or.inl rfl)) (pgs_cons (pg_name (i := 10) scHd.nd rfl (Or.inl rfl)) pgs_nil))) (to_tup rfl (to_cons to_name (to_cons to_name to_nil))))
 (ds_one (ds_ret (d_tup (da_cons (dv 9) (da_cons (dv 10) (da_cons d_non da_nil))))))))))))))))) (fun xs q l r => by
    obtain ⟨W, r, ps, x, nm, rfl, ok, ro, few, wd, hk, k⟩ := r
    have := line
    obtain ⟨f1, f2, f3⟩ := ok.few
    simp [Wd.d, look_cells, look_doors, look_parts, and_assoc]
    unfold deedD at k
    by_cases h1 : isDoorW x
    · have hm : nm ∈ (hOf W).dn := by unfold Has at hk; rw [if_pos h1] at hk; exact hk
      have en : numN (hOf W) x nm = (hOf W).dn.idxOf nm := if_pos h1
      have na : ¬ asks x := fun z => (asks_part z).1 h1
      have ch : change (hOf W) r x (numN (hOf W) x nm) = { r with dr := r.dr.set (numN (hOf W) x nm) (decide (x = "open")) } := if_pos h1
      rw [if_pos na, ch, en] at k
      have lt : (hOf W).dn.idxOf nm < r.dr.length := by rw [ro.dr]; exact List.idxOf_lt_length_of_mem hm
      have few2 : r.dr.length ≤ 1000 := by rw [ro.dr, dn_of, List.length_map]; omega
      exact .inr ⟨h1.imp Eq.symm Eq.symm, _, rfl, spot_doors ok hm (with_bol lt few2 ⟨_, rfl, _, rfl, le_line (show 5 ≤ 2000 by decide), k⟩)⟩
    · refine .inl ⟨fun z => h1 (.inl z.symm), fun z => h1 (.inr z.symm), ?_⟩
      by_cases h2 : isPartW x
      · have nc : ¬ isCellW x := fun z => by
          rcases z with rfl | rfl
          · exact absurd h2 (by decide +kernel)
          · exact absurd h2 (by decide +kernel)
        have hm : nm ∈ W.ps := by unfold Has at hk; rw [if_neg h1, if_pos h2] at hk; exact hk
        have en : numN (hOf W) x nm = W.ps.idxOf nm := by unfold numN; rw [if_neg h1, if_pos h2]; rfl
        rw [en] at k
        have lt : W.ps.idxOf nm < W.ps.length := List.idxOf_lt_length_of_mem hm
        have ltl : W.ps.idxOf nm < r.li.length := by rw [ro.li]; exact lt
        refine .inl ⟨fun z => nc (.inl z.symm), fun z => nc (.inr z.symm), index_strs hm ?_⟩
        generalize hn : W.ps.idxOf nm = n at *
        refine lc_map (xs := ps.map Pl.d) (fun d => (ixD d (.int 2)).getD .non) (fun q h => by simpa [plsD] using h) (by rw [List.length_map]; omega) (fun y hy => ?_) ?_
        · obtain ⟨p, _, rfl⟩ := List.mem_map.mp hy
          refine ⟨_, rfl, fun acc q' hq => ?_⟩
          simpa [Pl.d] using hq
        have ew : ((ps.map Pl.d).map fun d => (ixD d (.int 2)).getD .non) = (ps.map Pl.wh).map D.int := by
          rw [List.map_map, List.map_map]
          rfl
        rw [ew]
        refine ⟨_, rfl, _, rfl, _, fls_ints _, ?_⟩
        rw [inV_ints]
        have et : decide ((n : Int) ∈ ps.map Pl.wh) = decide (taken ps n) := rfl
        rw [et]
        by_cases hd : x = "drain"
        · have as_ : asks x := .inl hd
          rw [if_neg (not_not_intro as_), if_pos hd] at k
          refine .inr ⟨hd, ?_⟩
          by_cases ht : taken ps n
          · rw [if_pos ht] at k
            exact .inr ⟨decide_eq_true ht, k⟩
          · rw [if_neg ht] at k
            exact .inl ⟨decide_eq_false ht, k⟩
        · refine .inl ⟨hd, ?_⟩
          by_cases ho : x = "on"
          · have na : ¬ asks x := fun z => z.elim hd fun y => by rw [ho] at y; revert y; decide +kernel
            have ch : change (hOf W) r x n = { r with li := r.li.set n true } := by unfold change; rw [if_neg h1, if_pos ho]
            rw [if_pos na, ch] at k
            exact .inr ⟨ho, _, rfl, with_bol ltl (by rw [ro.li]; show W.ps.length ≤ 1000; omega) ⟨_, rfl, _, rfl, le_line (show 5 ≤ 2000 by decide), k⟩⟩
          · have as_ : asks x := .inr (h2.elim (fun y => (hd y).elim) fun y => y.elim id fun y => (ho y).elim)
            rw [if_neg (not_not_intro as_), if_neg hd] at k
            refine .inl ⟨ho, _, ix_bol ltl, ?_⟩
            cases hb : atb r.li n with
            | false =>
              rw [if_pos hb] at k
              exact .inl ⟨rfl, k⟩
            | true =>
              rw [if_neg (by rw [hb]; decide)] at k
              refine .inr ⟨rfl, ?_⟩
              by_cases ht : taken ps n
              · rw [if_pos ht] at k
                exact .inr ⟨decide_eq_true ht, k⟩
              · rw [if_neg ht] at k
                exact .inl ⟨decide_eq_false ht, W, r, ps, n, rfl, ok, ro, few, lt, _, rfl, _, rfl, _, rfl, k⟩
      · have h3 : isCellW x := wd.elim (fun y => (h1 y).elim) fun y => y.elim (fun y => (h2 y).elim) id
        have hm : nm ∈ (hOf W).cn := by unfold Has at hk; rw [if_neg h1, if_neg h2] at hk; exact hk
        have en : numN (hOf W) x nm = (hOf W).cn.idxOf nm := by unfold numN; rw [if_neg h1, if_neg h2]
        have na : ¬ asks x := fun z => h2 (asks_part z).2
        rw [if_pos na, en] at k
        have lt : (hOf W).cn.idxOf nm < (hOf W).cn.length := List.idxOf_lt_length_of_mem hm
        generalize hn : (hOf W).cn.idxOf nm = n at *
        have lt2 : n < W.cs.length := by rw [cn_of, List.length_map] at lt; exact lt
        have hc : (W.cs.map cellD)[n]? = some (cellD W.cs[n]) := by rw [List.getElem?_map, List.getElem?_eq_getElem lt2]; rfl
        have hp := ok.c _ (List.getElem_mem lt2)
        have ecp : (at0 (hOf W).cp n).toNat = W.cs[n].2.1 := by
          rw [cp_of ok]
          unfold at0
          rw [List.getD_eq_getElem?_getD, List.getElem?_map, List.getElem?_eq_getElem lt2]
          rfl
        have ltl : W.cs[n].2.1 < r.li.length := by rw [ro.li]; exact hp
        have no : ¬ x = "on" := fun z => h2 (.inr (.inr z))
        unfold change at k
        rw [if_neg h1, if_neg no, ecp] at k
        have hva : n < r.va.length := by rw [ro.va]; exact lt
        have hsa : n < r.sa.length := by rw [ro.sa]; exact lt
        refine .inr ⟨h3.imp Eq.symm Eq.symm, spot_cells ok hm ?_⟩
        rw [hn]
        refine ⟨_, by rw [ixD_lst, atI_nat']; exact hc, _, rfl, _, ix_bol ltl, ?_⟩
        cases hb : atb r.li W.cs[n].2.1 with
        | false =>
          rw [if_pos hb] at k
          exact .inl ⟨rfl, k⟩
        | true =>
          rw [if_neg (by rw [hb]; decide)] at k
          refine .inr ⟨rfl, ?_⟩
          by_cases hs : x = "save"
          · have nl : ¬ x = "load" := fun z => by rw [hs] at z; revert z; decide +kernel
            rw [if_pos hs] at k
            exact .inl ⟨nl, _, rfl, _, rfl, _, rfl, _, ix_num hva, with_num hsa (by rw [ro.sa, cn_of, List.length_map]; omega) ⟨_, rfl, _, rfl, le_line (show 5 ≤ 2000 by decide), k⟩⟩
          · rw [if_neg hs] at k
            exact .inr ⟨h3.elim (fun z => (hs z).elim) id, RLoad_of ro (by rw [cn_of, List.length_map]; omega) lt k⟩)
end
end K18

/-! tuple * 0 and tuple * 1 -/
namespace EnuT
open PySem PySem.Spec PyProof.Rows L2
theorem mul_zero (l : Addr) (items : Array Value) (n : Nat) (dd : Option Addr) (sl : Array (Option Value)) (u : Tok) (ne : items.isEmpty = false) :
    Meets (Builtin.«tuple.__mul__» ⟨[.ref l, .int 0 u], []⟩) (fun _ R s => s.heap.get? l = some { cls := .type "tuple", dict := dd, data := .seq items n, slots := sl } ∧
      R (.ok (.ret (.ref s.heap.objs.size))) { s with heap := s.heap.push { cls := .type "tuple", data := .seq #[] } }) :=
  .of_wp fun prog w A R s h => by
    obtain ⟨hp, g, d, tk, os⟩ := s
    obtain ⟨h1, h⟩ := h
    have e1 : (items.isEmpty || (0 : Int) == 1) = false := by rw [ne]; rfl
    wp_walk using e1
    exact ⟨_, rfl, h⟩
theorem mul_one (l : Addr) (items : Array Value) (n : Nat) (dd : Option Addr) (sl : Array (Option Value)) (u : Tok) (ne : items.isEmpty = false) :
    Meets (Builtin.«tuple.__mul__» ⟨[.ref l, .int 1 u], []⟩) (fun _ R s => s.heap.get? l = some { cls := .type "tuple", dict := dd, data := .seq items n, slots := sl } ∧
      R (.ok (.ret (.ref l))) s) :=
  .of_wp fun prog w A R s h => by
    obtain ⟨hp, g, d, tk, os⟩ := s
    obtain ⟨h1, h⟩ := h
    have e1 : (items.isEmpty || (1 : Int) == 1) = true := by rw [ne]; rfl
    wp_walk using e1
    exact ⟨_, rfl, h⟩
def TupA (H : Hp) (v : V) (xs : List V) : Prop := ∃ a, v = .ref a ∧ H a = some (.tup xs)
/-- tuple * k, from k = 0 on -/
def rRepA : R2 := fun x y H Q => ∃ l k xs, x = .ref l ∧ y = .int k ∧ H l = some (.tup xs) ∧ xs ≠ [] ∧ 0 ≤ k ∧ k ≤ 1000 ∧ xs.length ≤ 1000 ∧
  ∀ v H', Same H H' → TupA H' v (List.replicate k.toNat xs).flatten → Q v H'
theorem same_new {H : Hp} {l : Addr} {o : HO} (n : H l = none) : Same H (upd H l o) := fun b u e => by
  rw [upd_ne (ne_of_none e n)]
  exact e
theorem rep_small {X : Cx} {pins : List (Addr × Obj)} {σ : L2.St} {H : Hp} {s : Shared} {l : Addr} {xs : List V} {Q : VK} {t : Tok} {k : Int} (I : L2.Inv X pins σ H s) (hT : H l = some (.tup xs)) (hne : xs ≠ []) (hk : k = 0 ∨ k = 1)
    (q : ∀ v H', Same H H' → TupA H' v (List.replicate k.toNat xs).flatten → Q v H') : wpAny (model X.prog X.w) X.A (binaryOp .Mult (.ref l) (.int k t)) (EP X pins σ Q) X.xe s := by
  obtain ⟨its, r, ⟨⟨cls, dd, data, sl⟩, ho, hc, n, hd⟩, hz⟩ := I.tuple (SqT.of hT)
  simp only at hc hd
  subst hc hd
  have ty : s.TypeIs (.ref l) "tuple" := ⟨_, ho, rfl⟩
  have emp : its.toArray.isEmpty = false := by
    cases its with
    | nil => cases r; exact (hne rfl).elim
    | cons _ _ => rfl
  refine wpAny_binaryOp_repeat_ref (T := "tuple") (U := "int") (by decide) ty (fun s' => typeIs_int s' _ _) noFill_tuple_mul PySem.F.fills_int_mul PySem.F.slot_int_rmul repeat_tuple PySem.F.slot_int_index.lookup ?_
  refine call_meets PySem.F.slot_int_rmul (typeIs_int _ _ _) PySem.F.entry_int_rmul (PySem.F.args_int_rmul_2 _ _) (int_rmul_tuple k t l its.toArray n dd sl) ⟨ho, ?_⟩
  refine ⟨rfl, ty, ?_⟩
  rcases hk with rfl | rfl
  · refine call_meets PySem.F.slot_tuple_mul ty PySem.F.entry_tuple_mul (PySem.F.args_tuple_mul_2 _ _) (mul_zero l its.toArray n dd sl t emp) ⟨ho, ?_⟩
    have new : ObjOk X.prog X.w (upd H s.heap.objs.size (.tup [])) (s.heap.push { cls := .type "tuple", data := .seq #[] }) s.heap.objs.size (.tup []) := ⟨by show 0 ≤ sizeLine; decide, [], .nil, IsTup.new _ _⟩
    refine ⟨.ref s.heap.objs.size, _, I.laid (fun b u e => Heap.get?_push_of_some _ e) (Nat.le_refl _) new, rfl, q _ _ (same_new (I.hok.fresh (Nat.le_refl _))) ⟨_, rfl, upd_same⟩⟩
  · refine call_meets PySem.F.slot_tuple_mul ty PySem.F.entry_tuple_mul (PySem.F.args_tuple_mul_2 _ _) (mul_one l its.toArray n dd sl t emp) ⟨ho, ?_⟩
    refine ⟨.ref l, H, I, rfl, q _ _ (Same.refl _) ⟨l, rfl, ?_⟩⟩
    rw [hT]
    simp
theorem op_repA {X : Cx} : OpR X (binaryOp .Mult) rRepA := by
  intro pins s σ H x y v u Q I rx ry h
  obtain ⟨l, k, xs, rfl, rfl, hT, hne, k0, k1, lx, q⟩ := h
  obtain rfl : v = Value.ref l := rx
  obtain ⟨t, rfl⟩ := ry
  rcases (by omega : k = 0 ∨ k = 1 ∨ 2 ≤ k) with z | z | z
  · exact rep_small I hT hne (.inl z) q
  · exact rep_small I hT hne (.inr z) q
  · exact op_repT pins s σ H (.ref l) (.int k) _ _ Q I rfl ⟨t, rfl⟩ ⟨l, k, xs, rfl, rfl, SqT.of hT, hne, z, k1, lx, fun p hp => q _ _ (same_new hp) ⟨p, rfl, upd_same⟩⟩
end EnuT

namespace K18
open PySem PySem.Spec PyProof.Rows L2
open Cal EnuT
open DL (Callee pe_callee Deal)
/-- all but the deal is as it was -/
def But2 (p q : Addr) (H H' : Hp) : Prop := ∀ b o, b ≠ p → b ≠ q → H b = some o → H' b = some o
theorem deal_same {H H' : Hp} {p q : Addr} (d : Deal H p q) (s : Same H H') : Deal H' p q := by
  obtain ⟨ne, ns, b, hp, hq, r⟩ := d
  exact ⟨ne, ns, b, s _ _ hp, s _ _ hq, r⟩
theorem But2.same {p q : Addr} {H0 H H' : Hp} (b : But2 p q H0 H) (s : Same H H') : But2 p q H0 H' := fun c o n1 n2 e => s _ _ (b c o n1 n2 e)
theorem But2.trans {p q : Addr} {H0 H H' : Hp} (b : But2 p q H0 H) (s : But2 p q H H') : But2 p q H0 H' := fun c o n1 n2 e => s _ _ n1 n2 (b c o n1 n2 e)
theorem But2.upd1 {p q : Addr} {H0 H : Hp} {o : HO} (b : But2 p q H0 H) : But2 p q H0 (upd H p o) := fun c u n1 n2 e => by
  rw [upd_ne n1]
  exact b c u n1 n2 e
theorem But2.upd2 {p q : Addr} {H0 H : Hp} {o : HO} (b : But2 p q H0 H) : But2 p q H0 (upd H q o) := fun c u n1 n2 e => by
  rw [upd_ne n2]
  exact b c u n1 n2 e
def spAny : Sp := fun vs H Q _ => ∃ (p q : Addr) (m : Int), vs = [.ref p, .int m] ∧ Deal H p q ∧ 1 ≤ m ∧ m ≤ 1000 ∧ ∀ (r : Int) H', 0 ≤ r → r < m → But2 p q H H' → Deal H' p q → Q (.int r) H'
def spOf : Sp := fun vs H Q _ => ∃ (p q l : Addr) (xs : List V), vs = [.ref p, .ref l] ∧ Deal H p q ∧ l ≠ p ∧ l ≠ q ∧ H l = some (.lst xs) ∧ 1 ≤ xs.length ∧ xs.length ≤ 1000 ∧ ∀ x H', x ∈ xs → But2 p q H H' → Deal H' p q → Q x H'
/-- no number here is 0 at its end -/
theorem dps_int {K : W.Frag} {H : Hp} : ∀ xs : List Int, DpAll K H (xs.map V.int) (xs.map PyData.int)
  | [] => .nil
  | _ :: xs => .cons (.int _) (dps_int xs)
theorem shaped_ints (xs : List Int) : SeqAt.shaped (.list (xs.map PyData.int)) = true := by
  have h : PyData.canLayAll0 (xs.map PyData.int) = true ∧ PyData.depthAll (xs.map PyData.int) ≤ 1 := by
    induction xs with
    | nil => simp [PyData.canLayAll0, PyData.depthAll]
    | cons x xs ih =>
      simp [PyData.canLayAll0, PyData.canLay0, PyData.depthAll, PyData.depth, ih.1]
      omega
  simp [SeqAt.shaped, PyData.canLay0, PyData.depth, h.1]
  omega
theorem ne_nil (xs : List Int) : (!PyData.eqv (.list (xs.map PyData.int)) (.list [])) = !xs.isEmpty := by cases xs <;> rfl
def lenAt (a : Addr) (H : Hp) : Nat := match H a with
  | some (.lst xs) => xs.length
  | _ => 0
theorem while_by2 {c : TT} {tb : TS} {D : Ends} {σ : L2.St} {H : Hp} (Pv : L2.St → Hp → Prop) (μ : L2.St → Hp → Nat) (h0 : Pv σ H)
    (hs : ∀ σ H, Pv σ H → c σ H fun b H1 => if b = true then tb { nx := fun σ' H' => Pv σ' H' ∧ μ σ' H' < μ σ H, rt := D.rt, bk := D.nx, ct := fun σ' H' => Pv σ' H' ∧ μ σ' H' < μ σ H } σ H1 else Pv σ H1)
    (mono : ∀ σ H (Q Q' : Bool → Hp → Prop), (∀ b H1, Q b H1 → Q' b H1) → c σ H Q → c σ H Q') (hd : ∀ σ H, Pv σ H → D.nx σ H) : tWhile c tb D σ H := by
  refine while_by Pv μ h0 (fun σ H p => mono σ H _ _ (fun b H1 q => ?_) (hs σ H p)) mono
  cases b with
  | true => exact q
  | false => exact hd _ _ q
section
variable {P : Program} {w : World} {K : W.Frag} {mg : Str → Option Value} {base : Heap}
theorem scAny : FnScope ["_law_deal", "_law_bound", "_law_rest"] ["_law_deal", "_law_bound"] (defScope sAny) := ⟨rfl, rfl, rfl, by decide +kernel, rfl, by decide +kernel, by decide +kernel⟩
theorem ok_any {f : Addr} {fd : FuncData} (F : Fun K "_law_any" "_law_any" sAny f fd) (B : Bl mg) : FnOk P w K mg base CX0 1 f fd ["_law_deal", "_law_bound"] spAny := by
  refine F.ok scAny (fun vs H Q E h => ?_) (fun cdv A outer s H vs Q E hr h => ?_)
  · obtain ⟨p, q, m, rfl, _⟩ := h
    rfl
  · obtain ⟨p, q, m, rfl, dl, m1, m2, k⟩ := h
    have un := hr.units
    refine ⟨_, pss_cons (ps_while PassesOwn.never (PW.pt (pw_and (pt_cmpR (op_neD un) (pe_ix ix_list (pv 0) pe_int (fun _ _ => rfl)) (pe_lst pa_nil) (nomark _)) (pw_and1 (pt_cmpR op_eq (pe_ix ix_list (pe_ix ix_list (pv 0) pe_int (fun _ _ => rfl)) (pe_un un_neg pe_int) (fun _ _ => rfl)) pe_int (nomark _)))))
        (pss_one (ps_expr (pe_bm0 PySem.F.plainAttrs_list PySem.F.slot_list_pop PySem.F.type_list_pop mt_pop (pe_ix ix_list (pv 0) pe_int (fun _ _ => rfl))))))
      (pss_cons (ps_if (pt_cmpR (op_neD un) (pe_ix ix_list (pv 0) pe_int (fun _ _ => rfl)) (pe_lst pa_nil) (nomark _))
        (pss_cons (ps_set (i := 2) scAny.nd rfl (Or.inl rfl) (pe_callTy call_int1 (by rfl) B.int (by decide +kernel) (pa_cons (pe_bm0 PySem.F.plainAttrs_list PySem.F.slot_list_pop PySem.F.type_list_pop mt_pop (pe_ix ix_list (pv 0) pe_int (fun _ _ => rfl))) pa_nil)))
        (pss_cons (ps_expr (pe_bm PySem.F.plainAttrs_list PySem.F.slot_list_append PySem.F.type_list_append mt_append (pe_ix ix_list (pv 0) pe_int (fun _ _ => rfl)) (pa_cons (pe_op op_fdiv (pv 2) (pv 1)) pa_nil)))
        (pss_one (ps_ret (pe_op op_mod (pv 2) (pv 1)))))) pss_nil)
      (pss_cons (ps_asg (pe_op op_mod (pe_callTy call_int1 (by rfl) B.int (by decide +kernel) (pa_cons (pe_op op_add (pe_op op_mul (pe_ix ix_list (pv 0) pe_int (fun _ _ => rfl)) pe_int) pe_int) pa_nil)) pe_int) (pg_sub (pv 0) pe_int set_list))
      (pss_one (ps_ret (pe_op op_mod (pe_callTy call_int1 (by rfl) B.int (by decide +kernel) (pa_cons (pe_op op_fdiv (pe_ix ix_list (pv 0) pe_int (fun _ _ => rfl)) pe_int) pa_nil)) (pv 1)))))), ?_⟩
    obtain ⟨pq, ns, b, hp, hq, pos, few, b0⟩ : p ≠ q ∧ _ := ⟨dl.ne, dl.ex⟩
    refine while_by2 (fun σ H' => σ = [some (.ref p), some (.int m), none] ∧ But2 p q H H' ∧ Deal H' p q) (fun _ H' => lenAt q H') ⟨rfl, fun _ _ _ _ e => e, dl⟩ ?_ ?_ ?_
    · rintro σ H1 ⟨rfl, b1, pq, ns, b, hp, hq, pos, few, b0⟩
      refine ⟨_, rfl, p, _, _, .ref q, rfl, rfl, SqL.of hp, atI_nat (j := 0) rfl, Nat.zero_le _, fun l nl => ?_⟩
      have s1 : Same H1 (upd H1 l (.lst [])) := same_upd nl
      refine ⟨.list (ns.map PyData.int), .list [], .lst (SqL.of (s1 _ _ hq)) (dps_int ns), .lst (SqL.of upd_same) .nil, shaped_ints ns, rfl, _, rfl, ?_⟩
      rcases List.eq_nil_or_concat ns with rfl | ⟨ms, z, rfl⟩
      · exact iteF ⟨rfl, b1.same s1, pq, [], b, s1 _ _ hp, s1 _ _ hq, pos, few, b0⟩
      · rw [show (!PyData.eqv (.list ((ms.concat z).map PyData.int)) (.list [])) = true by rw [ne_nil]; cases ms <;> rfl]
        have hq' : upd H1 l (.lst []) q = some (.lst (ms.map V.int ++ [.int z])) := by
          rw [s1 _ _ hq, List.concat_eq_append, List.map_append]
          rfl
        refine iteT ⟨_, rfl, p, _, _, .ref q, rfl, rfl, SqL.of (s1 _ _ hp), atI_nat (j := 0) rfl, 1, rfl, q, _, _, .int z, rfl, rfl, SqL.of hq', atI_last _ _, rfl, _, rfl, ?_⟩
        refine ite2 (fun hz => ?_) (fun hz => ?_)
        · refine ⟨_, rfl, p, _, _, .ref q, rfl, rfl, SqL.of (s1 _ _ hp), atI_nat (j := 0) rfl, .inl ⟨rfl, _, SqL.of hq'⟩, q, _, .int z, rfl, rfl, hq', by simp, ?_⟩
          rw [List.dropLast_concat]
          refine ⟨⟨rfl, (b1.same s1).upd2, pq, ms, b, (upd_ne pq).trans (s1 _ _ hp), upd_same, fun n hn => pos n (by simp [hn]), by simp at few; omega, b0⟩, ?_⟩
          show lenAt q _ < lenAt q H1
          have e1 : lenAt q H1 = ms.length + 1 := by
            unfold lenAt
            rw [hq]
            simp
          rw [e1]
          unfold lenAt
          rw [upd_same]
          simp
        · exact ⟨rfl, b1.same s1, pq, ms.concat z, b, s1 _ _ hp, s1 _ _ hq, pos, few, b0⟩
    · rintro σ H1 Q1 Q2 m ⟨v0, hv0, p1, xs1, i1, v1, e1, e2, sq1, at1, zl, h2⟩
      refine ⟨v0, hv0, p1, xs1, i1, v1, e1, e2, sq1, at1, zl, fun l nl => ?_⟩
      obtain ⟨d, e, a1, a2, a3, a4, c, hc, q⟩ := h2 l nl
      refine ⟨d, e, a1, a2, a3, a4, c, hc, ?_⟩
      revert q
      cases c with
      | false => exact fun q => iteF (m _ _ q)
      | true =>
        intro q
        obtain ⟨v2, hv2, p2, xs2, i2, v3, e3, e4, sq2, at2, j, ej, p3, xs3, i3, v4, e5, e6, sq3, at3, hsc, c2, hc2, q⟩ := q
        exact iteT ⟨v2, hv2, p2, xs2, i2, v3, e3, e4, sq2, at2, j, ej, p3, xs3, i3, v4, e5, e6, sq3, at3, hsc, c2, hc2, m _ _ q⟩
    · rintro σ H1 ⟨rfl, b1, pq, ns, b, hp, hq, pos, few, b0⟩
      refine ⟨_, rfl, p, _, _, .ref q, rfl, rfl, SqL.of hp, atI_nat (j := 0) rfl, Nat.zero_le _, fun l nl => ?_⟩
      have s1 : Same H1 (upd H1 l (.lst [])) := same_upd nl
      refine ⟨.list (ns.map PyData.int), .list [], .lst (SqL.of (s1 _ _ hq)) (dps_int ns), .lst (SqL.of upd_same) .nil, shaped_ints ns, rfl, _, rfl, ?_⟩
      rcases List.eq_nil_or_concat ns with rfl | ⟨ms, z, rfl⟩
      · refine iteF ?_
        have hp1 := s1 _ _ hp
        refine ⟨_, rfl, p, _, _, .int b, rfl, rfl, SqL.of hp1, atI_nat (j := 1) rfl, _, _, rfl, rfl, .inr ⟨by decide, by decide⟩, _, _, rfl, rfl, .inl ⟨_, rfl, _, _, rfl, rfl, by show (0 : Int) < 2147483647; decide, ?_⟩⟩
        refine ⟨_, rfl, p, _, _, 1, rfl, rfl, hp1, rfl, ?_⟩
        refine ⟨_, rfl, p, _, _, .int _, rfl, rfl, SqL.of upd_same, atI_nat (j := 1) rfl, _, _, rfl, rfl, ⟨by decide, by decide⟩, .inl ⟨_, rfl, _, rfl, _, _, rfl, rfl, by show 0 < m; omega, ?_⟩⟩
        refine k _ _ (Int.emod_nonneg _ (by omega)) (Int.emod_lt_of_pos _ (by omega)) (b1.same s1).upd1 ⟨pq, [], _, upd_same, ?_, fun _ z => (nomatch z), by decide, ?_⟩
        · rw [upd_ne (Ne.symm pq)]
          exact s1 _ _ hq
        · exact Int.emod_nonneg _ (by decide)
      · rw [show (!PyData.eqv (.list ((ms.concat z).map PyData.int)) (.list [])) = true by rw [ne_nil]; cases ms <;> rfl]
        have hq' : upd H1 l (.lst []) q = some (.lst (ms.map V.int ++ [.int z])) := by
          rw [s1 _ _ hq, List.concat_eq_append, List.map_append]
          rfl
        have hp1 := s1 _ _ hp
        have z0 : 0 ≤ z := pos z (by simp)
        refine iteT ⟨_, rfl, p, _, _, .ref q, rfl, rfl, SqL.of hp1, atI_nat (j := 0) rfl, .inl ⟨rfl, _, SqL.of hq'⟩, q, _, .int z, rfl, rfl, hq', by simp, ?_⟩
        rw [List.dropLast_concat]
        have hp2 : upd (upd H1 l (.lst [])) q (.lst (ms.map V.int)) p = some (.lst [.ref q, .int b]) := (upd_ne pq).trans hp1
        refine .inl ⟨_, rfl, _, rfl, p, _, _, .ref q, rfl, rfl, SqL.of hp2, atI_nat (j := 0) rfl, .inl ⟨rfl, _, SqL.of upd_same⟩, _, rfl, _, rfl, _, _, rfl, rfl, ⟨by show 0 < m; omega, by show m < 1073741824; omega⟩, q, _, _, rfl, rfl, upd_same, ?_, ?_⟩
        · have : (100 : Nat) ≤ sizeLine := by decide
          rw [List.length_map]
          simp at few
          omega
        · refine ⟨_, rfl, _, rfl, _, _, rfl, rfl, by show 0 < m; omega, ?_⟩
          refine k _ _ (Int.emod_nonneg _ (by omega)) (Int.emod_lt_of_pos _ (by omega)) (b1.same s1).upd2.upd2 ⟨pq, ms ++ [z / m], b, (upd_ne pq).trans hp2, ?_, ?_, ?_, b0⟩
          · rw [upd_same, List.map_append]
            rfl
          · intro n hn
            rcases List.mem_append.mp hn with y | y
            · exact pos n (by simp [y])
            · obtain rfl := List.mem_singleton.mp y
              exact Int.ediv_nonneg z0 (by omega)
          · simp at few ⊢
            omega
theorem scOf : FnScope ["_law_deal", "_law_some"] ["_law_deal", "_law_some"] (defScope sOf) := ⟨rfl, rfl, rfl, by decide +kernel, rfl, by decide +kernel, by decide +kernel⟩
theorem ok_of {f : Addr} {fd : FuncData} (F : Fun K "_law_of" "_law_of" sOf f fd) (B : Bl mg) (An : Callee P w K mg base "_law_any" 1 ["_law_deal", "_law_bound"] spAny) : FnOk P w K mg base CX0 2 f fd ["_law_deal", "_law_some"] spOf := by
  refine F.ok scOf (fun vs H Q E h => ?_) (fun cdv A outer s H vs Q E hr h => ?_)
  · obtain ⟨p, q, l, xs, rfl, _⟩ := h
    rfl
  · obtain ⟨p, q, l, xs, rfl, dl, lp, lq, hl, l1, l2, k⟩ := h
    refine ⟨_, pss_one (ps_ret (pe_ix ix_list (pv 1) (pe_callee An hr rfl (pa_cons (pv 0) (pa_cons (pe_callB call_len_seq (by rfl) B.len PySem.boot_len (pa_cons (pv 1) pa_nil)) pa_nil))) (fun _ _ => rfl))), ?_⟩
    refine ⟨_, rfl, _, rfl, _, rfl, l, _, rfl, .inl (SqL.of hl), p, q, _, rfl, dl, by omega, by omega, fun r H' r0 r1 but dl' => ?_⟩
    obtain ⟨j, rfl⟩ : ∃ j : Nat, r = (j : Int) := ⟨r.toNat, by omega⟩
    have hj : j < xs.length := by omega
    exact ⟨l, xs, _, xs[j], rfl, rfl, SqL.of (but _ _ lp lq hl), atI_nat (by simp [hj]), k _ _ (List.getElem_mem hj) but dl'⟩
end
end K18

namespace K18
open PySem PySem.Spec PyProof.Rows L2
open Cal EnuT
open DL (Callee pe_callee Deal)
def spDealt (K : W.Frag) : Sp := fun vs H Q _ => ∃ (a : Addr) (ns : List Int), vs = [.ref a, .int 18] ∧ SqL K H a (ns.map V.int) ∧ ns.length ≤ 63 ∧ ∀ H' p q, Same H H' → H p = none → H q = none → Deal H' p q → Q (.ref p) H'
/-- the numbers that count, as they are, and the great ones -/
def great (ns : List Int) : List Int := ns.filter fun n => decide ((10 : Int) ^ (18 : Int).toNat ≤ n)
theorem cut_most (xs : List V) : (cutV xs none (some 48)).length ≤ 48 ∧ ∀ x, x ∈ cutV xs none (some 48) → x ∈ xs := by
  refine ⟨?_, fun x hx => List.mem_of_mem_drop (List.mem_of_mem_take hx)⟩
  unfold cutV HT.sIx
  simp only []
  rw [if_neg (by decide), List.length_take]
  have : min (48 : Int).toNat xs.length ≤ 48 := Nat.min_le_left _ _
  omega
section
variable {P : Program} {w : World} {K : W.Frag} {mg : Str → Option Value} {base : Heap}
theorem scDt : FnScope ["_law_script", "_law_base", "_law_cell", "_law_cells", "_law_blend"] ["_law_script", "_law_base"] (defScope sDealt) := ⟨rfl, rfl, rfl, by decide +kernel, rfl, by decide +kernel, by decide +kernel⟩
theorem ok_dealt {f : Addr} {fd : FuncData} (F : Fun K "_law_dealt" "_law_dealt" sDealt f fd) (B : Bl mg) : FnOk P w K mg base CX0 1 f fd ["_law_script", "_law_base"] (spDealt K) := by
  refine F.ok scDt (fun vs H Q E h => ?_) (fun cdv A outer s H vs Q E hr h => ?_)
  · obtain ⟨a, ns, rfl, _⟩ := h
    rfl
  · obtain ⟨a, ns, rfl, sq, few, k⟩ := h
    refine ⟨_, pss_cons (ps_setLc (i := 3) (own := [("_law_cell", 2)]) (g := gName 2) (tt := tYes) (by rfl) scDt.nd rfl rfl (sw_true rfl rfl rfl (by decide +kernel)) (pi_list (pe_slice sl_list (pv 0) po_none (po_some pe_int)))
        (blkOk_by (own := [("_law_cell", 2)]) (N := ["_law_script", "_law_base", "_law_cell", "_law_cells", "_law_blend"]) (sc := defScope sDealt) (by decide +kernel))
        (fun _ _ _ _ _ => pg_name (i := 2) scDt.nd rfl (Or.inl rfl)) (fun _ _ _ _ _ => pts_nil)
        (fun _ _ _ _ _ => pe_callB call_abs (by rfl) B.abs (by decide +kernel) (pa_cons (pe_callTy call_int1 (by rfl) B.int (by decide +kernel) (pa_cons (pv 2) pa_nil)) pa_nil)))
      (pss_cons (ps_set (i := 4) scDt.nd rfl (Or.inl rfl) (pe_op op_add pe_int (pe_op op_mul pe_int (pv 1))))
      (pss_cons (ps_for PassesOwn.never rfl (pi_list (pv 3)) (pg_name (i := 2) scDt.nd rfl (Or.inl rfl))
        (pss_one (ps_set (i := 4) scDt.nd rfl (Or.inl rfl) (pe_op op_mod (pe_callTy call_int1 (by rfl) B.int (by decide +kernel) (pa_cons (pe_op op_add (pe_op op_add (pe_op op_mul (pv 4) pe_int) (pe_op op_mod (pv 2) pe_int)) pe_int) pa_nil)) pe_int))))
      (pss_one (ps_ret (pe_lst (pa_cons (pe_revL (pe_lc (own := [("_law_cell", 2)]) (g := gName 2) (by rfl) scDt.nd (pi_list (pv 3))
        (blkOk_by (own := [("_law_cell", 2)]) (N := ["_law_script", "_law_base", "_law_cell", "_law_cells", "_law_blend"]) (sc := defScope sDealt) (by decide +kernel))
        (fun _ _ _ _ _ => pg_name (i := 2) scDt.nd rfl (Or.inl rfl)) (fun _ _ _ _ _ => pts_one (pt_cmpR op_ge (pv 2) (pe_op op_pow pe_int pe_int) (nomark _)))
        (fun _ _ _ _ _ => pv 2))) (pa_cons (pv 4) pa_nil))))))), ?_⟩
    refine ⟨_, rfl, _, rfl, a, _, rfl, sq, fun l nl => ?_⟩
    obtain ⟨cs, hcs, c48⟩ : ∃ cs : List Int, cutV (ns.map V.int) none (some 48) = cs.map V.int ∧ cs.length ≤ 48 := by
      obtain ⟨l48, mem⟩ := cut_most (ns.map V.int)
      have all : ∀ xs : List V, (∀ x, x ∈ xs → x ∈ ns.map V.int) → ∃ cs : List Int, xs = cs.map V.int := by
        intro xs
        induction xs with
        | nil => exact fun _ => ⟨[], rfl⟩
        | cons x xs ih =>
          intro h
          obtain ⟨cs, rfl⟩ := ih fun y hy => h y (List.mem_cons_of_mem _ hy)
          obtain ⟨n, _, rfl⟩ := List.mem_map.mp (h x (List.mem_cons_self ..))
          exact ⟨n :: cs, rfl⟩
      obtain ⟨cs, e⟩ := all _ mem
      rw [e, List.length_map] at l48
      exact ⟨cs, e, l48⟩
    rw [hcs]
    have s0 := same_upd (o := .lst (cs.map V.int)) nl
    have line : (100 : Nat) ≤ sizeLine := by decide
    refine ⟨l, rfl, ⟨_, SqL.of upd_same⟩, fun D nD => ?_⟩
    obtain ⟨nD0, lD⟩ := none_of_upd nD
    refine lc_list (xs := cs.map V.int) (fun i H' => Same (upd H l (.lst (cs.map V.int))) H' ∧ ∃ ds : List Int, H' D = some (.lst (ds.map V.int)) ∧ ds.length = i ∧ ∀ n, n ∈ ds → 0 ≤ n) ⟨same_upd nD, [], upd_same, rfl, fun _ z => (nomatch z)⟩
      (fun i H' _ z => SqL.of (z.1 _ _ upd_same)) ?_ ?_
    · rintro i x H1 hx ⟨s1, ds, at_D, ld, pos⟩
      obtain ⟨hi, rfl⟩ := List.getElem?_eq_some_iff.mp hx
      rw [List.length_map] at hi
      refine ⟨rfl, kept ⟨_, rfl, .inl ⟨cs[i], by rw [List.getElem_map], _, rfl, _, at_D, by rw [List.length_map]; omega, fun b o e => ?_, ds ++ [if cs[i] < 0 then -cs[i] else cs[i]], ?_, ?_, ?_⟩⟩⟩
      · by_cases hb : b = D
        · rw [hb, nD] at e
          cases e
        · rw [upd_ne hb]
          exact s1 _ _ e
      · rw [upd_same, List.map_append]
        rfl
      · rw [List.length_append, ld]
        rfl
      · intro n hn
        rcases List.mem_append.mp hn with z | z
        · exact pos n z
        · obtain rfl := List.mem_singleton.mp z
          split <;> omega
    · rintro H1 ⟨s1, ds, at_D, ld, pos⟩
      rw [List.length_map] at ld
      have sm1 := s0.trans s1
      refine ⟨_, rfl, _, _, rfl, rfl, .inr ⟨by decide, by decide⟩, _, _, rfl, rfl, ?_⟩
      refine ⟨_, rfl, D, rfl, ⟨_, SqL.of at_D⟩, for_list (xs := ds.map V.int) (fun i σ H' => ∃ (v2 : Option V) (b : Int), σ = [some (.ref a), some (.int 18), v2, some (.ref D), some (.int b)] ∧ H' = H1 ∧ 0 ≤ b ∧ b < 10000000000)
        ⟨_, _, rfl, rfl, by decide, by decide⟩ (fun i σ H' _ z => ?_) ?_ ?_⟩
      · obtain ⟨_, _, _, rfl, _⟩ := z
        exact SqL.of at_D
      · rintro i x σ H' hx ⟨v2, b, rfl, rfl, b0, b1⟩
        obtain ⟨hi, rfl⟩ := List.getElem?_eq_some_iff.mp hx
        rw [List.length_map] at hi
        refine ⟨_, rfl, _, _, rfl, rfl, .inl ⟨by omega, by omega⟩, _, rfl, ds[i], _, by rw [List.getElem_map], rfl, by show (0 : Int) < 2147483549; decide, _, _, rfl, rfl, _, _, rfl, rfl, .inl ⟨_, rfl, _, _, rfl, rfl, by show (0 : Int) < 2147483647; decide, ?_⟩⟩
        refine ⟨_, _, rfl, rfl, Int.emod_nonneg _ (by decide), ?_⟩
        have := Int.emod_lt_of_pos (b * 40693 + ds[i] % 2147483549 + 59) (show (0 : Int) < 2147483647 by decide)
        omega
      · rintro σ H' ⟨v2, b, rfl, rfl, b0, b1⟩
        refine ⟨_, rfl, D, rfl, ⟨_, SqL.of at_D⟩, fun E1 nE => ?_⟩
        refine lc_list (xs := ds.map V.int) (fun i H2 => Same H' H2 ∧ ∃ es : List Int, H2 E1 = some (.lst (es.map V.int)) ∧ es.length ≤ i ∧ ∀ n, n ∈ es → 0 ≤ n) ⟨same_upd nE, [], upd_same, Nat.le_refl _, fun _ z => (nomatch z)⟩
          (fun i H2 _ z => SqL.of (z.1 _ _ at_D)) ?_ ?_
        · rintro i x H2 hx ⟨s2, es, at_E, le, pe⟩
          obtain ⟨hi, rfl⟩ := List.getElem?_eq_some_iff.mp hx
          rw [List.length_map] at hi
          refine ⟨rfl, _, rfl, _, _, rfl, rfl, ⟨by decide, by decide, by decide⟩, ds[i], _, by rw [List.getElem_map], rfl, _, rfl, ?_⟩
          refine ite2 (fun hb => ?_) (fun hb => ?_)
          · refine ⟨_, rfl, _, at_E, by rw [List.length_map]; omega, fun b o e => ?_, es ++ [ds[i]], ?_, ?_, ?_⟩
            · rw [upd_ne (ne_of_none e nE)]
              exact s2 _ _ e
            · rw [upd_same, List.map_append, List.getElem_map]
              rfl
            · rw [List.length_append]
              show es.length + 1 ≤ _
              omega
            · intro n hn
              rcases List.mem_append.mp hn with z | z
              · exact pe n z
              · obtain rfl := List.mem_singleton.mp z
                exact pos _ (List.getElem_mem hi)
          · exact ⟨s2, es, at_E, Nat.le_succ_of_le le, pe⟩
        · rintro H2 ⟨s2, es, at_E, le, pe⟩
          rw [List.length_map] at le
          refine ⟨E1, _, rfl, SqL.of at_E, fun q nq => ⟨_, rfl, by show 2 ≤ sizeLine; decide, fun p np => ?_⟩⟩
          obtain ⟨np0, qp⟩ := none_of_upd np
          have s3 := same_upd (o := .lst (es.map V.int).reverse) nq
          have s4 := same_upd (o := .lst [.ref q, .int b]) np
          have all := ((sm1.trans s2).trans s3).trans s4
          refine k _ p q all ((sm1.trans s2).free np0) ((sm1.trans s2).free nq) ⟨Ne.symm qp, es.reverse, b, upd_same, ?_, fun n hn => pe n (List.mem_reverse.mp hn), by rw [List.length_reverse]; omega, b0⟩
          rw [s4 _ _ upd_same, List.map_reverse]
end
end K18

/-! lists and dicts of one's own made at once; a dict of one's own lent, and put to -/
namespace DL
open PySem PySem.Spec PyProof.Rows L2
/-- a new list -/
def tF (F : Fr) (τs : DXs) : TE := fun σ H Q => ∃ H0 as ρ ω q, StOk F H0 as σ H ρ ω ∧ τs ρ ω q ∧ ∀ ds vs p H', q ds → SameO (Ow F as) H H' → StOk F H0 as σ H' ρ ω → DVs F.G (Ow F as) H' ds vs → H' p = none → Q (.ref p) (upd H' p (.lst vs))
def fLst (τs : DXs) : DXs := fun ρ ω q => τs ρ ω fun ds => ds.length ≤ sizeLine ∧ q ds
def fIf (τt : DXt) (τa τb : DXs) : DXs := fun ρ ω q => τt ρ ω fun c => if c = true then τa ρ ω q else τb ρ ω q
def dOwn (i : Nat) (τs : DXs) : DS := fun E ρ ω => τs ρ ω fun ds => E.nx (ρ.set i (.own ω.length)) (ω ++ [.lst ds])
section
variable {X : Cx} {F : Fr} {e a b c : Expr} {es : List Expr} {τ : DX} {τs τa τb : DXs} {τt : DXt} {pos : Pos}
theorem f_lst (h : PA X es (tDs F τs)) : PE X (.List es pos) (tF F (fLst τs)) :=
  PE.wk (pe_lst h) fun σ H Q ⟨H0, as, ρ, ω, q, st, h, k⟩ => ⟨H0, as, ρ, ω, _, st, h, fun ds vs H1 ⟨l, h1⟩ s1 st1 dv => ⟨by rw [← dv.len]; exact l, fun p hp => k ds vs p H1 h1 s1 st1 dv hp⟩⟩
theorem f_if (hc : PT X c (tDt F τt)) (ha : PE X a (tF F τa)) (hb : PE X b (tF F τb)) : PE X (.IfExp c a b pos) (tF F (fIf τt τa τb)) :=
  PE.wk (pe_ifExp hc ha hb) fun σ H Q ⟨H0, as, ρ, ω, q, st, w, k⟩ => ⟨H0, as, ρ, ω, _, st, w, fun c H1 h1 s1 st1 => by
    cases c with
    | true => exact iteT ⟨H0, as, ρ, ω, q, st1, h1, fun ds vs p H2 h2 s2 st2 dv hp => k ds vs p H2 h2 (s1.trans s2) st2 dv hp⟩
    | false => exact iteF ⟨H0, as, ρ, ω, q, st1, h1, fun ds vs p H2 h2 s2 st2 dv hp => k ds vs p H2 h2 (s1.trans s2) st2 dv hp⟩⟩
theorem ds_own {i : Nat} {x : Str} {pos' : Pos} (hN : X.N.Nodup) (hi : X.N[i]? = some x) (hx : Loc X.env.scope x) (he : PE X e (tF F τs)) (sw : swapsWith e (some (.Name x pos')) pos.line X.env = pure false := by rfl)
    (hf : X.fn x = true ∨ X.env.scope.names.lookup x = some .local := by first | exact .inl rfl | exact .inr rfl) : PS X (.Assign [.Name x pos'] e pos) (tDS F (dOwn i τs)) :=
  PS.wk (ps_set hN hi hx he sw hf) fun W σ H ⟨H0, as, ρ, ω, E, st, h, c⟩ => ⟨H0, as, ρ, ω, _, st, h, fun ds vs p H1 h1 s1 st1 dv hp => c.nx (as ++ [some p]) _ _ _ _ h1
    ((st1.push hp dv).set (o := some (.ref p)) (s := .own ω.length) ⟨p, rfl, by rw [st.ol, List.getElem?_append_right (Nat.le_refl _), Nat.sub_self]; rfl⟩ i) ((Step.of s1).trans (step_new hp))⟩
/-! dicts -/
def dpairs (F : Fr) : List Str → List DX → List (TE × TE)
  | k :: ks, τ :: τs => (tC (.str k), tD F τ) :: dpairs F ks τs
  | _, _ => []
theorem dpp_nil : PPs X pos [] [] (dpairs F [] []) := pps_nil
theorem dpp_cons {k : Str} {j : Nat} {p1 : Pos} {v : Expr} {ks : List (Option Expr)} {vs : List Expr} {ks' : List Str} {τs : List DX} (hv : PE X v (tD F τ)) (hr : PPs X pos ks vs (dpairs F ks' τs)) : PPs X pos (some (.Constant (.str k) j p1) :: ks) (v :: vs) (dpairs F (k :: ks') (τ :: τs)) := pps_cons pe_str hv hr
def dPairs : List DX → DXs
  | [] => fun _ _ q => q []
  | τ :: τs => fun ρ ω q => τ ρ ω fun d => dPairs τs ρ ω fun ds => q (d :: ds)
theorem pairs_run : ∀ {ks : List Str} {τs : List DX} {σ : L2.St} {H : Hp} {Q : List (V × V) → Hp → Prop}, ks.length = τs.length → (∃ H0 as ρ ω q, StOk F H0 as σ H ρ ω ∧ dPairs τs ρ ω q ∧ ∀ ds vs H', q ds → SameO (Ow F as) H H' → StOk F H0 as σ H' ρ ω → DVs F.G (Ow F as) H' ds vs → Q ((ks.map V.str).zip vs) H') → tPairs (dpairs F ks τs) σ H Q
  | [], [], σ, H, Q, _, ⟨H0, as, ρ, ω, q, st, h, k⟩ => k [] [] H h SameO.refl st rfl
  | k0 :: ks, τ :: τs, σ, H, Q, l, ⟨H0, as, ρ, ω, q, st, h, k⟩ => ⟨H0, as, ρ, ω, _, st, h, fun d v H1 h1 s1 st1 dv => pairs_run (Nat.succ.inj l) ⟨H0, as, ρ, ω, _, st1, h1, fun ds vs H2 h2 s2 st2 dvs => k (d :: ds) (v :: vs) H2 h2 (s1.trans s2) st2 (.cons (dv.mono s2) dvs)⟩⟩
theorem putK_new {kvs : List (Key × V)} {k : Key} {v : V} (h : k ∉ kvs.map (·.1)) : putK kvs k v = kvs ++ [(k, v)] := by
  unfold putK
  rw [if_neg]
  intro z
  obtain ⟨x, hx, e⟩ := List.any_eq_true.mp z
  exact h (List.mem_map.mpr ⟨x, hx, of_decide_eq_true e⟩)
theorem merge_new : ∀ {kvs acc : List (Key × V)}, ((acc ++ kvs).map (·.1)).Nodup → mergeK acc kvs = acc ++ kvs
  | [], acc, _ => (List.append_nil acc).symm
  | kv :: kvs, acc, nd => by
    have e : acc ++ kv :: kvs = (acc ++ [(kv.1, kv.2)]) ++ kvs := by rw [List.append_assoc]; rfl
    show mergeK (putK acc kv.1 kv.2) kvs = _
    have nk : kv.1 ∉ acc.map (·.1) := fun z => by
      rw [List.map_append] at nd
      exact (List.nodup_append.mp nd).2.2 _ z _ (List.mem_cons_self ..) rfl
    rw [putK_new nk, e]
    exact merge_new (by rw [← e]; exact nd)
theorem keys_zip {ks : List Str} : ∀ {vs : List V}, ks.length = vs.length → ((ks.map (Sum.inr : Str → Key)).zip vs).map (·.1) = ks.map Sum.inr := fun {vs} l => by
  rw [List.map_fst_zip (by rw [List.length_map]; omega)]
def dOwnD (i : Nat) (ks : List Str) (τs : List DX) : DS := fun E ρ ω => ks.Nodup ∧ ks.length ≤ 15 ∧ ks.length = τs.length ∧ dPairs τs ρ (ω ++ [.dic [] []]) fun ds => ks.length = ds.length ∧ E.nx (ρ.set i (.own ω.length)) (ω ++ [.dic ks ds])
theorem ds_ownD {i : Nat} {x : Str} {pos' p2 : Pos} {keys : List (Option Expr)} {values : List Expr} {ks : List Str} {τs : List DX} (hN : X.N.Nodup) (hi : X.N[i]? = some x) (hx : Loc X.env.scope x) (h : PPs X p2 keys values (dpairs F ks τs)) (hall : keys.all (·.isSome) = true := by rfl) (hl : keys.length = values.length := by rfl) (h0 : keys ≠ [] := by exact fun z => by cases z) (h15 : keys.length ≤ 15 := by decide)
    (sw : swapsWith (.Dict keys values p2) (some (.Name x pos')) pos.line X.env = pure false := by rfl) (hf : X.fn x = true ∨ X.env.scope.names.lookup x = some .local := by first | exact .inl rfl | exact .inr rfl) : PS X (.Assign [.Name x pos'] (.Dict keys values p2) pos) (tDS F (dOwnD i ks τs)) :=
  PS.wk (ps_set hN hi hx (pe_disp h hall hl h0 h15) sw hf) fun W σ H ⟨H0, as, ρ, ω, E, st, ⟨nd, k15, lk, h⟩, c⟩ p hp => by
    have st1 : StOk F H0 (as ++ [some p]) σ (upd H p (.dK [])) ρ (ω ++ [.dic [] []]) := st.pushC hp ⟨[], upd_same, rfl, rfl⟩
    have last : (as ++ [some p])[as.length]? = some (some p) := by rw [List.getElem?_append_right (Nat.le_refl _), Nat.sub_self]; rfl
    refine pairs_run lk ⟨H0, _, ρ, _, _, st1, h, fun ds vs H2 ⟨l2, h2⟩ s2 st2 dvs => ?_⟩
    have lv := dvs.len
    obtain ⟨c0, q1, q2⟩ := st2.ow as.length p last
    rw [← st.ol, List.getElem?_append_right (Nat.le_refl _), Nat.sub_self] at q1
    cases q1
    obtain ⟨us, q2, q3, _⟩ := q2
    refine ⟨q2, (ks.map Sum.inr).zip vs, ?_, by rw [List.length_zip, List.length_map]; omega, ?_⟩
    · have go : ∀ (ks : List Str) (vs : List V), (ks.map V.str).zip vs = ((ks.map (Sum.inr : Str → Key)).zip vs).map fun kv => (kV kv.1, kv.2) := by
        intro ks
        induction ks with
        | nil => intro vs; rfl
        | cons k ks ih =>
          intro vs
          cases vs with
          | nil => rfl
          | cons v vs =>
            show (V.str k, v) :: (ks.map V.str).zip vs = _
            rw [ih vs]
            rfl
      exact go ks vs
    have em : mergeK [] ((ks.map (Sum.inr : Str → Key)).zip vs) = (ks.map Sum.inr).zip vs := by
      have := merge_new (kvs := (ks.map (Sum.inr : Str → Key)).zip vs) (acc := []) (by
        rw [List.nil_append, keys_zip (by omega)]
        exact List.Pairwise.map _ (fun a b n z => n (Sum.inr.inj z)) nd)
      rw [List.nil_append] at this
      exact this
    rw [em]
    have s3 : SameO (Ow F (as ++ [some p])) H2 (upd H2 p (.dK ((ks.map Sum.inr).zip vs))) := fun b u n e => by
      rw [upd_ne (fun z => n (by rw [z]; exact .inr (List.mem_of_getElem? last)))]
      exact e
    obtain ⟨st3, _⟩ := st2.put (d := .dic ks ds) (o := .dK ((ks.map Sum.inr).zip vs)) last ⟨vs, upd_same, by omega, dvs.mono s3⟩
    have e : (ω ++ [DL.D.dic [] []]).set as.length (DL.D.dic ks ds) = ω ++ [DL.D.dic ks ds] := by
      rw [← st.ol, List.set_append_right _ _ (Nat.le_refl _), Nat.sub_self]
      rfl
    rw [e] at st3
    exact c.nx (as ++ [some p]) _ _ _ _ h2 (st3.set (o := some (.ref p)) (s := .own ω.length) ⟨p, rfl, by rw [st.ol]; exact last⟩ i) (((step_new hp).trans (Step.of s2)).trans (Step.of s3))
/-- x["k"] = e, x a dict of one's own that has not k -/
def dPutOwn (i : Nat) (key : Str) (τ : DX) : DS := fun E ρ ω => ∃ k ks ds, ρ[i]? = some (.own k) ∧ ω[k]? = some (.dic ks ds) ∧ key ∉ ks ∧ ks.length < 1000 ∧ τ ρ ω fun d => E.nx ρ (ω.set k (.dic (ks ++ [key]) (ds ++ [d])))
theorem ds_putOwn {i j : Nat} {x key : Str} {p1 p2 p3 : Pos} (hu : X.A.units + 1 < cLine) (hx : PE X (.Name x p1) (tVar i)) (he : PE X e (tD F τ)) (sw : swapsWith e (some (.Subscript (.Name x p1) (.Constant (.str key) j p3) p2)) pos.line X.env = pure false := by rfl) :
    PS X (.Assign [.Subscript (.Name x p1) (.Constant (.str key) j p3) p2] e pos) (tDS F (dPutOwn i key τ)) :=
  PS.wk (ps_dput hu hx pe_str he sw) fun W σ H ⟨H0, as, ρ, ω, E, st, ⟨k, ks, ds, h1, h2, nk, few, h⟩, c⟩ => ⟨H0, as, ρ, ω, _, st, h, fun d v H1 hq s1 st1 dv => by
    obtain ⟨o, eo, al, rfl, ha⟩ := slots_get st1.en h1
    obtain ⟨c0, q1, q2⟩ := st1.ow k al ha
    rw [h2] at q1
    cases q1
    obtain ⟨vs, q2, q3, q4⟩ := q2
    have nk' : (Sum.inr key : Key) ∉ ((ks.map (Sum.inr : Str → Key)).zip vs).map (·.1) := by
      rw [keys_zip q3]
      intro z
      obtain ⟨y, hy, e⟩ := List.mem_map.mp z
      exact nk (Sum.inr.inj e ▸ hy)
    refine ⟨.ref al, eo, al, _, rfl, DPut.k (k := Sum.inr key) q2 (by rw [List.length_zip, List.length_map]; have := le_line (n := 2000) (Nat.le_refl _); omega), ?_⟩
    rw [putK_new nk']
    have ez : (ks.map (Sum.inr : Str → Key)).zip vs ++ [(Sum.inr key, v)] = ((ks ++ [key]).map Sum.inr).zip (vs ++ [v]) := by
      rw [List.map_append, List.zip_append (by rw [List.length_map]; exact q3)]
      rfl
    rw [ez]
    have s3 : SameO (Ow F as) H1 (upd H1 al (.dK (((ks ++ [key]).map Sum.inr).zip (vs ++ [v])))) := fun b u n e => by
      rw [upd_ne (fun z => n (by rw [z]; exact .inr (List.mem_of_getElem? ha)))]
      exact e
    obtain ⟨st2, s2⟩ := st1.put (d := .dic (ks ++ [key]) (ds ++ [d])) (o := .dK (((ks ++ [key]).map Sum.inr).zip (vs ++ [v]))) ha ⟨vs ++ [v], upd_same, by rw [List.length_append, List.length_append, q3]; rfl, (q4.append (.cons dv .nil)).mono s3⟩
    exact c.nx as σ _ ρ _ hq st2 (Step.of (s1.trans s2))⟩
end
/-! a thing of one's own lent to a def that draws: what comes back is known if it is flat -/
def scalOf : D → D
  | .non => .non | .bl b => .bl b | .int i => .int i | .str s => .str s | _ => .any
theorem scal_at {G : DG} {O O' : Addr → Prop} {H : Hp} {d : D} {v : V} (h : DV G O H d v) : DV G O' H (scalOf d) v := by
  cases d <;> first | exact h | exact trivial
def dLend (ib iw n : Nat) (R : List D → (D → Prop) → Prop) (τs : DXs) : DX := fun ρ ω q => ∃ k c, ρ[ib]? = some .box ∧ ρ[iw]? = some (.own k) ∧ ω[k]? = some c ∧ τs ρ ω fun xs => xs.length = n ∧ R (c :: xs) fun d => q (scalOf d)
section
variable {X : Cx} {G : DG} {O : Addr → Prop} {p q : Addr} {e : Expr} {es : List Expr} {τs : DXs}
theorem core_lend {ib iw n : Nat} {R : List D → (D → Prop) → Prop} {σ : L2.St} {H : Hp} {Q : VK} : tD (frB G O p q) (dLend ib iw n R τs) σ H Q → tCall (spB G (n + 1) R) [] E0 (tCons (tVar ib) (tCons (tVar iw) (tDs (frB G O p q) τs))) σ H Q := by
  rintro ⟨H0, as, ρ, ω, qq, st, ⟨k0, c, hb, hw, hc, h⟩, k⟩
  obtain ⟨o, eo, rfl⟩ := slots_get st.en hb
  obtain ⟨o2, eo2, al, rfl, ha⟩ := slots_get st.en hw
  refine ⟨.ref p, eo, .ref al, eo2, H0, as, ρ, ω, _, st, h, fun ds vs H1 ⟨l, r⟩ s1 st1 dv => ?_⟩
  obtain ⟨c0, q1, q2⟩ := st1.ow k0 al ha
  rw [hc] at q1
  cases q1
  have less : ∀ a, (frB G O p q).O a → Ow (frB G O p q) as a := fun a z => .inl z
  have nO := st1.notM (List.mem_of_getElem? ha)
  refine ⟨O, p, q, .ref al :: vs, c :: ds, _, by rw [List.append_nil], by rw [List.length_cons, l], st1.bx, fun a z => ?_, .cons ((q2.step (Step.less less) fun _ e => e).dat nO) (dv.less less), r, fun d w H2 hq s2 b2 dw => ?_⟩
  · exact al_of (fun x hx => (st1.fresh hx).2.2) a (.inl z)
  · obtain ⟨st2, s2'⟩ := st1.drawn s2 b2
    exact k _ w H2 hq (s1.trans s2') st2 (scal_at dw)
theorem d_lend {x y z : Str} {ib iw k n : Nat} {ps : List Str} {R : List D → (D → Prop) → Prop} {pp pos p2 p3 : Pos} (c : Callee X.prog X.w X.K X.mg X.base x k ps (spB G (n + 1) R)) (hr : Room k X.A) (hg : Gl X x) (hb : PE X (.Name y p2) (tVar ib)) (hw : PE X (.Name z p3) (tVar iw)) (ha : PA X es (tDs (frB G O p q) τs))
    (hdb : (x == ("__debug__" : Str)) = false := by decide) (he : starEach (.Name y p2 :: .Name z p3 :: es) X.env = (false, eval (.Name y p2) X.env) :: starEach (.Name z p3 :: es) X.env := by rfl) (he2 : starEach (.Name z p3 :: es) X.env = (false, eval (.Name z p3) X.env) :: starEach es X.env := by rfl) (hpl : (backTo pos (starEach (.Name z p3 :: es) X.env)).any (·.1) = false := by rfl) :
    PE X (.Call (.Name x pp) (.Name y p2 :: .Name z p3 :: es) [] pos) (tD (frB G O p q) (dLend ib iw n R τs)) := PE.wk (pe_callee c hr hg (pa_cons hb (pa_cons hw ha he2) he) hdb he hpl) fun _ _ _ => core_lend
end
/-- whatever comes back -/
theorem FnOk.anyB {P : Program} {w : World} {K : PySem.W.Frag} {mg : Str → Option Value} {base : Heap} {CX : CXT} {k n : Nat} {f : Addr} {fd : FuncData} {ps : List Str} {G : DG} {R0 : List D → Prop} (F : FnOk P w K mg base CX k f fd ps (spB G n fun xs q => R0 xs ∧ ∀ d, q d)) : FnOk P w K mg base CX k f fd ps (spB G n fun xs q => R0 xs ∧ q .any) :=
  F.imp fun vs H Q E ⟨O, p, q0, us, xs, q, e, l, dl, al, dv, ⟨r, hq⟩, kk⟩ => ⟨O, p, q0, us, xs, fun _ => q .any, e, l, dl, al, dv, ⟨r, fun _ => hq⟩, fun d w H' hq s b _ => kk .any w H' hq s b trivial⟩
section
variable {ρ : List Sl} {ω : List D} {E : DE} {τ : DX} {τs τa τb : DXs} {τt : DXt} {qs : List D → Prop} {q : D → Prop} {i : Nat} {ks : List Str} {key : Str} {ts : List DX}
@[simp] theorem fLst_eq : fLst τs ρ ω qs = τs ρ ω fun ds => ds.length ≤ sizeLine ∧ qs ds := rfl
@[simp] theorem fIf_eq : fIf τt τa τb ρ ω qs = τt ρ ω fun c => if c = true then τa ρ ω qs else τb ρ ω qs := rfl
@[simp] theorem dOwn_eq : dOwn i τs E ρ ω = τs ρ ω fun ds => E.nx (ρ.set i (.own ω.length)) (ω ++ [.lst ds]) := rfl
@[simp] theorem dPairs_nil : dPairs [] ρ ω qs = qs [] := rfl
@[simp] theorem dPairs_cons : dPairs (τ :: ts) ρ ω qs = τ ρ ω fun d => dPairs ts ρ ω fun ds => qs (d :: ds) := rfl
@[simp] theorem dOwnD_eq : dOwnD i ks ts E ρ ω = (ks.Nodup ∧ ks.length ≤ 15 ∧ ks.length = ts.length ∧ dPairs ts ρ (ω ++ [.dic [] []]) fun ds => ks.length = ds.length ∧ E.nx (ρ.set i (.own ω.length)) (ω ++ [.dic ks ds])) := rfl
@[simp] theorem dPutOwn_eq : dPutOwn i key τ E ρ ω = ∃ k ks ds, ρ[i]? = some (.own k) ∧ ω[k]? = some (.dic ks ds) ∧ key ∉ ks ∧ ks.length < 1000 ∧ τ ρ ω fun d => E.nx ρ (ω.set k (.dic (ks ++ [key]) (ds ++ [d]))) := rfl
@[simp] theorem dLend_eq {ib iw n : Nat} {R : List D → (D → Prop) → Prop} : dLend ib iw n R τs ρ ω q = ∃ k c, ρ[ib]? = some .box ∧ ρ[iw]? = some (.own k) ∧ ω[k]? = some c ∧ τs ρ ω fun xs => xs.length = n ∧ R (c :: xs) fun d => q (scalOf d) := rfl
@[simp] theorem scal_any : scalOf .any = .any := rfl
end
end DL

namespace K18
open PySem PySem.Spec PyProof.Rows L2
open DL
/-! ### draws over data -/
def RAny : List D → (D → Prop) → Prop := fun xs q => ∃ m : Nat, xs = [.int (m : Nat)] ∧ 1 ≤ m ∧ m ≤ 1000 ∧ ∀ r : Nat, r < m → q (.int (r : Nat))
@[simp] theorem RAny_eq {m : Nat} {q : D → Prop} : RAny [.int (m : Nat)] q = (1 ≤ m ∧ m ≤ 1000 ∧ ∀ r : Nat, r < m → q (.int (r : Nat))) := by
  refine propext ⟨fun ⟨m', e, h⟩ => ?_, fun h => ⟨m, rfl, h⟩⟩
  simp only [List.cons.injEq, D.int.injEq, and_true] at e
  obtain rfl : m = m' := by omega
  exact h
@[simp] theorem RAny_1 {q : D → Prop} : RAny [.int 1] q = (∀ r : Nat, r < 1 → q (.int (r : Nat))) := by
  rw [show ([D.int 1] : List D) = [D.int ((1 : Nat) : Int)] from rfl, RAny_eq]
  exact propext ⟨fun h => h.2.2, fun h => ⟨by decide, by decide, h⟩⟩
@[simp] theorem RAny_2 {q : D → Prop} : RAny [.int 2] q = (∀ r : Nat, r < 2 → q (.int (r : Nat))) := by
  rw [show ([D.int 2] : List D) = [D.int ((2 : Nat) : Int)] from rfl, RAny_eq]
  exact propext ⟨fun h => h.2.2, fun h => ⟨by decide, by decide, h⟩⟩
@[simp] theorem RAny_3 {q : D → Prop} : RAny [.int 3] q = (∀ r : Nat, r < 3 → q (.int (r : Nat))) := by
  rw [show ([D.int 3] : List D) = [D.int ((3 : Nat) : Int)] from rfl, RAny_eq]
  exact propext ⟨fun h => h.2.2, fun h => ⟨by decide, by decide, h⟩⟩
@[simp] theorem RAny_4 {q : D → Prop} : RAny [.int 4] q = (∀ r : Nat, r < 4 → q (.int (r : Nat))) := by
  rw [show ([D.int 4] : List D) = [D.int ((4 : Nat) : Int)] from rfl, RAny_eq]
  exact propext ⟨fun h => h.2.2, fun h => ⟨by decide, by decide, h⟩⟩
@[simp] theorem RAny_5 {q : D → Prop} : RAny [.int 5] q = (∀ r : Nat, r < 5 → q (.int (r : Nat))) := by
  rw [show ([D.int 5] : List D) = [D.int ((5 : Nat) : Int)] from rfl, RAny_eq]
  exact propext ⟨fun h => h.2.2, fun h => ⟨by decide, by decide, h⟩⟩
@[simp] theorem RAny_6 {q : D → Prop} : RAny [.int 6] q = (∀ r : Nat, r < 6 → q (.int (r : Nat))) := by
  rw [show ([D.int 6] : List D) = [D.int ((6 : Nat) : Int)] from rfl, RAny_eq]
  exact propext ⟨fun h => h.2.2, fun h => ⟨by decide, by decide, h⟩⟩
def ROf : List D → (D → Prop) → Prop := fun xs q => ∃ ds, xs = [.lst ds] ∧ ds ≠ [] ∧ ds.length ≤ 1000 ∧ ∀ d, d ∈ ds → q d
@[simp] theorem ROf_eq {ds : List D} {q : D → Prop} : ROf [.lst ds] q = (ds ≠ [] ∧ ds.length ≤ 1000 ∧ ∀ d, d ∈ ds → q d) := by
  refine propext ⟨fun ⟨m', e, h⟩ => ?_, fun h => ⟨ds, rfl, h⟩⟩
  cases e
  exact h
theorem deal_but {p q : Addr} {H H' : Hp} (b : But2 p q H H') : SameO (two p q) H H' := fun c o n e => b c o (fun z => n (.inl z)) (fun z => n (.inr z)) e
theorem stb_at {O : Addr → Prop} {H : Hp} {a : Addr} {o : HO} (h : Stb O (fun H => H a = some o) H) : ¬ O a ∧ H a = some o := bare_at (h _ bare_same)
section
variable {P : Program} {w : World} {K : W.Frag} {mg : Str → Option Value} {base : Heap} {G : DG} {f : Addr} {fd : FuncData}
theorem any_D {k : Nat} {ps : List Str} (c : Callee P w K mg base "_law_any" k ps spAny) : Callee P w K mg base "_law_any" k ps (spB G 1 RAny) :=
  c.imp fun vs H Q E ⟨O, p, q0, us, xs, q, e, l, dl, al, dv, ⟨m, em, m1, m2, hq⟩, kk⟩ => by
    subst e em
    obtain ⟨v, rfl, hv⟩ := one_at dv
    cases (show _ = _ from hv)
    refine ⟨p, q0, m, rfl, dl, by omega, by omega, fun r H' r0 r1 b dl' => ?_⟩
    obtain ⟨n, rfl⟩ : ∃ n : Nat, r = n := ⟨r.toNat, by omega⟩
    exact kk _ _ H' (hq n (by omega)) (deal_but b) dl' rfl
theorem of_D {k : Nat} {ps : List Str} (c : Callee P w K mg base "_law_of" k ps spOf) : Callee P w K mg base "_law_of" k ps (spB G 1 ROf) :=
  c.imp fun vs H Q E ⟨O, p, q0, us, xs, q, e, l, dl, al, dv, ⟨ds, em, m1, m2, hq⟩, kk⟩ => by
    subst e em
    obtain ⟨v, rfl, a, ys, rfl, st, r⟩ := one_at dv
    obtain ⟨na, ha⟩ := stb_at st
    have ly := r.len
    refine ⟨p, q0, a, ys, rfl, dl, fun z => na (.inr (.inl z)), fun z => na (.inr (.inr z)), ha, ?_, by omega, fun x H' hx b dl' => ?_⟩
    · cases ds with
      | nil => exact (m1 rfl).elim
      | cons _ _ => rw [← ly, List.length_cons]; omega
    · obtain ⟨i, hi⟩ := List.mem_iff_getElem?.mp hx
      obtain ⟨d, hd, dx⟩ := r.get hi
      exact kk d x H' (hq d (List.mem_of_getElem? hd)) (deal_but b) dl' (dx.mono ((deal_but b).mono fun a z => .inr z))
/-! a drawn house row -/
def RRow : List D → (D → Prop) → Prop := fun xs q => ∃ W : Wd, xs = [W.d] ∧ WOk W ∧ ∀ r, RowOk (hOf W) r → q r.d
abbrev NRw : List Str := ["_law_deal", "_law_world", "_law_doors", "_law_lights", "_law_values", "_law_saved", "_law_door", "_law_part", "_law_cell"]
theorem scRw : FnScope NRw ["_law_deal", "_law_world"] (defScope sRow) := ⟨rfl, rfl, rfl, by decide +kernel, rfl, by decide +kernel, by decide +kernel⟩
/-- a comprehension of drawn things -/
theorem lc_drawn {α : Type} {js : List Nat} {τe : DX} {ρ : List Sl} {ω : List D} {ι : DXi} {t : DTg} {q : D → Prop} {xs : List D} (g : α → D) (Pα : α → Prop) (hι : ∀ q, q xs → ι ρ ω q) (few : xs.length < sizeLine)
    (hs : ∀ x, x ∈ xs → ∃ ρ', t (js.foldr (fun j r => r.set j .any) ρ) x = some ρ' ∧ ∀ (acc : List D) (q' : D → Prop), (∀ y, Pα y → q' (g y)) → τe ρ' (ω ++ [.lst acc]) q') (he : ∀ ys : List α, ys.length = xs.length → (∀ y, y ∈ ys → Pα y) → q (.lst (ys.map g))) : dLc js t ι dYes τe ρ ω q :=
  lc_known (fun i acc => ∃ ys : List α, acc = ys.map g ∧ ys.length = i ∧ ∀ y, y ∈ ys → Pα y) hι few ⟨[], rfl, rfl, fun _ z => nomatch z⟩ (fun i x acc hx _ ⟨ys, e, l, al⟩ => by
    obtain ⟨hi, rfl⟩ := List.getElem?_eq_some_iff.mp hx
    obtain ⟨ρ', e1, k⟩ := hs _ (List.getElem_mem hi)
    refine ⟨ρ', e1, ?_⟩
    simp only [dYes_eq, if_true]
    refine k acc _ fun y hy => ⟨ys ++ [y], by rw [e, List.map_append]; rfl, by rw [List.length_append, l]; rfl, fun z hz => ?_⟩
    rcases List.mem_append.mp hz with u | u
    · exact al z u
    · rw [List.mem_singleton.mp u]
      exact hy) (fun acc ⟨ys, e, l, al⟩ => by rw [e]; exact he ys l al)
theorem ok_row (F : Fun G.K "_law_row" "_law_row" sRow f fd) (B : Bl mg) (cAny : Callee P w G.K mg base "_law_any" 1 ["_law_deal", "_law_bound"] (spB G 1 RAny)) : FnOk P w G.K mg base CX0 2 f fd ["_law_deal", "_law_world"] (spB G 1 RRow) :=
  okB F scRw rfl (fun O p q0 cdv A outer s H E hr => by
    have un := hr.units
    have hu := hu_of hr
    exact (ds_cons (ds_set (i := 2) scRw.nd rfl (Or.inl rfl) (d_callTy call_tuple_of abs_tuple (by rfl) B.tuple (by decide +kernel) (da_cons (d_lc (own := [("_law_door", 6)]) rfl scRw.nd (di_seq (d_dget hu (dv 1) d_str)) (blkOk_by (own := [("_law_door", 6)]) (N := NRw) (sc := defScope sRow) (by decide +kernel)) (fun _ _ _ _ _ => (pg_name (i := 6) scRw.nd rfl (Or.inl rfl))) to_name (by decide) (fun _ _ _ _ _ => pts_nil) (fun _ _ _ => yes_ok) (fun _ _ _ _ _ => (d_cmp (op_eqA un) abs_eq (d_callB_ cAny (hr.mono (by decide)) (by rfl) (pv 0) (da_cons d_int da_nil)) d_int (nomark _)))) da_nil)))
 (ds_cons (ds_set (i := 3) scRw.nd rfl (Or.inl rfl) (d_callTy call_tuple_of abs_tuple (by rfl) B.tuple (by decide +kernel) (da_cons (d_lc (own := [("_law_part", 7)]) rfl scRw.nd (di_seq (d_dget hu (dv 1) d_str)) (blkOk_by (own := [("_law_part", 7)]) (N := NRw) (sc := defScope sRow) (by decide +kernel)) (fun _ _ _ _ _ => (pg_name (i := 7) scRw.nd rfl (Or.inl rfl))) to_name (by decide) (fun _ _ _ _ _ => pts_nil) (fun _ _ _ => yes_ok) (fun _ _ _ _ _ => (d_cmp op_gt abs_cmp0 (d_callB_ cAny (hr.mono (by decide)) (by rfl) (pv 0) (da_cons d_int da_nil)) d_int (nomark _)))) da_nil)))
 (ds_cons (ds_set (i := 4) scRw.nd rfl (Or.inl rfl) (d_callTy call_tuple_of abs_tuple (by rfl) B.tuple (by decide +kernel) (da_cons (d_lc (own := [("_law_cell", 8)]) rfl scRw.nd (di_seq (d_dget hu (dv 1) d_str)) (blkOk_by (own := [("_law_cell", 8)]) (N := NRw) (sc := defScope sRow) (by decide +kernel)) (fun _ _ _ _ _ => (pg_name (i := 8) scRw.nd rfl (Or.inl rfl))) to_name (by decide) (fun _ _ _ _ _ => pts_nil) (fun _ _ _ => yes_ok) (fun _ _ _ _ _ => (d_callB_ cAny (hr.mono (by decide)) (by rfl) (pv 0) (da_cons d_int da_nil)))) da_nil)))
 (ds_cons (ds_set (i := 5) scRw.nd rfl (Or.inl rfl) (d_callTy call_tuple_of abs_tuple (by rfl) B.tuple (by decide +kernel) (da_cons (d_lc (own := [("_law_cell", 8)]) rfl scRw.nd (di_seq (d_dget hu (dv 1) d_str)) (blkOk_by (own := [("_law_cell", 8)]) (N := NRw) (sc := defScope sRow) (by decide +kernel)) (fun _ _ _ _ _ => (pg_name (i := 8) scRw.nd rfl (Or.inl rfl))) to_name (by decide) (fun _ _ _ _ _ => pts_nil) (fun _ _ _ => yes_ok) (fun _ _ _ _ _ => (d_callB_ cAny (hr.mono (by decide)) (by rfl) (pv 0) (da_cons d_int da_nil)))) da_nil)))
 (ds_one (ds_ret (d_tup (da_cons (dv 2) (da_cons (dv 3) (da_cons (dv 4) (da_cons (dv 5) (da_cons (d_callTy call_tuple_of abs_tuple (by rfl) B.tuple (by decide +kernel) (da_cons (d_lc (own := [("_law_cell", 8)]) rfl scRw.nd (di_seq (d_dget hu (dv 1) d_str)) (blkOk_by (own := [("_law_cell", 8)]) (N := NRw) (sc := defScope sRow) (by decide +kernel)) (fun _ _ _ _ _ => (pg_name (i := 8) scRw.nd rfl (Or.inl rfl))) to_name (by decide) (fun _ _ _ _ _ => pts_nil) (fun _ _ _ => yes_ok) (fun _ _ _ _ _ => (d_callB_ cAny (hr.mono (by decide)) (by rfl) (pv 0) (da_cons d_int da_nil)))) da_nil)) da_nil))))))))))))) (fun xs q l r => by
    obtain ⟨W, rfl, ok, k⟩ := r
    have := line
    obtain ⟨f1, f2, f3⟩ := ok.few
    simp
    have ldn : W.ds.length = (hOf W).dn.length := by rw [dn_of, List.length_map]
    have lcn : W.cs.length = (hOf W).cn.length := by rw [cn_of, List.length_map]
    refine lc_drawn (xs := W.ds.map doorD) D.bl (fun _ => True) (fun q h => by simpa [Wd.d, look_doors, and_assoc] using h) (by rw [List.length_map]; omega) (fun x hx => ⟨_, rfl, fun acc q' h => by simp; exact fun r _ => h _ trivial⟩) (fun l1 h1 _ => ?_)
    rw [List.length_map] at h1
    refine ⟨_, rfl, ?_⟩
    refine lc_drawn (xs := W.ps.map D.str) D.bl (fun _ => True) (fun q h => by simpa [Wd.d, look_parts, and_assoc] using h) (by rw [List.length_map]; omega) (fun x hx => ⟨_, rfl, fun acc q' h => by simp; exact fun r _ => h _ trivial⟩) (fun l2 h2 _ => ?_)
    rw [List.length_map] at h2
    refine ⟨_, rfl, ?_⟩
    refine lc_drawn (xs := W.cs.map cellD) D.int (fun v => 0 ≤ v ∧ v ≤ 2) (fun q h => by simpa [Wd.d, look_cells, and_assoc] using h) (by rw [List.length_map]; omega) (fun x hx => ⟨_, rfl, fun acc q' h => by simp; exact fun r hr => h _ (by omega)⟩) (fun l3 h3 a3 => ?_)
    rw [List.length_map] at h3
    refine ⟨_, rfl, ?_⟩
    refine lc_drawn (xs := W.cs.map cellD) D.int (fun v => 0 ≤ v ∧ v ≤ 2) (fun q h => by simpa [Wd.d, look_cells, and_assoc] using h) (by rw [List.length_map]; omega) (fun x hx => ⟨_, rfl, fun acc q' h => by simp; exact fun r hr => h _ (by omega)⟩) (fun l4 h4 a4 => ?_)
    rw [List.length_map] at h4
    refine ⟨_, rfl, ?_⟩
    refine lc_drawn (xs := W.cs.map cellD) D.int (fun v => 0 ≤ v ∧ v ≤ 4) (fun q h => by simpa [Wd.d, look_cells, and_assoc] using h) (by rw [List.length_map]; omega) (fun x hx => ⟨_, rfl, fun acc q' h => by simp; exact fun r hr => h _ (by omega)⟩) (fun l5 h5 a5 => ?_)
    rw [List.length_map] at h5
    refine ⟨_, rfl, k ⟨l1, l2, l3, l4, l5⟩ ⟨?_, ?_, ?_, ?_, ?_, a3, a4, a5⟩⟩
    · exact h1.trans ldn
    · exact h2
    · exact h3.trans lcn
    · exact h4.trans lcn
    · exact h5.trans lcn)
/-- a walk over a drawn range -/
theorem for_drawn {ρ : List Sl} {ω : List D} {E : DE} {t : DTg} {ι : DXi} {τb : DS} (n : Nat) (hι : ∀ Z : List D → Prop, (∀ r : Nat, r < n → Z ((List.range r).map natD)) → ι ρ ω Z) (I : Nat → Nat → List Sl → List D → Prop) (h0 : ∀ r, r < n → I r 0 ρ ω)
    (hs : ∀ r i, r < n → i < r → ∀ ρ ω, I r i ρ ω → ∃ ρ', t ρ (.int (i : Nat)) = some ρ' ∧ τb { nx := I r (i + 1), ct := I r (i + 1), bk := E.nx, rt := E.rt } ρ' ω) (he : ∀ r, r < n → ∀ ρ ω, I r r ρ ω → E.nx ρ ω) : dFor t ι τb E ρ ω :=
  hι _ fun r hr => ⟨I r, h0 r hr, fun i x ρ ω hx hI => by
    obtain ⟨hi, rfl⟩ := map_get hx
    rw [List.length_range] at hi
    rw [List.getElem_range]
    exact hs r i hr hi ρ ω hI, fun ρ ω hI => by
    rw [List.length_map, List.length_range] at hI
    exact he r hr ρ ω hI⟩
/-! drawn places -/
def Bd (i : Int) : Prop := -20 ≤ i ∧ i ≤ 20
/-- numbers that are not great -/
structure PlOk (p : Pl) : Prop where
  k : Bd p.k
  at_ : Bd p.at_
  wh : Bd p.wh
  po : ∀ c v o, p.po = some (c, v, o) → Bd c ∧ Bd v
def RPlaces : List D → (D → Prop) → Prop := fun xs q => ∃ W : Wd, xs = [W.d] ∧ WOk W ∧ ∀ ps : List Pl, ps.length ≤ 6 → (∀ p, p ∈ ps → PlOk p) → q (.lst (ps.map Pl.d))
abbrev NPs : List Str := ["_law_deal", "_law_world", "_law_found", "_law_turn", "_law_pocket", "_law_where"]
theorem scPs : FnScope NPs ["_law_deal", "_law_world"] (defScope sPlaces) := ⟨rfl, rfl, rfl, by decide +kernel, rfl, by decide +kernel, by decide +kernel⟩
theorem ok_places (F : Fun G.K "_law_places" "_law_places" sPlaces f fd) (B : Bl mg) (cAny : Callee P w G.K mg base "_law_any" 1 ["_law_deal", "_law_bound"] (spB G 1 RAny)) (cOf : Callee P w G.K mg base "_law_of" 2 ["_law_deal", "_law_some"] (spB G 1 ROf)) : FnOk P w G.K mg base CX0 3 f fd ["_law_deal", "_law_world"] (spB G 1 RPlaces) :=
  okB F scPs rfl (fun O p q0 cdv A outer s H E hr => by
    have un := hr.units
    have hu := hu_of hr
    exact (ds_cons (ds_new (i := 2) scPs.nd rfl (Or.inl rfl))
 (ds_cons (ds_for PassesOwn.never rfl (di_range (by rfl) B.range (da_cons (d_callB_ cAny (hr.mono (by decide)) (by rfl) (pv 0) (da_cons d_int da_nil)) da_nil)) (pg_name (i := 3) scPs.nd rfl (Or.inl rfl)) to_name
 (ds_cons (ds_set (i := 4) scPs.nd rfl (Or.inl rfl) (d_tup (da_cons (d_callB_ cAny (hr.mono (by decide)) (by rfl) (pv 0) (da_cons (d_callB call_len_seq abs_len (by rfl) B.len PySem.boot_len (da_cons (d_dget hu (dv 1) d_str) da_nil)) da_nil)) (da_cons (d_callB_ cAny (hr.mono (by decide)) (by rfl) (pv 0) (da_cons d_int da_nil)) (da_cons (d_cmp (op_eqA un) abs_eq (d_callB_ cAny (hr.mono (by decide)) (by rfl) (pv 0) (da_cons d_int da_nil)) d_int (nomark _)) da_nil)))))
 (ds_cons (ds_set (i := 5) scPs.nd rfl (Or.inl rfl) (d_callB_ cOf (hr.mono (by decide)) (by rfl) (pv 0) (da_cons (d_lst (da_cons (d_op op_sub abs_int0 d_int d_int) (da_cons (d_op op_sub abs_int0 d_int d_int) (da_cons (d_op op_sub abs_int0 d_int d_int) (da_cons (d_callB_ cAny (hr.mono (by decide)) (by rfl) (pv 0) (da_cons (d_callB call_len_seq abs_len (by rfl) B.len PySem.boot_len (da_cons (d_dget hu (dv 1) d_str) da_nil)) da_nil)) da_nil))))) da_nil)))
 (ds_one (ds_app (i := 2) rfl (.inl rfl) (d_tup (da_cons d_int (da_cons (d_callB_ cAny (hr.mono (by decide)) (by rfl) (pv 0) (da_cons d_int da_nil)) (da_cons (dv 5) (da_cons (d_callB_ cOf (hr.mono (by decide)) (by rfl) (pv 0) (da_cons (d_lst (da_cons d_non (da_cons (dv 4) (da_cons (dv 4) da_nil)))) da_nil)) da_nil))))))))))
 (ds_give (i := 2) (ds_one (ds_ret (d_op op_addA abs_add (dv 2) (d_slice (dv 2) dp_none (dp_some (d_callB_ cAny (hr.mono (by decide)) (by rfl) (pv 0) (da_cons d_int da_nil))))))))))) (fun xs q l r => by
    obtain ⟨W, rfl, ok, k⟩ := r
    have := line
    obtain ⟨f1, f2, f3⟩ := ok.few
    obtain ⟨o1, o2⟩ := ok.one
    have p1 : 1 ≤ W.ps.length := ok.g.p1
    simp
    refine for_drawn 4 (fun Z hz => by simp; exact fun r hr => ⟨by omega, hz r hr⟩) (fun _ i ρ ω => ∃ (s3 s4 s5 : Sl) (ps : List Pl), ps.length = i ∧ (∀ p, p ∈ ps → PlOk p) ∧ ρ = [.box, .dat W.d, .own 0, s3, s4, s5] ∧ ω = [.lst (ps.map Pl.d)]) (fun r hr => ⟨_, _, _, [], rfl, fun _ z => (nomatch z), rfl, rfl⟩) ?_ ?_
    · rintro r i hr hi ρ ω ⟨s3, s4, s5, ps, lp, al, rfl, rfl⟩
      simp [Wd.d, look_cells, look_parts, and_assoc]
      refine ⟨o2, by omega, fun r hr0 r1 h1 r2 _ => ⟨p1, by omega, fun r3 h3 => ?_⟩⟩
      have ln : ps.length < sizeLine := by omega
      have go' : ∀ (a b : Int) (po : Pk) (t3 t4 t5 : Sl), Bd a → Bd b → (∀ c v o, po = some (c, v, o) → Bd c ∧ Bd v) → ∃ (s3 s4 s5 : Sl) (ps1 : List Pl), ps1.length = i + 1 ∧ (∀ p, p ∈ ps1 → PlOk p) ∧ t3 = s3 ∧ t4 = s4 ∧ t5 = s5 ∧ ps.map Pl.d ++ [D.tup [.int 0, .int a, .int b, pkd po]] = ps1.map Pl.d := fun a b po t3 t4 t5 ba bb bp => ⟨_, _, _, ps ++ [⟨0, a, b, po⟩], by rw [List.length_append, lp]; rfl, fun p hp => by
        rcases List.mem_append.mp hp with u | u
        · exact al p u
        · obtain rfl := List.mem_singleton.mp u
          exact ⟨(show Bd 0 from ⟨by decide, by decide⟩), ba, bb, bp⟩, rfl, rfl, rfl, by rw [List.map_append]; rfl⟩
      have bn : ∀ n : Nat, n < 10 → Bd (n : Int) := fun n h => ⟨by omega, by omega⟩
      have b1 : Bd (-1) := ⟨by decide, by decide⟩
      have pn : ∀ (c v : Int) (o : Bool), (none : Pk) = some (c, v, o) → Bd c ∧ Bd v := fun _ _ _ z => nomatch z
      have ps_ : ∀ (o1 : Bool) (c v : Int) (o : Bool), (some ((r : Int), (r1 : Int), o1) : Pk) = some (c, v, o) → Bd c ∧ Bd v := fun o1 c v o z => by
        cases z
        exact ⟨bn r (by omega), bn r1 (by omega)⟩
      exact ⟨ln, fun r4 h4 => ⟨go' _ _ none _ _ _ (bn r4 (by omega)) b1 pn, go' _ _ (some (_, _, _)) _ _ _ (bn r4 (by omega)) b1 (ps_ _)⟩, ln, fun r4 h4 => ⟨go' _ _ none _ _ _ (bn r4 (by omega)) (bn r3 (by omega)) pn, go' _ _ (some (_, _, _)) _ _ _ (bn r4 (by omega)) (bn r3 (by omega)) (ps_ _)⟩⟩
    · rintro r hr ρ ω ⟨s3, s4, s5, ps, lp, al, rfl, rfl⟩
      simp
      intro m hm
      have h2 := k (ps ++ ps.take m) (by rw [List.length_append, List.length_take]; omega) (fun p hp => (List.mem_append.mp hp).elim (al p) fun z => al p (List.mem_of_mem_take z))
      rw [List.map_append, List.map_take] at h2
      exact ⟨by omega, h2⟩)
end
end K18

namespace K18
open PySem PySem.Spec PyProof.Rows L2
open DL
/-! ### a drawn program: whatever it is -/
abbrev wkeys5 : List Str := ["parts", "doors", "cells", "names", "deeds"]
def Wd.vals5 (W : Wd) : List D := [.lst (W.ps.map D.str), .lst (W.ds.map doorD), .lst (W.cs.map cellD), .lst [.str "k", .str "other"], .lst []]
theorem look5_doors {W : Wd} : lookD wkeys5 W.vals5 "doors" = some (.lst (W.ds.map doorD)) := by
  show (if ("parts" : Str) = "doors" then _ else _) = _
  rw [if_neg (by decide +kernel)]
  rfl
theorem look5_cells {W : Wd} : lookD wkeys5 W.vals5 "cells" = some (.lst (W.cs.map cellD)) := by
  show (if ("parts" : Str) = "cells" then _ else _) = _
  rw [if_neg (by decide +kernel)]
  show (if ("doors" : Str) = "cells" then _ else _) = _
  rw [if_neg (by decide +kernel)]
  rfl
def P0 : List D → Prop := fun xs => ∃ (W : Wd) (many : Nat), xs = [.dic wkeys5 W.vals5, .int (many : Nat)] ∧ 1 ≤ many ∧ many ≤ 20 ∧ 1 ≤ W.ds.length ∧ W.ds.length ≤ 3 ∧ 1 ≤ W.cs.length ∧ W.cs.length ≤ 2
section
variable {P : Program} {w : World} {mg : Str → Option Value} {base : Heap} {G : DG} {f : Addr} {fd : FuncData}
theorem of_strs {ws : List Str} {Z : D → Prop} (h : ∀ x, x ∈ ws → Z (.str x)) : ∀ d, d ∈ ws.map D.str → Z d := fun d hd => by
  obtain ⟨x, hx, rfl⟩ := List.mem_map.mp hd
  exact h x hx
theorem of_words {ws : List Str} {ds : List D} {Z : D → Prop} (e : ds = ws.map D.str) (h1 : ws ≠ []) (h2 : ws.length ≤ 1000) (h : ∀ x : Str, Z (.str x)) : ROf [.lst ds] Z := by
  subst e
  refine ⟨_, rfl, fun z => h1 (List.map_eq_nil_iff.mp z), by rwa [List.length_map], fun d hd => ?_⟩
  obtain ⟨x, _, rfl⟩ := List.mem_map.mp hd
  exact h x
abbrev NPr : List Str := ["_law_deal", "_law_world", "_law_many", "_law_doors", "_law_cells", "_law_rows", "_law_word", "_law_door", "_law_cell"]
theorem scPr : FnScope NPr ["_law_deal", "_law_world", "_law_many"] (defScope sProgram) := ⟨rfl, rfl, rfl, by decide +kernel, rfl, by decide +kernel, by decide +kernel⟩
theorem ok_program0 (F : Fun G.K "_law_program" "_law_program" sProgram f fd) (B : Bl mg) (cAny : Callee P w G.K mg base "_law_any" 1 ["_law_deal", "_law_bound"] (spB G 1 RAny)) (cOf : Callee P w G.K mg base "_law_of" 2 ["_law_deal", "_law_some"] (spB G 1 ROf)) : FnOk P w G.K mg base CX0 3 f fd ["_law_deal", "_law_world", "_law_many"] (spB G 2 fun xs q => P0 xs ∧ ∀ d, q d) :=
  okB F scPr rfl (fun O p q0 cdv A outer s H E hr => by
    have un := hr.units
    have hu := hu_of hr
    exact (ds_cons (ds_par (i := 3) (j := 4) rfl scPr.nd rfl rfl (by decide) rfl rfl (da_cons (d_lc (own := [("_law_door", 7)]) rfl scPr.nd (di_seq (d_dget hu (dv 1) d_str)) (blkOk_by (own := [("_law_door", 7)]) (N := NPr) (sc := defScope sProgram) (by decide +kernel)) (fun _ _ _ _ _ => (pg_name (i := 7) scPr.nd rfl (Or.inl rfl))) to_name (by decide) (fun _ _ _ _ _ => pts_nil) (fun _ _ _ => yes_ok) (fun _ _ _ _ _ => (d_ix (dv 7) d_int))) (da_cons (d_lc (own := [("_law_cell", 8)]) rfl scPr.nd (di_seq (d_dget hu (dv 1) d_str)) (blkOk_by (own := [("_law_cell", 8)]) (N := NPr) (sc := defScope sProgram) (by decide +kernel)) (fun _ _ _ _ _ => (pg_name (i := 8) scPr.nd rfl (Or.inl rfl))) to_name (by decide) (fun _ _ _ _ _ => pts_nil) (fun _ _ _ => yes_ok) (fun _ _ _ _ _ => (d_ix (dv 8) d_int))) da_nil)) (by rfl))
 (ds_cons (ds_own (i := 5) scPr.nd rfl (Or.inl rfl) (f_if (d_tcmp op_gt abs_cmp0 (d_callB_ cAny (hr.mono (by decide)) (by rfl) (pv 0) (da_cons d_int da_nil)) d_int (nomark _)) (f_lst (da_cons (d_tup (da_cons d_str (da_cons (d_ix (dv 3) d_int) da_nil))) da_nil)) (f_lst (da_cons (d_tup (da_cons d_str (da_cons (d_ix (dv 4) d_int) da_nil))) da_nil))))
 (ds_cons (ds_while PassesOwn.never (d_tcmp op_lt abs_cmp0 (d_lenOwn (by rfl) (by rfl) B.len (pv 5)) (dv 2) (nomark _))
 (ds_cons (ds_set (i := 6) scPr.nd rfl (Or.inl rfl) (d_callB_ cOf (hr.mono (by decide)) (by rfl) (pv 0) (da_cons (d_lst (da_cons d_str (da_cons d_str (da_cons d_str (da_cons d_str (da_cons d_str (da_cons d_str (da_cons d_str (da_cons d_str (da_cons d_str (da_cons d_str (da_cons d_str (da_cons d_str (da_cons d_str (da_cons d_str (da_cons d_str da_nil)))))))))))))))) da_nil)))
 (ds_one (ds_if (d_tcmp op_in_seq abs_in (dv 6) (d_tup (da_cons d_str (da_cons d_str (da_cons d_str da_nil)))) (by rfl))
 (ds_one (ds_app (i := 5) rfl (.inl rfl) (d_tup (da_cons (dv 6) (da_cons (d_callB_ cOf (hr.mono (by decide)) (by rfl) (pv 0) (da_cons (dv 3) da_nil)) da_nil)))))
 (ds_one (ds_if (d_tcmp op_in_seq abs_in (dv 6) (d_tup (da_cons d_str (da_cons d_str (da_cons d_str da_nil)))) (by rfl))
 (ds_one (ds_app (i := 5) rfl (.inl rfl) (d_tup (da_cons (dv 6) (da_cons (d_callB_ cOf (hr.mono (by decide)) (by rfl) (pv 0) (da_cons (dv 4) da_nil)) da_nil)))))
 (ds_one (ds_if (d_tcmp op_in_seq abs_in (dv 6) (d_tup (da_cons d_str (da_cons d_str da_nil))) (by rfl))
 (ds_one (ds_app (i := 5) rfl (.inl rfl) (d_tup (da_cons (dv 6) (da_cons (d_callB_ cOf (hr.mono (by decide)) (by rfl) (pv 0) (da_cons (dv 4) da_nil)) (da_cons (d_callB_ cAny (hr.mono (by decide)) (by rfl) (pv 0) (da_cons d_int da_nil)) da_nil))))))
 (ds_one (ds_if (d_tcmp (op_eqA un) abs_eq (dv 6) d_str (nomark _))
 (ds_one (ds_app (i := 5) rfl (.inl rfl) (d_tup (da_cons (dv 6) (da_cons (d_callB_ cAny (hr.mono (by decide)) (by rfl) (pv 0) (da_cons d_int da_nil)) (da_cons (d_callB_ cAny (hr.mono (by decide)) (by rfl) (pv 0) (da_cons (d_op op_addA abs_add (dv 2) d_int) da_nil)) da_nil))))))
 (ds_one (ds_app (i := 5) rfl (.inl rfl) (d_tup (da_cons (dv 6) (da_cons (d_callB_ cAny (hr.mono (by decide)) (by rfl) (pv 0) (da_cons (d_op op_addA abs_add (dv 2) d_int) da_nil)) da_nil)))))))))))))))
 (ds_give (i := 5) (ds_one (ds_ret (dv 5)))))))) (fun xs q l r => by
    obtain ⟨⟨W, many, rfl, m1, m2, d1, d2, c1, c2⟩, k⟩ := r
    have := line
    simp
    refine lc_map (xs := W.ds.map doorD) (fun d => (ixD d (.int 0)).getD .non) (fun q h => by simpa [look5_doors, and_assoc] using h) (by rw [List.length_map]; omega) (fun x hx => ?_) ?_
    · obtain ⟨d, _, rfl⟩ := List.mem_map.mp hx
      refine ⟨_, rfl, fun acc q' h => ?_⟩
      simpa [doorD] using h
    refine lc_map (xs := W.cs.map cellD) (fun d => (ixD d (.int 0)).getD .non) (fun q h => by simpa [look5_cells, and_assoc] using h) (by rw [List.length_map]; omega) (fun x hx => ?_) ?_
    · obtain ⟨d, _, rfl⟩ := List.mem_map.mp hx
      refine ⟨_, rfl, fun acc q' h => ?_⟩
      simpa [cellD] using h
    have ed : ((W.ds.map doorD).map fun d => (ixD d (.int 0)).getD .non) = (W.ds.map (·.1)).map D.str := by rw [List.map_map, List.map_map]; rfl
    have ec : ((W.cs.map cellD).map fun d => (ixD d (.int 0)).getD .non) = (W.cs.map (·.1)).map D.str := by rw [List.map_map, List.map_map]; rfl
    rw [ed, ec]
    obtain ⟨dn, hdn, ld⟩ : ∃ dn, W.ds.map (·.1) = dn ∧ dn.length = W.ds.length := ⟨_, rfl, List.length_map _⟩
    obtain ⟨cn, hcn, lc⟩ : ∃ cn, W.cs.map (·.1) = cn ∧ cn.length = W.cs.length := ⟨_, rfl, List.length_map _⟩
    rw [hdn, hcn]
    obtain ⟨dx, dr, rfl⟩ : ∃ x r, dn = x :: r := by
      cases dn with
      | nil => simp at ld; omega
      | cons x r => exact ⟨x, r, rfl⟩
    obtain ⟨cx, cr, rfl⟩ : ∃ x r, cn = x :: r := by
      cases cn with
      | nil => simp at lc; omega
      | cons x r => exact ⟨x, r, rfl⟩
    simp only [List.length_cons] at ld lc
    refine ⟨_, _, ⟨rfl, rfl⟩, ?_⟩
    intro r hr
    refine (Nat.eq_zero_or_pos r).elim (fun e => .inl ⟨e, .str cx, by rw [ixD_lst, atI_0]; rfl, ?_⟩) (fun e => .inr ⟨e, .str dx, by rw [ixD_lst, atI_0]; rfl, ?_⟩)
    all_goals
      refine ⟨fun m ρ ω => ∃ s6 rs, ρ = [Sl.box, Sl.dat (D.dic wkeys5 W.vals5), Sl.dat (D.int (many : Nat)), Sl.dat (D.lst (List.map D.str (dx :: dr))), Sl.dat (D.lst (List.map D.str (cx :: cr))), Sl.own 0, s6, Sl.any, Sl.any] ∧ ω = [.lst rs] ∧ 1 ≤ rs.length ∧ rs.length + m = many, ⟨many - 1, _, _, rfl, rfl, by simp, by simp; omega⟩, ?_⟩
      rintro m ρ ω ⟨s6, rs, rfl, rfl, l1, l2⟩
      have l3 : rs.length < sizeLine := by omega
      simp [-ROf_eq]
      refine (Nat.lt_or_ge rs.length many).elim (fun h => .inr ⟨h, of_words (ws := ["go", "go", "go", "see", "see", "set", "set", "tell", "use", "use", "wait", "shut", "open", "when", "again"]) rfl (by decide) (by decide) fun w => ?_⟩) (fun h => .inl ⟨h, k _⟩)
      have L : ∃ m', m' < m ∧ rs.length + 1 + m' = many := ⟨m - 1, by omega, by omega⟩
      have cO : ROf [D.lst (D.str cx :: List.map D.str cr)] fun _ => True := ⟨_, rfl, by simp, by simp; omega, fun _ _ => trivial⟩
      have dO : ROf [D.lst (D.str dx :: List.map D.str dr)] fun _ => True := ⟨_, rfl, by simp, by simp; omega, fun _ _ => trivial⟩
      have aO : RAny [D.int ((many : Int) + 1)] fun _ => True := ⟨many + 1, by simp, by omega, by omega, fun _ _ => trivial⟩
      simp [L, l3, -ROf_eq, cO, dO, aO]
      grind)
end
end K18

namespace K18
open PySem PySem.Spec PyProof.Rows L2
open DL
/-! ### a drawn world -/
abbrev N7 : List Str := ["p", "q", "d", "e", "f", "x", "y"]
/-- a world as it is drawn: its names are of seven, its kinds are told by nothing -/
structure WDr (W : Wd) : Prop where
  ok : WOk W
  n7 : ∀ x, x ∈ (hOf W).names → x ∈ N7
  ki : ∃ n, W.ki = .lst (List.replicate n .any)
  eb : ∀ d, d ∈ W.ds → (-1 ≤ d.2.1 ∧ d.2.1 < (W.ps.length : Nat)) ∧ -1 ≤ d.2.2.1 ∧ d.2.2.1 < (W.ps.length : Nat)
def RDrawn : List D → (D → Prop) → Prop := fun xs q => xs = [.int 3, .int 0] ∧ ∀ W : Wd, WDr W → q W.d
abbrev pnames (n : Nat) : List Str := (["p", "q"] : List Str).take n
abbrev dnames (n : Nat) : List Str := "d" :: (["e", "f"] : List Str).take n
abbrev cnames (n : Nat) : List Str := (["x", "y"] : List Str).take n
def GoodDs (n i : Nat) (ds : List (Str × Int × Int × Bool)) : Prop := ds.map (·.1) = dnames i ∧ ∀ d, d ∈ ds → -1 ≤ d.2.1 ∧ d.2.1 < n ∧ -1 ≤ d.2.2.1 ∧ d.2.2.1 < n ∧ d.2.1 ≠ d.2.2.1
def GoodCs (n i : Nat) (cs : List (Str × Nat × Bool)) : Prop := cs.map (·.1) = cnames i ∧ ∀ c, c ∈ cs → c.2.1 < n
theorem ends_at {n : Nat} (h : n < 3) (i : Int) (l : -1 ≤ i) (u : i < n) : EndIn (pnames n) (endS (pnames n) i) := by
  have hn : n = 0 ∨ n = 1 ∨ n = 2 := by omega
  have hi : i = -1 ∨ i = 0 ∨ i = 1 := by omega
  rcases hn with rfl | rfl | rfl <;> rcases hi with rfl | rfl | rfl <;> first | exact absurd u (by decide) | exact .inl rfl | exact .inr (by decide +kernel)
theorem ends_ne {n : Nat} (h : n < 3) (i j : Int) (l : -1 ≤ i) (u : i < n) (l' : -1 ≤ j) (u' : j < n) (ne : i ≠ j) : endS (pnames n) i ≠ endS (pnames n) j := by
  have hn : n = 0 ∨ n = 1 ∨ n = 2 := by omega
  have hi : i = -1 ∨ i = 0 ∨ i = 1 := by omega
  have hj : j = -1 ∨ j = 0 ∨ j = 1 := by omega
  rcases hn with rfl | rfl | rfl <;> rcases hi with rfl | rfl | rfl <;> rcases hj with rfl | rfl | rfl <;> first | exact absurd u (by decide) | exact absurd u' (by decide) | exact absurd rfl ne | decide +kernel
theorem names_ok : ∀ (a b c : Fin 3), 1 ≤ a.val → 1 ≤ c.val → (pnames a ++ (dnames b ++ cnames c)).Nodup ∧ (∀ x, x ∈ pnames a ++ (dnames b ++ cnames c) → nameOk x = true ∧ x ∈ N7) ∧ (pnames a).Nodup := by decide +kernel
theorem pn_len {n : Nat} (h : n < 3) : (pnames n).length = n := by
  rw [List.length_take]
  show min n 2 = n
  omega
theorem mk_ok {n j l : Nat} {ds : List (Str × Int × Int × Bool)} {cs : List (Str × Nat × Bool)} {ki : D} (h1 : 1 ≤ n) (h2 : n < 3) (h3 : j < 3) (h4 : 1 ≤ l) (h5 : l < 3) (gd : GoodDs n j ds) (gc : GoodCs n l cs) (hki : ∃ n, ki = .lst (List.replicate n .any)) : WDr ⟨pnames n, ds, cs, ki⟩ := by
  obtain ⟨n1, n2, n3⟩ := names_ok ⟨n, h2⟩ ⟨j, h3⟩ ⟨l, h5⟩ h1 h4
  have lp := pn_len h2
  have ld : ds.length = j + 1 := by
    have := congrArg List.length gd.1
    rw [List.length_map, List.length_cons, List.length_take] at this
    rw [this]
    show min j 2 + 1 = j + 1
    omega
  have lc : cs.length = l := by
    have := congrArg List.length gc.1
    rw [List.length_map, List.length_take] at this
    rw [this]
    show min l 2 = l
    omega
  have en : (hOf ⟨pnames n, ds, cs, ki⟩).names = pnames n ++ (dnames j ++ cnames l) := by
    rw [← gd.1, ← gc.1]
    unfold Hs.names hOf
    rw [List.map_map, List.map_map]
    rfl
  refine ⟨⟨⟨?_, ?_, ?_, ?_, by rw [en]; exact n1, by rw [en]; exact fun x hx => (n2 x hx).1, fun d hd => ?_, fun c hc => ?_⟩, fun c hc => ?_, n3, ⟨?_, ?_, ?_⟩, ?_, ?_⟩, by rw [en]; exact fun x hx => (n2 x hx).2, hki, fun d hd => by show (_ ∧ _ < (((pnames n).length : Nat) : Int)) ∧ _ ∧ _ < (((pnames n).length : Nat) : Int); rw [lp]; obtain ⟨a, b, c, e, _⟩ := gd.2 d hd; exact ⟨⟨a, b⟩, c, e⟩⟩
  · show 1 ≤ (pnames n).length; omega
  · show (pnames n).length ≤ 8; omega
  · show (ds.map _).length ≤ 12; rw [List.length_map]; omega
  · show (cs.map _).length ≤ 8; rw [List.length_map]; omega
  · obtain ⟨d', hd', rfl⟩ := List.mem_map.mp hd
    obtain ⟨a, b, c, e, ne⟩ := gd.2 d' hd'
    exact ⟨ends_at h2 _ a b, ends_at h2 _ c e, ends_ne h2 _ _ a b c e ne⟩
  · obtain ⟨c', hc', rfl⟩ := List.mem_map.mp hc
    have lt := gc.2 c' hc'
    show (pnames n).getD c'.2.1 "out" ∈ pnames n
    rw [List.getD_eq_getElem?_getD, List.getElem?_eq_getElem (by rw [lp]; exact lt)]
    exact List.getElem_mem _
  · show c.2.1 < (pnames n).length
    rw [lp]
    exact gc.2 c hc
  · show (pnames n).length ≤ 2; omega
  · show ds.length ≤ 3; omega
  · show cs.length ≤ 2; omega
  · show 1 ≤ ds.length; omega
  · show 1 ≤ cs.length; omega
section
variable {ρ : List Sl} {ω : List D} {E : DE} {t : DTg} {ι : DXi} {τb : DS}
theorem for_none (hι : ∀ Z : List D → Prop, Z [] → ι ρ ω Z) (h : E.nx ρ ω) : dFor t ι τb E ρ ω :=
  hι _ ⟨fun _ ρ' ω' => ρ' = ρ ∧ ω' = ω, ⟨rfl, rfl⟩, fun i x _ _ hx => (nomatch hx), fun _ _ ⟨e1, e2⟩ => by rw [e1, e2]; exact h⟩
theorem for_some {n : Nat} (f : Nat → List D) (hι : ∀ Z : List D → Prop, (∀ r : Nat, r < n → Z (f r)) → ι ρ ω Z) (h : ∀ r, r < n → dFor t (fun _ _ Z => Z (f r)) τb E ρ ω) : dFor t ι τb E ρ ω := hι _ fun r hr => h r hr
theorem lc_some {js : List Nat} {τt : DXt} {τe : DX} {q : D → Prop} {n : Nat} (f : Nat → List D) (hι : ∀ Z : List D → Prop, (∀ r : Nat, r < n → Z (f r)) → ι ρ ω Z) (h : ∀ r, r < n → dLc js t (fun _ _ Z => Z (f r)) τt τe ρ ω q) : dLc js t ι τt τe ρ ω q := hι _ fun r hr => h r hr
end
section
variable {P : Program} {w : World} {mg : Str → Option Value} {base : Heap} {G : DG} {f : Addr} {fd : FuncData}
abbrev NDr : List Str := ["_law_deal", "_law_most", "_law_deeds", "_law_parts", "_law_doors", "_law_name", "_law_one", "_law_other", "_law_cells", "_law_world", "_law_turn", "_law_word", "_law_names", "_law_number", "_law_end", "_law_thing"]
theorem scDr : FnScope NDr ["_law_deal", "_law_most", "_law_deeds"] (defScope sDrawn) := ⟨rfl, rfl, rfl, by decide +kernel, rfl, by decide +kernel, by decide +kernel⟩
theorem ok_drawn (F : Fun G.K "_law_drawn" "_law_drawn" sDrawn f fd) (B : Bl mg) (cAny : Callee P w G.K mg base "_law_any" 1 ["_law_deal", "_law_bound"] (spB G 1 RAny)) (cOf : Callee P w G.K mg base "_law_of" 2 ["_law_deal", "_law_some"] (spB G 1 ROf)) (cProg : Callee P w G.K mg base "_law_program" 3 ["_law_deal", "_law_world", "_law_many"] (spB G 2 fun xs q => P0 xs ∧ q .any)) : FnOk P w G.K mg base CX0 4 f fd ["_law_deal", "_law_most", "_law_deeds"] (spB G 2 RDrawn) :=
  okB F scDr rfl (fun O p q0 cdv A outer s H E hr => by
    have un := hr.units
    have hu := hu_of hr
    exact (ds_cons (ds_set (i := 3) scDr.nd rfl (Or.inr rfl) (d_slice (d_lst (da_cons d_str (da_cons d_str da_nil))) dp_none (dp_some (d_op op_addA abs_add d_int (d_callB_ cAny (hr.mono (by decide)) (by rfl) (pv 0) (da_cons d_int da_nil))))))
 (ds_cons (ds_own (i := 4) scDr.nd rfl (Or.inl rfl) (f_lst (da_cons (d_tup (da_cons d_str (da_cons (d_op op_sub abs_int0 d_int d_int) (da_cons d_int (da_cons (d_cmp op_gt abs_cmp0 (d_callB_ cAny (hr.mono (by decide)) (by rfl) (pv 0) (da_cons d_int da_nil)) d_int (nomark _)) da_nil))))) da_nil)))
 (ds_cons (ds_for PassesOwn.never rfl (di_seq (d_slice (d_lst (da_cons d_str (da_cons d_str da_nil))) dp_none (dp_some (d_callB_ cAny (hr.mono (by decide)) (by rfl) (pv 0) (da_cons d_int da_nil))))) (pg_name (i := 5) scDr.nd rfl (Or.inl rfl)) to_name
 (ds_cons (ds_set (i := 6) scDr.nd rfl (Or.inr rfl) (d_op op_sub abs_int0 (d_callB_ cAny (hr.mono (by decide)) (by rfl) (pv 0) (da_cons (d_op op_addA abs_add (d_callB call_len_seq abs_len (by rfl) B.len PySem.boot_len (da_cons (dv 3) da_nil)) d_int) da_nil)) d_int))
 (ds_cons (ds_set (i := 7) scDr.nd rfl (Or.inl rfl) (d_callB_ cOf (hr.mono (by decide)) (by rfl) (pv 0) (da_cons (d_lc (own := [("_law_end", 14)]) rfl scDr.nd (di_range2 (by rfl) B.range (da_cons (d_op op_sub abs_int0 d_int d_int) (da_cons (d_callB call_len_seq abs_len (by rfl) B.len PySem.boot_len (da_cons (dv 3) da_nil)) da_nil))) (blkOk_by (own := [("_law_end", 14)]) (N := NDr) (sc := defScope sDrawn) (by decide +kernel)) (fun _ _ _ _ _ => (pg_name (i := 14) scDr.nd rfl (Or.inl rfl))) to_name (by decide) (fun _ _ _ _ _ => pts_D (d_tcmp (op_neA un) abs_ne (dv 14) (dv 6) (nomark _))) (fun _ _ _ z => z) (fun _ _ _ _ _ => (dv 14))) da_nil)))
 (ds_one (ds_app (i := 4) rfl (.inl rfl) (d_tup (da_cons (dv 5) (da_cons (dv 6) (da_cons (dv 7) (da_cons (d_cmp op_gt abs_cmp0 (d_callB_ cAny (hr.mono (by decide)) (by rfl) (pv 0) (da_cons d_int da_nil)) d_int (nomark _)) da_nil))))))))))
 (ds_cons (ds_setLc (i := 8) rfl scDr.nd rfl rfl (sw_true rfl rfl rfl (by decide +kernel)) (own := [("_law_name", 5)]) (di_seq (d_slice (d_lst (da_cons d_str (da_cons d_str da_nil))) dp_none (dp_some (d_op op_addA abs_add d_int (d_callB_ cAny (hr.mono (by decide)) (by rfl) (pv 0) (da_cons d_int da_nil)))))) (blkOk_by (own := [("_law_name", 5)]) (N := NDr) (sc := defScope sDrawn) (by decide +kernel)) (fun _ _ _ _ _ => (pg_name (i := 5) scDr.nd rfl (Or.inl rfl))) to_name (by decide) (fun _ _ _ _ _ => pts_nil) (fun _ _ _ => yes_ok) (fun _ _ _ _ _ => (d_tup (da_cons (dv 5) (da_cons (d_callB_ cAny (hr.mono (by decide)) (by rfl) (pv 0) (da_cons (d_callB call_len_seq abs_len (by rfl) B.len PySem.boot_len (da_cons (dv 3) da_nil)) da_nil)) (da_cons (d_cmp (op_eqA un) abs_eq (d_callB_ cAny (hr.mono (by decide)) (by rfl) (pv 0) (da_cons d_int da_nil)) d_int (nomark _)) da_nil))))))
 (ds_give (i := 4) (ds_cons (ds_ownD (i := 9) scDr.nd rfl (Or.inr rfl) (dpp_cons (dv 3) (dpp_cons (dv 4) (dpp_cons (dv 8) (dpp_cons (d_lst (da_cons d_str (da_cons d_str da_nil))) (dpp_cons (d_lst da_nil) dpp_nil))))))
 (ds_cons (ds_putOwn hu (pv 9) (d_lc (own := [("_law_number", 13)]) rfl scDr.nd (di_range (by rfl) B.range (da_cons (d_op op_addA abs_add d_int (d_callB_ cAny (hr.mono (by decide)) (by rfl) (pv 0) (da_cons d_int da_nil))) da_nil)) (blkOk_by (own := [("_law_number", 13)]) (N := NDr) (sc := defScope sDrawn) (by decide +kernel)) (fun _ _ _ _ _ => (pg_name (i := 13) scDr.nd rfl (Or.inl rfl))) to_name (by decide) (fun _ _ _ _ _ => pts_nil) (fun _ _ _ => yes_ok) (fun _ _ _ _ _ => (d_lend cProg (hr.mono (by decide)) (by rfl) (pv 0) (pv 9) (da_cons (d_op op_addA abs_add d_int (d_callB_ cAny (hr.mono (by decide)) (by rfl) (pv 0) (da_cons (dv 1) da_nil))) da_nil)))))
 (ds_cons (ds_for PassesOwn.never rfl (di_range (by rfl) B.range (da_cons (d_callB_ cAny (hr.mono (by decide)) (by rfl) (pv 0) (da_cons (d_op op_addA abs_add (dv 2) d_int) da_nil)) da_nil)) (pg_name (i := 10) scDr.nd rfl (Or.inl rfl)) to_name
 (ds_cons ds_never (ds_cons ds_never (ds_one ds_never))))
 (ds_give (i := 9) (ds_one (ds_ret (dv 9))))))))))))) (fun xs q l r => by
    obtain ⟨rfl, k⟩ := r
    have := line
    simp
    intro r hr r1 hr1
    have ep : cut [D.str "p", D.str "q"] none (some (1 + (r : Int))) = (pnames (r + 1)).map D.str := by
      have h : r = 0 ∨ r = 1 := by omega
      rcases h with rfl | rfl <;> rfl
    rw [ep]
    have lp : (pnames (r + 1)).length = r + 1 := pn_len (by omega)
    have fin : ∀ j l (ds : List (Str × Int × Int × Bool)) (cs : List (Str × Nat × Bool)) (ki : D), j < 3 → 1 ≤ l → l < 3 → GoodDs (r + 1) j ds → GoodCs (r + 1) l cs → (∃ n, ki = .lst (List.replicate n .any)) → WDr ⟨pnames (r + 1), ds, cs, ki⟩ := fun j l ds cs ki a b c d e f => mk_ok (by omega) (by omega) a b c d e f
    generalize pnames (r + 1) = ps at lp fin
    refine for_some (n := 3) (fun j => ((["e", "f"] : List Str).take j).map D.str) (fun Z hz => by simpa using hz) fun j hj => ?_
    have lj : ((["e", "f"] : List Str).take j).length = j := by
      rw [List.length_take]
      show min j 2 = j
      omega
    obtain ⟨es, hes⟩ : ∃ es, (["e", "f"] : List Str).take j = es := ⟨_, rfl⟩
    rw [hes] at lj ⊢
    refine for_known (xs := es.map D.str) (fun i ρ ω => ∃ s5 s6 s7 ds, GoodDs (r + 1) i ds ∧ ρ = [Sl.box, .dat (.int 3), .dat (.int 0), .dat (.lst (ps.map D.str)), .own 0, s5, s6, s7, .any, .any, .any, .any, .any, .any, .any, .any] ∧ ω = [.lst (ds.map doorD)]) (fun q h => h) ⟨_, _, _, [("d", -1, 0, decide (0 < r1))], ⟨rfl, fun d hd => ?_⟩, rfl, rfl⟩ ?_ ?_
    · obtain rfl := List.mem_singleton.mp hd
      exact ⟨(show (-1 : Int) ≤ -1 by decide), (show (-1 : Int) < ((r + 1 : Nat) : Int) by omega), (show (-1 : Int) ≤ 0 by decide), (show (0 : Int) < ((r + 1 : Nat) : Int) by omega), (show (-1 : Int) ≠ 0 by decide)⟩
    · rintro i x ρ ω hx ⟨s5, s6, s7, ds, gd, rfl, rfl⟩
      obtain ⟨hi, rfl⟩ := map_get hx
      have hd1 : (["e", "f"] : List Str).take i ++ [es[i]] = (["e", "f"] : List Str).take (i + 1) := by
        subst hes
        rw [List.getElem_take, ← List.take_succ_eq_append_getElem]
      have lds : ds.length < sizeLine := by
        have := congrArg List.length gd.1
        rw [List.length_map, List.length_cons, List.length_take] at this
        omega
      generalize es[i] = nm at hd1
      simp
      refine ⟨r + 1 + 1, by simp [lp], by omega, by omega, fun one ho => ⟨_, rfl, ?_⟩⟩
      refine lc_known (xs := (List.range (r + 2)).map fun m => D.int (-1 + (m : Nat))) (fun m acc => ∃ es : List Int, acc = es.map D.int ∧ es.length ≤ m ∧ (∀ e, e ∈ es → -1 ≤ e ∧ e < (r + 1 : Nat) ∧ e ≠ (one : Int) - 1) ∧ ∀ z : Nat, z < m → (-1 + (z : Int)) ≠ (one : Int) - 1 → (-1 + (z : Int)) ∈ es) (fun q h => ?_) (by rw [List.length_map, List.length_range]; omega) ⟨[], rfl, Nat.le_refl _, fun _ z => (nomatch z), fun z hz => (nomatch hz)⟩ ?_ ?_
      · unfold dRng2
        simp
        refine ⟨_, _, ⟨rfl, rfl⟩, ⟨by decide, by decide, by omega, by omega⟩, ?_⟩
        rw [lp, show (((r + 1 : Nat) : Int) - -1).toNat = r + 2 by omega]
        exact h
      · rintro m x acc hx la ⟨es, rfl, le, h1, h2⟩
        obtain ⟨hm, rfl⟩ := map_get hx
        rw [List.length_range] at hm
        rw [List.getElem_range]
        simp
        rcases Decidable.em ((-1 : Int) + (m : Int) = (one : Int) - 1) with e | e
        · refine .inl ⟨e, es, rfl, by omega, fun e he => ⟨(h1 e he).1, by have := (h1 e he).2.1; omega, (h1 e he).2.2⟩, fun z hz ne => ?_⟩
          rcases Nat.lt_or_ge z m with u | u
          · exact h2 z u ne
          · exact absurd (show (-1 : Int) + (z : Int) = (one : Int) - 1 by omega) ne
        · refine .inr ⟨e, es ++ [-1 + (m : Int)], by rw [List.map_append]; rfl, by rw [List.length_append]; exact Nat.succ_le_succ le, fun e' he => ?_, fun z hz ne => ?_⟩
          · rcases List.mem_append.mp he with u | u
            · exact ⟨(h1 e' u).1, by have := (h1 e' u).2.1; omega, (h1 e' u).2.2⟩
            · obtain rfl := List.mem_singleton.mp u
              exact ⟨by omega, by omega, e⟩
          · rcases Nat.lt_or_ge z m with u | u
            · exact List.mem_append_left _ (h2 z u ne)
            · obtain rfl : z = m := by omega
              exact List.mem_append_right _ (List.mem_singleton.mpr rfl)
      · rintro acc ⟨es, rfl, le, h1, h2⟩
        rw [List.length_map, List.length_range] at le h2
        have ne : es ≠ [] := fun z => by
          subst z
          rcases Decidable.em (one = 0) with e | e
          · exact nomatch h2 1 (by omega) (by omega)
          · exact nomatch h2 0 (by omega) (by omega)
        refine ⟨_, rfl, fun z => ne (List.map_eq_nil_iff.mp z), by rw [List.length_map]; omega, fun d hd => ⟨lds, fun r2 hr2 => ?_⟩⟩
        obtain ⟨e, he, rfl⟩ := List.mem_map.mp hd
        obtain ⟨a, b, c⟩ := h1 e he
        refine ⟨_, _, _, ds ++ [(nm, (one : Int) - 1, e, decide (0 < r2))], ⟨?_, fun d hd => ?_⟩, ⟨rfl, rfl, rfl⟩, by rw [List.map_append]; simp [doorD]⟩
        · rw [List.map_append, gd.1]
          show ("d" : Str) :: ((["e", "f"] : List Str).take i ++ [nm]) = _
          rw [hd1]
        · rcases List.mem_append.mp hd with u | u
          · exact gd.2 d u
          · obtain rfl := List.mem_singleton.mp u
            refine ⟨?_, ?_, a, b, Ne.symm c⟩
            · show (-1 : Int) ≤ (one : Int) - 1; omega
            · show (one : Int) - 1 < ((r + 1 : Nat) : Int); omega
    rintro ρ ω ⟨s5, s6, s7, ds, gd, rfl, rfl⟩
    rw [List.length_map, lj] at gd
    simp
    refine lc_some (n := 2) (fun l => (cnames (l + 1)).map D.str) (fun Z hz => by
      simp
      intro l hl
      have h := hz l hl
      have ep : cut [D.str "x", D.str "y"] none (some (1 + (l : Int))) = (cnames (l + 1)).map D.str := by
        have h : l = 0 ∨ l = 1 := by omega
        rcases h with rfl | rfl <;> rfl
      rw [ep]
      exact h) fun l hl => ?_
    have ll : (cnames (l + 1)).length = l + 1 := by
      rw [List.length_take]
      show min (l + 1) 2 = l + 1
      omega
    obtain ⟨es, hes⟩ : ∃ es, cnames (l + 1) = es := ⟨_, rfl⟩
    rw [hes] at ll ⊢
    refine lc_known (xs := es.map D.str) (fun m acc => ∃ cs : List (Str × Nat × Bool), acc = cs.map cellD ∧ GoodCs (r + 1) m cs) (fun q h => h) (by rw [List.length_map]; omega) ⟨[], rfl, rfl, fun _ z => (nomatch z)⟩ ?_ ?_
    · rintro m x acc hx la ⟨cs, rfl, gc⟩
      obtain ⟨hm, rfl⟩ := map_get hx
      have hd1 : cnames m ++ [es[m]] = cnames (m + 1) := by
        subst hes
        rw [List.getElem_take, ← List.take_succ_eq_append_getElem]
      generalize es[m] = nm at hd1
      simp
      refine ⟨by omega, by omega, fun r2 hr2 r3 _ => ?_⟩
      refine ⟨cs ++ [(nm, r2, decide ((r3 : Int) = 0))], by rw [List.map_append]; simp [cellD], ?_, fun c hc => ?_⟩
      · rw [List.map_append, gc.1]
        exact hd1
      · rcases List.mem_append.mp hc with u | u
        · exact gc.2 c u
        · obtain rfl := List.mem_singleton.mp u
          show r2 < r + 1
          omega
    rintro acc ⟨cs, rfl, gc⟩
    rw [List.length_map, ll] at gc
    have k' := fun ki hk => k _ (fin j (l + 1) ds cs ki hj (by omega) (by omega) gd gc hk)
    refine ⟨by decide +kernel, _, _, ⟨rfl, rfl⟩, by decide +kernel, by decide, ?_⟩
    refine lc_some (n := 2) (fun l => (List.range (l + 1)).map fun i => D.int (i : Nat)) (fun Z hz => by
      simp
      intro z hz1
      have h := hz z hz1
      rw [show (1 + (z : Int)).toNat = z + 1 by omega]
      exact ⟨by omega, by omega, h⟩) fun z hz => ?_
    refine lc_known (xs := _) (fun m acc => acc = List.replicate m .any) (fun q h => h) (by simp; omega) rfl ?_ ?_
    · rintro m x acc hx la rfl
      refine ⟨_, rfl, ?_⟩
      simp
      intro m1 hm1
      have ld : ds.length = j + 1 := by
        have := congrArg List.length gd.1
        rw [List.length_map, List.length_cons, List.length_take] at this
        rw [this]
        show min j 2 + 1 = j + 1
        omega
      have lc : cs.length = l + 1 := by
        have := congrArg List.length gc.1
        rw [List.length_map, List.length_take] at this
        rw [this]
        show min (l + 1) 2 = l + 1
        omega
      refine ⟨⟨⟨ps, ds, cs, .non⟩, m1 + 1, by rw [show (1 + (m1 : Int)) = ((m1 + 1 : Nat) : Int) by omega]; rfl, by omega, by omega, by show 1 ≤ ds.length; omega, by show ds.length ≤ 3; omega, by show 1 ≤ cs.length; omega, by show cs.length ≤ 2; omega⟩, List.replicate_succ'.symm⟩
    rintro kis rfl
    refine for_none (fun Z hz => by
      simp
      exact hz) ?_
    simp
    exact k' _ ⟨_, rfl⟩)
end
end K18

namespace K18
open PySem PySem.Spec PyProof.Rows L2
open DL
/-! ### all deeds of a world -/
def toldD (t : Str × Str) : D := .tup [.str t.1, .str t.2]
def GoodT (W : Wd) (ts : List (Str × Str)) : Prop := ∀ t, t ∈ ts → Word t.1 ∧ Has (hOf W) t.1 t.2
theorem GoodT.app {W : Wd} {ts us : List (Str × Str)} (a : GoodT W ts) (b : GoodT W us) : GoodT W (ts ++ us) := fun t ht => (List.mem_append.mp ht).elim (a t) (b t)
theorem GoodT.cons {W : Wd} {t : Str × Str} {us : List (Str × Str)} (a : Word t.1 ∧ Has (hOf W) t.1 t.2) (b : GoodT W us) : GoodT W (t :: us) := fun t' ht => (List.mem_cons.mp ht).elim (fun e => e ▸ a) (b t')
theorem GoodT.nil {W : Wd} : GoodT W [] := fun _ z => nomatch z
theorem has_door {h : Hs} {x n : Str} (d : isDoorW x) (m : n ∈ h.dn) : Word x ∧ Has h x n := ⟨.inl d, by unfold Has; rw [if_pos d]; exact m⟩
theorem has_part {h : Hs} {x n : Str} (nd : ¬ isDoorW x) (d : isPartW x) (m : n ∈ h.parts) : Word x ∧ Has h x n := ⟨.inr (.inl d), by unfold Has; rw [if_neg nd, if_pos d]; exact m⟩
theorem has_cell {h : Hs} {x n : Str} (nd : ¬ isDoorW x) (np : ¬ isPartW x) (d : isCellW x) (m : n ∈ h.cn) : Word x ∧ Has h x n := ⟨.inr (.inr d), by unfold Has; rw [if_neg nd, if_neg np]; exact m⟩
def RAllD : List D → (D → Prop) → Prop := fun xs q => ∃ W : Wd, xs = [W.d] ∧ WOk W ∧ ∀ ts : List (Str × Str), ts.length ≤ 30 → GoodT W ts → q (.lst (ts.map toldD))
section
variable {P : Program} {w : World} {mg : Str → Option Value} {base : Heap} {G : DG} {f : Addr} {fd : FuncData}
abbrev NAl : List Str := ["_law_world", "_law_found", "_law_part", "_law_cell", "_law_door", "_law_word"]
theorem scAl : FnScope NAl ["_law_world"] (defScope sAllDeeds) := ⟨rfl, rfl, rfl, by decide +kernel, rfl, by decide +kernel, by decide +kernel⟩
theorem ok_all (F : Fun G.K "_law_all_deeds" "_law_all_deeds" sAllDeeds f fd) (B : Bl mg) : FnOk P w G.K mg base CX0 1 f fd ["_law_world"] (spP G 1 RAllD) :=
  okP F scAl (fun O cdv A outer s H E hr => by
    have un := hr.units
    have hu := hu_of hr
    exact (ds_cons (ds_set (i := 1) scAl.nd rfl (Or.inl rfl) (d_op op_addA abs_add (d_lc (own := [("_law_door", 4)]) rfl scAl.nd (di_seq (d_dget hu (dv 0) d_str)) (blkOk_by (own := [("_law_door", 4)]) (N := NAl) (sc := defScope sAllDeeds) (by decide +kernel)) (fun _ _ _ _ _ => (pg_name (i := 4) scAl.nd rfl (Or.inl rfl))) to_name (by decide) (fun _ _ _ _ _ => pts_nil) (fun _ _ _ => yes_ok) (fun _ _ _ _ _ => (d_tup (da_cons d_str (da_cons (d_ix (dv 4) d_int) da_nil))))) (d_lc (own := [("_law_door", 4)]) rfl scAl.nd (di_seq (d_dget hu (dv 0) d_str)) (blkOk_by (own := [("_law_door", 4)]) (N := NAl) (sc := defScope sAllDeeds) (by decide +kernel)) (fun _ _ _ _ _ => (pg_name (i := 4) scAl.nd rfl (Or.inl rfl))) to_name (by decide) (fun _ _ _ _ _ => pts_nil) (fun _ _ _ => yes_ok) (fun _ _ _ _ _ => (d_tup (da_cons d_str (da_cons (d_ix (dv 4) d_int) da_nil)))))))
 (ds_cons (ds_for PassesOwn.never rfl (di_seq (d_dget hu (dv 0) d_str)) (pg_name (i := 2) scAl.nd rfl (Or.inr rfl)) to_name
 (ds_one (ds_set (i := 1) scAl.nd rfl (Or.inl rfl) (d_op op_addA abs_add (dv 1) (d_lc (own := [("_law_word", 5)]) rfl scAl.nd (di_seq (d_tup (da_cons d_str (da_cons d_str (da_cons d_str da_nil))))) (blkOk_by (own := [("_law_word", 5)]) (N := NAl) (sc := defScope sAllDeeds) (by decide +kernel)) (fun _ _ _ _ _ => (pg_name (i := 5) scAl.nd rfl (Or.inl rfl))) to_name (by decide) (fun _ _ _ _ _ => pts_nil) (fun _ _ _ => yes_ok) (fun _ _ _ _ _ => (d_tup (da_cons (dv 5) (da_cons (dv 2) da_nil)))))))))
 (ds_cons (ds_for PassesOwn.never rfl (di_seq (d_dget hu (dv 0) d_str)) (pg_name (i := 3) scAl.nd rfl (Or.inl rfl)) to_name
 (ds_one (ds_set (i := 1) scAl.nd rfl (Or.inl rfl) (d_op op_addA abs_add (dv 1) (d_lst (da_cons (d_tup (da_cons d_str (da_cons (d_ix (dv 3) d_int) da_nil))) (da_cons (d_tup (da_cons d_str (da_cons (d_ix (dv 3) d_int) da_nil))) da_nil)))))))
 (ds_one (ds_ret (dv 1))))))) (fun xs q l r => by
    obtain ⟨W, rfl, ok, k⟩ := r
    have := line
    obtain ⟨f1, f2, f3⟩ := ok.few
    simp
    refine lc_map (xs := W.ds.map doorD) (fun d => .tup [.str "shut", (ixD d (.int 0)).getD .non]) (fun q h => by simpa [Wd.d, look_doors, and_assoc] using h) (by rw [List.length_map]; omega) (fun x hx => ?_) ?_
    · obtain ⟨d, _, rfl⟩ := List.mem_map.mp hx
      refine ⟨_, rfl, fun acc q' h => ?_⟩
      simpa [doorD] using h
    refine lc_map (xs := W.ds.map doorD) (fun d => .tup [.str "open", (ixD d (.int 0)).getD .non]) (fun q h => by simpa [Wd.d, look_doors, and_assoc] using h) (by rw [List.length_map]; omega) (fun x hx => ?_) ?_
    · obtain ⟨d, _, rfl⟩ := List.mem_map.mp hx
      refine ⟨_, rfl, fun acc q' h => ?_⟩
      simpa [doorD] using h
    have good0 : ∃ ts : List (Str × Str), (W.ds.map doorD).map (fun d => D.tup [.str "shut", (ixD d (.int 0)).getD .non]) ++ (W.ds.map doorD).map (fun d => D.tup [.str "open", (ixD d (.int 0)).getD .non]) = ts.map toldD ∧ ts.length ≤ 6 ∧ GoodT W ts := by
      refine ⟨W.ds.map (fun d => (("shut" : Str), d.1)) ++ W.ds.map (fun d => (("open" : Str), d.1)), ?_, ?_, .app (fun t ht => ?_) (fun t ht => ?_)⟩
      · rw [List.map_append, List.map_map, List.map_map, List.map_map, List.map_map]
        rfl
      · rw [List.length_append, List.length_map, List.length_map]
        omega
      · obtain ⟨d, hd, rfl⟩ := List.mem_map.mp ht
        exact has_door (x := "shut") (by decide +kernel) (by rw [dn_of]; exact List.mem_map.mpr ⟨d, hd, rfl⟩)
      · obtain ⟨d, hd, rfl⟩ := List.mem_map.mp ht
        exact has_door (x := "open") (by decide +kernel) (by rw [dn_of]; exact List.mem_map.mpr ⟨d, hd, rfl⟩)
    obtain ⟨ts, ets, lts, gts⟩ := good0
    have l0 : ts.length = W.ds.length + W.ds.length := by
      have := congrArg List.length ets
      simpa using this.symm
    generalize hA : (W.ds.map doorD).map (fun d => D.tup [.str "shut", (ixD d (.int 0)).getD .non]) = A at ets ⊢
    generalize hB : (W.ds.map doorD).map (fun d => D.tup [.str "open", (ixD d (.int 0)).getD .non]) = A2 at ets ⊢
    have lA : A.length = W.ds.length := by rw [← hA]; simp
    have lB : A2.length = W.ds.length := by rw [← hB]; simp
    simp [ets]
    refine ⟨by omega, ?_⟩
    refine for_known (xs := W.ps.map D.str) (fun i ρ ω => ∃ s2 s3 s4 s5 ts, ts.length ≤ 6 + 3 * i ∧ GoodT W ts ∧ ρ = [.dat W.d, .dat (.lst (ts.map toldD)), s2, s3, s4, s5] ∧ ω = []) (fun q h => by simpa [Wd.d, look_parts, and_assoc] using h) ⟨_, _, _, _, ts, lts, gts, rfl, rfl⟩ ?_ ?_
    · rintro i x ρ ω hx ⟨s2, s3, s4, s5, ts, lt, gt, rfl, rfl⟩
      obtain ⟨hi, rfl⟩ := map_get hx
      simp
      refine lc_map (xs := [.str "drain", .str "off", .str "on"]) (fun d => .tup [d, .str W.ps[i]]) (fun q h => by simpa using h) (by show 3 < sizeLine; omega) (fun x hx => ⟨_, rfl, fun acc q' h => by simpa using h⟩) ?_
      simp
      have hp : W.ps[i] ∈ (hOf W).parts := List.getElem_mem hi
      refine ⟨by omega, _, _, _, _, ts ++ [(("drain" : Str), W.ps[i]), ("off", W.ps[i]), ("on", W.ps[i])], by rw [List.length_append]; show ts.length + 3 ≤ _; omega, gt.app (.cons (has_part (x := "drain") (by decide +kernel) (by decide +kernel) hp) (.cons (has_part (x := "off") (by decide +kernel) (by decide +kernel) hp) (.cons (has_part (x := "on") (by decide +kernel) (by decide +kernel) hp) .nil))), ⟨?_, rfl, rfl, rfl, rfl⟩⟩
      rw [List.map_append]
      rfl
    rintro ρ ω ⟨s2, s3, s4, s5, ts, lt, gt, rfl, rfl⟩
    rw [List.length_map] at lt
    simp
    refine for_known (xs := W.cs.map cellD) (fun i ρ ω => ∃ s2 s3 s4 s5 ts, ts.length ≤ 12 + 2 * i ∧ GoodT W ts ∧ ρ = [.dat W.d, .dat (.lst (ts.map toldD)), s2, s3, s4, s5] ∧ ω = []) (fun q h => by simpa [Wd.d, look_cells, and_assoc] using h) ⟨_, _, _, _, ts, by omega, gt, rfl, rfl⟩ ?_ ?_
    · rintro i x ρ ω hx ⟨s2, s3, s4, s5, ts, lt, gt, rfl, rfl⟩
      obtain ⟨hi, rfl⟩ := map_get hx
      simp [cellD]
      have hc : W.cs[i].1 ∈ (hOf W).cn := by
        rw [cn_of]
        exact List.mem_map.mpr ⟨_, List.getElem_mem hi, rfl⟩
      refine ⟨by omega, _, _, _, _, ts ++ [(("save" : Str), W.cs[i].1), ("load", W.cs[i].1)], by rw [List.length_append]; show ts.length + 2 ≤ _; omega, gt.app (.cons (has_cell (x := "save") (by decide +kernel) (by decide +kernel) (.inl rfl) hc) (.cons (has_cell (x := "load") (by decide +kernel) (by decide +kernel) (.inr rfl) hc) .nil)), ?_, rfl, rfl, rfl, rfl⟩
      rw [List.map_append]
      rfl
    rintro ρ ω ⟨s2, s3, s4, s5, ts, lt, gt, rfl, rfl⟩
    rw [List.length_map] at lt
    simp
    exact k ts (by omega) gt)
end
end K18

/-! try .. except A as e: .. except (B, C) as e: ..; several clauses, each of a class or of two -/
namespace Trt
open PySem PySem.Spec PyProof.Rows L2
theorem flying_kept {base h h' : Heap} {l : List Env} {e : Addr} {Z : Obj → Prop} (x : HandSPX.FlyingZ base l e Z h) (k : ∀ b o, h.get? b = some o → h'.get? b = some o) : HandSPX.FlyingZ base l e Z h' := by
  obtain ⟨f1, f2, f3, oe, vs, T, oT, ts, he, hz, hd, h1, hnT, hTe, hT, hdT, h3⟩ := x
  exact ⟨fun b o e => k _ _ (f1 b o e), f2, f3.of_keeps fun b o e _ => ⟨o, k _ _ e, rfl⟩, oe, vs, T, oT, ts, k _ _ he, hz, hd, h1, hnT, hTe, k _ _ hT, hdT, h3⟩
/-- the slots are as many as the names -/
theorem takes_len {X : Cx} {W : WX} (t : Takes X W) : Takes X (fun cls d σ H => σ.length = X.N.length → W cls d σ H) :=
  fun u s' ⟨a, B, sI, pins, σ, H, cls, d, e, I, nb, up, sky, na, os, ag, w⟩ => t u s' ⟨a, B, sI, pins, σ, H, cls, d, e, I, nb, up, sky, na, os, ag, w I.len⟩
/-- a clause's test: what it says of an exception of a class -/
def Tst (X : Cx) (t : Expr) (cs : List Value) : Prop := ∀ (a : Addr) (oe : Obj) (pn pins : List (Addr × Obj)) (σ : L2.St) (H : Hp) (s : Shared) (cls : Value) (b : Bool) (Q : Bool → Shared → Prop) (E : Value → Shared → Prop),
  Inv (X.suite a ((a, oe) :: pn)) pins σ H s → PySem.W.Looks (model X.prog X.w) s.heap (typeOf (.ref a)) cls → PySem.W.exmAny X.K cls cs = some b →
  (∀ h', (∀ b o, s.heap.get? b = some o → h'.get? b = some o) → Q b { s with heap := h' }) →
  wpAny (model X.prog X.w) (X.A.mark (some (.ref a))) (eval t X.env) (fun c s1 => wpAny (model X.prog X.w) (X.A.mark (some (.ref a))) (excMatches (.ref a) c) Q E s1) E s
section
variable {X : Cx} {x x1 x2 : Str} {c c1 c2 : Value} {np p1 p2 tp : Pos} {kk : Nat}
theorem name_val {a : Addr} {oe : Obj} {pn pins : List (Addr × Obj)} {σ : L2.St} {H : Hp} {s : Shared} {Q : Value → Shared → Prop} {E : Value → Shared → Prop} (S : Inv (X.suite a ((a, oe) :: pn)) pins σ H s) (hc : Names X x c) (q : Q c s) :
    wpAny (model X.prog X.w) (X.A.mark (some (.ref a))) (eval (.Name x np) X.env) Q E s := by
  obtain ⟨hg, hdbg, hm | ⟨hm, hv, hnn⟩⟩ := hc
  · exact ld_glob (X := X.suite a ((a, oe) :: pn)) S hg hm q hdbg
  · exact ld_blt (X := X.suite a ((a, oe) :: pn)) S hg hm hv q hnn hdbg
theorem tst_one (hc : Names X x c) : Tst X (.Name x np) [c] := fun a oe pn pins σ H s cls b Q E S LT e q => by
  have e1 : PySem.W.exmOne X.K cls c = some b := by
    obtain ⟨b1, d1, h1, h2, h3⟩ := PySem.W.exmAny_cons e
    have h2 : some false = some d1 := h2
    cases h2
    rw [Bool.or_false] at h3
    rw [h3]
    exact h1
  refine name_val S hc ((PySem.W.exm_one S.kIn LT e1).here ?_)
  exact q s.heap fun _ _ z => z
theorem tst_two (h1 : Names X x1 c1) (h2 : Names X x2 c2) (hs : starEach [.Name x1 p1, .Name x2 p2] X.env = (false, eval (.Name x1 p1) X.env) :: starEach [.Name x2 p2] X.env := by rfl) (hs2 : starEach [.Name x2 p2] X.env = (false, eval (.Name x2 p2) X.env) :: starEach [] X.env := by rfl) :
    Tst X (.Tuple [.Name x1 p1, .Name x2 p2] kk tp) [c1, c2] := fun a oe pn pins σ H s cls b Q E S LT e q => by
  refine wpAny_Tuple ?_
  refine wpAny_items_cons (name_val S h1 ?_) hs
  refine wpAny_items_cons (name_val S h2 ?_) hs2
  refine wpAny_items_nil ⟨by show 2 ≤ sizeLine; decide, ?_⟩
  have kp : ∀ q o, s.heap.get? q = some o → (s.heap.push { cls := .type "tuple", data := .seq [c1, c2].toArray }).get? q = some o := fun _ _ z => Heap.get?_push_of_some _ z
  exact (PySem.W.exm_tup2 (S.kIn.keeps kp) (LT.keeps kp) (Heap.get?_push_size s.heap rfl) e).here (q _ kp)
end
/-- what the clauses wish of an exception of the body: each its classes, its name's slot, its suite -/
def wMA (K : PySem.W.Frag) (Wout : WX) (D : Ends) : List (List Value × Nat × (Addr → Value → Option Addr → TS)) → WX
  | [] => Wout
  | (cs, i, ts) :: r => fun cls d σ H => ∃ b, PySem.W.exmAny K cls cs = some b ∧
    (b = true → ∀ a, H a = none → ts a cls d { nx := fun σ' H' => D.nx (σ'.set i none) H', rt := D.rt, bk := fun σ' H' => D.bk (σ'.set i none) H', ct := fun σ' H' => D.ct (σ'.set i none) H' } (σ.set i (some (.ref a))) H) ∧
    (b = false → wMA K Wout D r cls d σ H)
inductive HdsA (X : Cx) : List ExceptHandler → List (List Value × Nat × (Addr → Value → Option Addr → TS)) → Prop
  | nil : HdsA X [] []
  | cons {t : Expr} {cs : List Value} {n : Str} {i : Nat} {ts : Addr → Value → Option Addr → TS} {b₀ : Stmt} {suite : List Stmt} {pos' : Pos} {hds : List ExceptHandler} {l : List (List Value × Nat × (Addr → Value → Option Addr → TS))} (hc : Tst X t cs) (hi : X.N[i]? = some n) (hln : X.env.kindOf n = some .local)
      (hsu : ∀ (a : Addr) (oe : Obj) (cls : Value) (d : Option Addr) (pn : List (Addr × Obj)), Zc cls d oe → (∃ vs, oe.data = .fields vs) → PSs (X.suite a ((a, oe) :: pn)) (b₀ :: suite) (ts a cls d)) (r : HdsA X hds l) :
      HdsA X (.ExceptHandler (some t) (some n) (b₀ :: suite) pos' :: hds) ((cs, i, ts) :: l)
section
variable {X : Cx} {body : List Stmt} {h₀ : ExceptHandler} {hds : List ExceptHandler} {l : List (List Value × Nat × (Addr → Value → Option Addr → TS))} {pos : Pos} {tb : WX → TS} {Wout : WX}
theorem ps_try_manyA (hs : X.stack = X.env :: X.outer) (hf : X.env.frame = some X.env.locals) (hN : X.N.Nodup) (tk : Takes X Wout)
    (hb : ∀ (W : WX) (pn : List (Addr × Obj)) (xe : Value → Shared → Prop), Takes (X.tr pn xe) W → PassesOwn (model X.prog X.w) X.A X.env xe → PSs (X.tr pn xe) body (tb W))
    (hh : HdsA X (h₀ :: hds) l) : PS X (.Try body (h₀ :: hds) [] [] pos) (fun D σ H => tb (wMA X.K Wout D l) D σ H) := by
  refine ⟨fun pins s σ H D I h => ?_⟩
  have ok := I.ok
  have hfr : X.A.frames = some (X.env :: X.outer) := by rw [ok.frames, hs]
  refine wpAny_Try_except ?_
  refine wpAny_mono ((hb (wMA X.K Wout D l) (X.pn ++ pins) (fun e s₁ => wpAny (model X.prog X.w) X.A (noteFrame e X.env) (fun _ s₂ => wpAny (model X.prog X.w) X.A (setFlight e none) (fun _ s₃ =>
    wpAny (model X.prog X.w) X.A (handleBy e X.env (h₀ :: hds)) (SP X pins D) X.xe s₃) X.xe s₂) X.xe s₁) (fun u s' xx => ?_) PassesOwn.looking).run [] s σ H D (I.toTry _) h) (fun f s1 hsp => ?_) (fun e s1 he => he)
  · -- the catch
    obtain ⟨a, B, sI, pins', σ', H', cls, d, rfl, J', nb, up, sky, na, os, ag, w⟩ := xx
    have J : Inv X pins σ' H' sI := J'.ofTry ok
    have sky' : Sky B (X.env :: X.outer) a (Zc cls d) X.env.locals s'.heap := by rw [← hs]; exact sky
    show wpAny (model X.prog X.w) X.A (noteFrame (.ref a) X.env) _ _ _
    refine Sky.land Zc.steady hfr hf sky' fun h3 fl3 up3 => ?_
    have notFr : ∀ {h : Heap} {o : Obj} {vs : Array Value}, h.FunFrames B (X.env :: X.outer) → h.get? a = some o → o.data = .fields vs → a ∉ frs (X.env :: X.outer) := fun {h o vs} ff e dd hm => by
      obtain ⟨_, o', e', hnf⟩ := ff.mem hm
      rw [e] at e'; cases e'
      exact hnf _ dd
    have go : ∀ {hds' : List ExceptHandler} {l' : List (List Value × Nat × (Addr → Value → Option Addr → TS))}, HdsA X hds' l' → ∀ h3, HandSPX.FlyingZ B (X.env :: X.outer) a (Zc cls d) h3 → s'.heap.UpToSlots h3 → wMA X.K Wout D l' cls d σ' H' →
        wpAny (model X.prog X.w) X.A (handleBy (.ref a) X.env hds') (SP X pins D) X.xe { s' with heap := h3 } := by
      intro hds' l' hk
      induction hk with
      | nil =>
        intro h3 fl3 up3 w
        refine wpAny_handleBy_nil ?_
        obtain ⟨k1, k2, k3, oe, vs, T, oT, ts', he, hz, hd, h1, hr⟩ := id fl3
        unfold PySem.passOn
        refine wpAny_bind (wpAny_field he hd h1 ?_)
        rw [if_neg (show ¬ ((Value.ref T == Value.none) = true) from by simp)]
        have fin : wpAny (model X.prog X.w) X.A (setFlight (.ref a) X.env.frame) (fun _ s4 => wpAny (model X.prog X.w) X.A (throw (.ref a) : Sem Flow) (SP X pins D) X.xe s4) X.xe { s' with heap := h3 } := by
          rw [hf]
          refine HandSPX.setFlight_upZ fl3 fun h4 hh4 up4 => wpAny_throw (tk _ _ ?_)
          exact ⟨a, B, sI, pins, σ', H', cls, d, rfl, J, nb, (up.trans up3).trans up4, .inr (.inr (by rw [hs]; exact hh4)), na, os, ag, w⟩
        first
          | exact wpAny_bind (wpAny_pure (wpAny_bind fin))
          | exact wpAny_bind fin
      | @cons t cs n i ts b₀ suite pos' hds2 l2 hc hi hln hsu r ih =>
        intro h3 fl3 up3 w
        have J3 : Inv X pins σ' H' { s' with heap := h3 } := J.landed nb fl3.1 (up.trans up3) os ag
        obtain ⟨oe3, vs3, he3, hz3, hd3⟩ := fl3.there
        have nfr := notFr fl3.2.2.1 he3 hd3
        have nL : a ≠ X.env.locals := fun z => nfr (List.mem_filterMap.mpr ⟨X.env, List.mem_cons_self, by rw [hf, z]⟩)
        have nF : a ∉ X.fs := fun hm => by
          obtain ⟨e, he, q⟩ := List.mem_filterMap.mp hm
          exact nfr (List.mem_filterMap.mpr ⟨e, List.mem_cons_of_mem _ he, q⟩)
        have S3 := J3.suite he3 hd3 na nL nF
        obtain ⟨b, hb1, hyes, hno⟩ := w
        have hloc : Loc X.env.scope n := .inl hln
        refine wpAny_handleBy_cons (codeAny_handlers_test ?_) (by intro q; cases q)
        have LT : PySem.W.Looks (model X.prog X.w) h3 (typeOf (.ref a)) cls := fun A Q E s k q => wpAny_typeOf_ref (k _ _ he3) (by rw [hz3.1]; exact q)
        refine hc a oe3 (X.pn ++ pins) [] σ' H' _ cls b _ _ S3 LT hb1 fun h3' k3 => ?_
        have fl3' := flying_kept fl3 k3
        have up3' : s'.heap.UpToSlots h3' := up3.trans fun b o e _ => ⟨o.slots, k3 b o e⟩
        cases b with
        | true =>
          refine codeAny_handlers_suite_as ?_
          refine HandSPX.lands_againZ fl3' fun h4 fl4 up4 => ?_
          have J4 : Inv X pins σ' H' { s' with heap := h4 } := J.landed nb fl4.1 ((up.trans up3').trans up4) os ag
          obtain ⟨oe4, vs4, he4, hz4, hd4⟩ := fl4.there
          have nfr4 := notFr fl4.2.2.1 he4 hd4
          have S4 := J4.suite he4 hd4 na nL nF
          refine store_ok (X := X.suite a ((a, oe4) :: (X.pn ++ pins))) (v := .ref a) S4 hN hi hloc rfl (fun s5 S5 => ?_) (.inr hln)
          refine wpAny_mono ((hsu a oe4 cls d (X.pn ++ pins) hz4 ⟨_, hd4⟩).run [] s5 _ H' _ S5 (hyes rfl a na)) (fun f s6 hsp => ?_) (fun _ _ z => False.elim z)
          have end_ : ∀ {σ6 : L2.St} {H6 : Hp} {Q : Shared → Prop}, Inv (X.suite a ((a, oe4) :: (X.pn ++ pins))) [] σ6 H6 s6 → (∀ s7, Inv X pins (σ6.set i none) H6 s7 → Q s7) →
              wpAny (model X.prog X.w) X.A (do bindName X.env n .none; unbindBehindTheSuite X.env n pos') (fun _ s7 => Q s7) X.xe s6 := fun {σ6 H6 Q} S6 hq => gone_ok (S6.unsuite ok) hN hi hln hq
          cases f with
          | next =>
            obtain ⟨σ6, H6, S6, q6⟩ := hsp
            exact end_ S6 fun s7 J7 => ⟨_, _, J7, q6⟩
          | brk =>
            obtain ⟨σ6, H6, S6, q6⟩ := hsp
            exact end_ S6 fun s7 J7 => ⟨_, _, J7, q6⟩
          | cont =>
            obtain ⟨σ6, H6, S6, q6⟩ := hsp
            exact end_ S6 fun s7 J7 => ⟨_, _, J7, q6⟩
          | ret u =>
            obtain ⟨v6, σ6, H6, S6, r6, q6⟩ := hsp
            exact end_ S6 fun s7 J7 => ⟨_, _, _, J7, r6, q6⟩
        | false =>
          show wpAny _ X.A (handleBy (.ref a) X.env hds2) _ _ _
          exact ih h3' fl3' up3' (hno rfl)
    exact go hh h3 fl3 up3 w
  · cases f with
    | next =>
      obtain ⟨σ', H', J', q⟩ := hsp
      exact wpAny_execs_nil ⟨σ', H', J'.ofTry ok, q⟩
    | brk =>
      obtain ⟨σ', H', J', q⟩ := hsp
      exact ⟨σ', H', J'.ofTry ok, q⟩
    | cont =>
      obtain ⟨σ', H', J', q⟩ := hsp
      exact ⟨σ', H', J'.ofTry ok, q⟩
    | ret u =>
      obtain ⟨v, σ', H', J', r, q⟩ := hsp
      exact ⟨v, σ', H', J'.ofTry ok, r, q⟩
end
end Trt

namespace Exn
open PySem PySem.Spec PyProof.Rows L2
theorem Ecl.xf {K : W.Frag} {C : Addr} {B newId initId : String} {bmB : List Value} (T : Ecl K C B newId initId bmB) : XfC K C := ⟨T.ga, T.gt, T.sub, T.hd⟩
section
variable {X : Cx} {a : Addr} {oe : Obj} {cls : Value} {d : Option Addr} {pn : List (Addr × Obj)}
/-- error.f in a suite, of whichever of the told classes the error is -/
theorem pe_errF {e : Expr} {te : TE} {pos : Pos} {n : Str} (hz : Zc cls d oe) (hf : ∃ vs, oe.data = .fields vs) (he : PE (X.suite a ((a, oe) :: pn)) e te) (hb : attributeBase e n X.env (eval e X.env) = eval e X.env := by rfl) :
    PE (X.suite a ((a, oe) :: pn)) (.Attribute e n pos) (fun σ H Q => (∃ C, cls = .ref C ∧ XfC X.K C ∧ W.findIn X.K (.ref C) n = some none) ∧
      te σ H fun x H1 => x = .ref a ∧ ∃ (dd : Addr) (fs : List (Str × V)) (v : V), d = some dd ∧ H1 dd = some (.xd fs) ∧ fs.lookup n = some v ∧ Q v H1) := by
  refine ⟨fun pins s σ H Q I h => ?_⟩
  obtain ⟨⟨C, ec, T, no⟩, h⟩ := h
  refine (pe_xf T no hz hf he hb).run pins s σ H Q I (Eq.mp (congrArg (te σ H) ?_) h)
  funext x H1
  exact propext ⟨fun ⟨e1, r⟩ => ⟨e1, ec, r⟩, fun ⟨e1, _, r⟩ => ⟨e1, r⟩⟩
/-- isinstance(error, c) in a suite -/
theorem call_isF (G : ClsGet X.K) (hz : Zc cls d oe) (hf : ∃ vs, oe.data = .fields vs) :
    CallR (X.suite a ((a, oe) :: pn)) (.builtin "isinstance") (fun xs H Q => ∃ (D : Addr) (B newId initId : String) (bmB : List Value), Ecl X.K D B newId initId bmB ∧ ∃ (c : V) (u : Value) (b : Bool) (dd : Addr) (fs : List (Str × V)), xs = [.ref a, c] ∧ ClsV c u ∧ cls = .ref D ∧ d = some dd ∧ H dd = some (.xd fs) ∧
      W.kitOne X.K (.ref D) u = some b ∧ Q (.bl b) H) := by
  intro pins s σ H xs us Q I r h
  obtain ⟨D, B, newId, initId, bmB, T, h⟩ := h
  exact call_isS T G hz hf pins s σ H xs us Q I r h
end
end Exn

namespace K18
open PySem PySem.Spec PyProof.Rows L2
open DL
open Cal EnuT Sqx Exn Keys Trt
/-! ### a name that lacks -/
structure Lacks (h : Hs) (n : Str) : Prop where
  d : n ∉ h.dn
  p : n ∉ h.parts
  c : n ∉ h.cn
  o : n ≠ "out"
def spPlX (K : W.Frag) (C CN : Addr) : Sp := fun vs H _ E => ∃ (o t : Addr) (h : Hs) (x n : Str), vs = [.ref o, .ref t] ∧ HouseX H C o h ∧ (∀ H', Same H H' → SqT K H' t [.str x, .str n]) ∧ Lacks h n ∧ BadN CN H E (.str n)
section
variable {P : Program} {w : World} {K : W.Frag} {mg : Str → Option Value} {base : Heap}
theorem ok_plX {f C CN aD aP fD fP fC : Addr} {fd fdD fdP fdC : FuncData} (F : Fun K "_number_of" "_number_of" sNumPl f fd) (B : Bl mg) (cl : Cls K C) (mDD : mg "DOOR_DEEDS" = some (.ref aD)) (kDD : ∀ H, SqT K H aD [.str "shut", .str "open"]) (mPD : mg "PART_DEEDS" = some (.ref aP)) (kPD : ∀ H, SqT K H aP [.str "drain", .str "off", .str "on"])
    (mD : Meth K C "number_of_door" fD) (okD : FnOk P w K mg base (L2.CX P w) 4 fD fdD ["self", "name"] (spNumX C CN "_door_numbers" fun h => h.doors.map (·.n))) (bD : Binds K fdD ["self", "name"] [])
    (mP : Meth K C "number_of_part" fP) (okP : FnOk P w K mg base (L2.CX P w) 4 fP fdP ["self", "name"] (spNumPartX C CN)) (bP : Binds K fdP ["self", "name"] [])
    (mC : Meth K C "number_of_cell" fC) (okC : FnOk P w K mg base (L2.CX P w) 4 fC fdC ["self", "name"] (spNumX C CN "_cell_numbers" fun h => h.cells.map (·.n))) (bC : Binds K fdC ["self", "name"] []) :
    FnOk P w K mg base (L2.CX P w) 5 f fd ["house", "told"] (spPlX K C CN) := by
  refine F.okX scNp (fun vs H Q E h => ?_) (fun cdv A outer s H vs Q E hr h => ?_)
  · obtain ⟨o, t, h, x, n, rfl, _⟩ := h
    rfl
  · obtain ⟨o, t, h, x, n, rfl, hx, ht, la, bad⟩ := h
    obtain ⟨dx, tp, td, tc, D1, D2, D3, te, tq, tk, vd, vc, ve, k1, k2, k3, nn⟩ := hx
    refine ⟨_, pss_cons (ps_if (pt_cmpR op_in_seq (pe_ix ix_tup (pv 1) pe_int (fun _ _ => rfl)) (pe_glob (v := .ref aD) rfl mDD rfl) (by rfl))
        (pss_one (ps_ret (pe_meth (pv 0) cl mD okD hr bD .nil (passes_call (takes_of rfl rfl rfl rfl) (fun _ _ _ _ h => h)) (pa_cons (pe_ix ix_tup (pv 1) pe_int (fun _ _ => rfl)) pa_nil)))) pss_nil)
      (pss_cons (ps_if (pt_cmpR op_in_seq (pe_ix ix_tup (pv 1) pe_int (fun _ _ => rfl)) (pe_glob (v := .ref aP) rfl mPD rfl) (by rfl))
        (pss_one (ps_ret (pe_meth (pv 0) cl mP okP hr bP .nil (passes_call (takes_of rfl rfl rfl rfl) (fun _ _ _ _ h => h)) (pa_cons (pe_ix ix_tup (pv 1) pe_int (fun _ _ => rfl)) pa_nil)))) pss_nil)
      (pss_one (ps_ret (pe_meth (pv 0) cl mC okC hr bC .nil (passes_call (takes_of rfl rfl rfl rfl) (fun _ _ _ _ h => h)) (pa_cons (pe_ix ix_tup (pv 1) pe_int (fun _ _ => rfl)) pa_nil))))), ?_⟩
    refine ⟨_, rfl, t, _, _, .str x, rfl, rfl, (ht _ (fun _ _ z => z)), atI_nat (j := 0) rfl, aD, (["shut", "open"] : List Str).map V.str, rfl, .inr (kDD H), rfl, flat_strs _, _, rfl, ?_⟩
    refine ite2 (fun _ => ?_) (fun _ => ?_)
    · refine ⟨_, rfl, o, dx, _, rfl, nn.ins, rfl, _, rfl, t, _, _, .str n, rfl, rfl, (ht _ (fun _ _ z => z)), atI_nat (j := 1) rfl, ?_⟩
      exact ⟨o, dx, D2, _, h, _, k2, rfl, nn.ins, rfl, nn.n2, nn.m2, .inr ⟨.inl ⟨n, rfl, la.d⟩, bad⟩⟩
    refine ⟨_, rfl, t, _, _, .str x, rfl, rfl, (ht _ (fun _ _ z => z)), atI_nat (j := 0) rfl, aP, (["drain", "off", "on"] : List Str).map V.str, rfl, .inr (kPD H), rfl, flat_strs _, _, rfl, ?_⟩
    refine ite2 (fun _ => ?_) (fun _ => ?_)
    · refine ⟨_, rfl, o, dx, _, rfl, nn.ins, rfl, _, rfl, t, _, _, .str n, rfl, rfl, (ht _ (fun _ _ z => z)), atI_nat (j := 1) rfl, ?_⟩
      exact ⟨o, dx, D1, _, h.parts, _, k1, rfl, nn.ins, rfl, nn.n1, nn.m1, .inr ⟨.inl ⟨n, rfl, la.p⟩, fun z => la.o (V.str.inj z), bad⟩⟩
    · refine ⟨_, rfl, o, dx, _, rfl, nn.ins, rfl, _, rfl, t, _, _, .str n, rfl, rfl, (ht _ (fun _ _ z => z)), atI_nat (j := 1) rfl, ?_⟩
      exact ⟨o, dx, D3, _, h, _, k3, rfl, nn.ins, rfl, nn.n3, nn.m3, .inr ⟨.inl ⟨n, rfl, la.c⟩, bad⟩⟩
/-- a deed whose name lacks -/
def spDeX (K : W.Frag) (C CN : Addr) : Sp := fun vs H _ E => ∃ (o t : Addr) (u v : V) (h : Hs) (x n : Str), vs = [.ref o, u, v, .ref t] ∧ HouseX H C o h ∧ (∀ H', Same H H' → SqT K H' t [.str x, .str n]) ∧ Lacks h n ∧ BadN CN H E (.str n)
theorem ok_deX {f C CN : Addr} {fd : FuncData} (F : Fun K "deed" "deed" sDeed f fd) (cPl : CalleeX P w K mg base "number_of_plans" 5 ["house", "told"] (spPlX K C CN)) : FnOk P w K mg base (L2.CX P w) 6 f fd ["house", "row", "places", "told"] (spDeX K C CN) := by
  refine F.okX scDe (fun vs H Q E h => ?_) (fun cdv A outer s H vs Q E hr h => ?_)
  · obtain ⟨o, t, u, v, h, x, n, rfl, _⟩ := h
    rfl
  · obtain ⟨o, t, u, v, h, x, n, rfl, hx, ht, la, bad⟩ := h
    exact ⟨_, pss_cons (ps_set (i := 4) scDe.nd rfl (Or.inl rfl) (pe_calleeX cPl hr rfl (passes_call (takes_of rfl rfl rfl rfl) (fun _ _ _ _ h => h)) (pa_cons (pv 0) (pa_cons (pv 3) pa_nil)))) (pss_cons ps_never (pss_cons ps_never (pss_cons ps_never (pss_cons ps_never (pss_cons ps_never (pss_cons ps_never (pss_one ps_never))))))), _, rfl, _, rfl, o, t, h, x, n, rfl, hx, ht, la, bad⟩
end
end K18

namespace K18
open PySem PySem.Spec PyProof.Rows L2
open DL
open Cal EnuT Sqx Exn Keys Trt
/-! ### the law asks after a name that lacks -/
theorem HouseX.same {H H' : Hp} {C o : Addr} {h : Hs} (x : HouseX H C o h) (s : Same H H') : HouseX H' C o h := by
  obtain ⟨dx, tp, td, tc, D1, D2, D3, te, tq, tk, vd, vc, ve, k1, k2, k3, n⟩ := x
  exact ⟨dx, tp, td, tc, D1, D2, D3, te, tq, tk, vd, vc, ve, k1, k2, k3, n.same s⟩
def spUnkX (K : W.Frag) (C CN : Addr) : Sp := fun vs H Q _ => ∃ (o t : Addr) (u : V) (h : Hs) (x n : Str), vs = [.ref o, u, .ref t] ∧ HouseX H C o h ∧ (∀ H', Same H H' → SqT K H' t [.str x, .str n]) ∧ Lacks h n ∧ ∀ H', Same H H' → Q (.str n) H'
abbrev NUn : List Str := ["_law_house", "_law_row_here", "_law_told", "error"]
theorem scUn : FnScope NUn ["_law_house", "_law_row_here", "_law_told"] (defScope sUnknown) := ⟨rfl, rfl, rfl, by decide +kernel, rfl, by decide +kernel, by decide +kernel⟩
section
variable {P : Program} {w : World} {K : W.Frag} {mg : Str → Option Value} {base : Heap}
theorem ok_unk {f C CN : Addr} {fd : FuncData} (F : Fun K "_law_unknown" "_law_unknown" sUnknown f fd) (cN : CN1 P w K mg base CN) (ex : W.exmAny K (.ref CN) [.ref CN] = some true) (cDe : CalleeX P w K mg base "deed" 6 ["house", "row", "places", "told"] (spDeX K C CN)) : FnOk P w K mg base CX0 7 f fd ["_law_house", "_law_row_here", "_law_told"] (spUnkX K C CN) := by
  refine F.ok scUn (fun vs H Q E h => ?_) (fun cdv A outer s H vs Q E hr h => ?_)
  · obtain ⟨o, t, u, h, x, n, rfl, _⟩ := h
    rfl
  · obtain ⟨o, t, u, h, x, n, rfl, hx, ht, la, q⟩ := h
    refine ⟨_, pss_cons (ps_try_manyA (X := (cxOf CX0 P w K mg base NUn "_law_unknown" (defScope sUnknown) f cdv A outer s H E).nox)
      (tb := fun W D σ H0 => ∃ Ech : XK, (∀ cls d σ' H', σ'.length = 4 → Ech cls d H' → W cls d σ' H') ∧ tCall (spDeX K C CN) [] Ech (tCons (tVar 0) (tCons (tVar 1) (tCons (tTup tNil) (tCons (tVar 2) tNil)))) σ H0 fun _ H1 => D.nx σ H1)
      rfl rfl scUn.nd takes0 (fun W pn xe tk _ => ?_)
      (.cons (tst_one ⟨rfl, by decide, .inl cN.m⟩) (i := 3) rfl rfl (fun a oe cls d pn hz hf => pss_one (ps_ret (pe_errF hz hf (pv 3)))) .nil)) (pss_one ps_never), ?_⟩
    · refine ⟨fun pins s' σ H' D' I h' => ?_⟩
      obtain ⟨Ech, hW, h1⟩ := h'
      exact (pss_one (ps_expr (X := (cxOf CX0 P w K mg base NUn "_law_unknown" (defScope sUnknown) f cdv A outer s H E).nox.tr pn xe) (pe_calleeX (X := (cxOf CX0 P w K mg base NUn "_law_unknown" (defScope sUnknown) f cdv A outer s H E).nox.tr pn xe) cDe hr rfl (passes_call (takes_len tk) (fun cls d σ' H' e l => hW cls d σ' H' l e)) (pa_cons (pv 0) (pa_cons (pv 1) (pa_cons (pe_tup pa_nil) (pa_cons (pv 2) pa_nil))))))).run pins s' σ H' D' I h1
    · refine ⟨fun cls d H' => Same H H' ∧ cls = .ref CN ∧ ∃ dd, d = some dd ∧ H' dd = some (.xd [("name", .str n)]), ?_, ?_⟩
      · rintro cls d σ' H' hl ⟨s1, rfl, dd, rfl, hd⟩
        match σ', hl with
        | [w0, w1, w2, w3], _ => exact ⟨true, ex, fun _ a na => ⟨⟨CN, rfl, cN.T.xf, cN.no⟩, _, rfl, rfl, dd, _, _, rfl, hd, rfl, q H' s1⟩, fun z => nomatch z⟩
      · refine ⟨_, rfl, _, rfl, by show 0 ≤ sizeLine; exact Nat.zero_le _, fun t2 nt2 => ⟨_, rfl, ?_⟩⟩
        have s1 := same_upd (o := .tup []) nt2
        refine ⟨o, t, u, .ref t2, h, x, n, rfl, HouseX.same hx s1, fun H' s => ht H' (s1.trans s), la, fun H' d s2 nd e => ⟨s1.trans s2, rfl, d, rfl, e⟩⟩
end
end K18

/-! repr over data; a def called by keywords; like data are equal; families -/
namespace DL
open PySem PySem.Spec PyProof.Rows L2
open Cal EnuT
/-- short enough to be written: no deeper than k, n parts and letters -/
structure Fit (k n : Nat) (d : D) : Prop where
  pu : d.pure = true
  sh : d.py.showable = true
  hd : d.py.hasDict = false
  de : d.py.depth ≤ k
  ls : PyData.leavesShort 12 d.py = true
  bu : d.py.bulk ≤ n
  cl : d.py.canLay0 = true
structure FitAll (k n : Nat) (ds : List D) : Prop where
  pu : D.pures ds = true
  sh : PyData.showableAll (D.pys ds) = true
  hd : PyData.hasDictAll (D.pys ds) = false
  de : PyData.depthAll (D.pys ds) ≤ k
  ls : PyData.leavesShortAll 12 (D.pys ds) = true
  bu : PyData.bulkAll (D.pys ds) ≤ n
  cl : PyData.canLayAll0 (D.pys ds) = true
theorem Fit.mono {k n k' n' : Nat} {d : D} (f : Fit k n d) (h : k ≤ k') (h' : n ≤ n') : Fit k' n' d := { f with de := Nat.le_trans f.de h, bu := Nat.le_trans f.bu h' }
theorem FitAll.mono {k n k' n' : Nat} {d : List D} (f : FitAll k n d) (h : k ≤ k') (h' : n ≤ n') : FitAll k' n' d := { f with de := Nat.le_trans f.de h, bu := Nat.le_trans f.bu h' }
theorem Fit.tup {k n : Nat} {ds : List D} (f : FitAll k n ds) : Fit (k + 1) n (.tup ds) := by
  refine ⟨?_, ?_, ?_, ?_, ?_, ?_, ?_⟩
  · simpa only [D.pure] using f.pu
  · simpa only [D.py, PyData.showable] using f.sh
  · simpa only [D.py, PyData.hasDict] using f.hd
  · simpa only [D.py, PyData.depth] using Nat.succ_le_succ f.de
  · simpa only [D.py, PyData.leavesShort] using f.ls
  · simpa only [D.py, PyData.bulk] using f.bu
  · simpa only [D.py, PyData.canLay0] using f.cl
theorem Fit.lst {k n : Nat} {ds : List D} (f : FitAll k n ds) : Fit (k + 1) n (.lst ds) := by
  refine ⟨?_, ?_, ?_, ?_, ?_, ?_, ?_⟩
  · simpa only [D.pure] using f.pu
  · simpa only [D.py, PyData.showable] using f.sh
  · simpa only [D.py, PyData.hasDict] using f.hd
  · simpa only [D.py, PyData.depth] using Nat.succ_le_succ f.de
  · simpa only [D.py, PyData.leavesShort] using f.ls
  · simpa only [D.py, PyData.bulk] using f.bu
  · simpa only [D.py, PyData.canLay0] using f.cl
theorem FitAll.nil : FitAll 0 0 [] := by
  refine ⟨?_, ?_, ?_, ?_, ?_, ?_, ?_⟩ <;> simp [D.pures, D.pys, PyData.showableAll, PyData.hasDictAll, PyData.depthAll, PyData.leavesShortAll, PyData.bulkAll, PyData.canLayAll0]
theorem FitAll.cons {k j n m : Nat} {d : D} {ds : List D} (a : Fit k n d) (f : FitAll j m ds) : FitAll (max k j) (n + 1 + m) (d :: ds) := by
  have a3 := a.de
  have a4 := a.bu
  have f3 := f.de
  have f4 := f.bu
  refine ⟨?_, ?_, ?_, ?_, ?_, ?_, ?_⟩
  · simp only [D.pures, a.pu, f.pu, Bool.and_true]
  · simp only [D.pys, PyData.showableAll, a.sh, f.sh, Bool.and_true]
  · simp only [D.pys, PyData.hasDictAll, a.hd, f.hd, Bool.or_false]
  · simp only [D.pys, PyData.depthAll]
    omega
  · simp only [D.pys, PyData.leavesShortAll, a.ls, f.ls, Bool.and_true]
  · simp only [D.pys, PyData.bulkAll]
    omega
  · simp only [D.pys, PyData.canLayAll0, a.cl, f.cl, Bool.and_true]
theorem FitAll.map {α : Type} {k n : Nat} {f : α → D} : ∀ {xs : List α}, (∀ x, x ∈ xs → Fit k n (f x)) → FitAll k ((n + 1) * xs.length) (xs.map f)
  | [], _ => FitAll.nil.mono (Nat.zero_le _) (Nat.zero_le _)
  | x :: xs, h => ((FitAll.cons (h x (List.mem_cons_self ..)) (FitAll.map fun y hy => h y (List.mem_cons_of_mem _ hy)))).mono (Nat.le_of_eq (Nat.max_self k)) (by rw [List.length_cons, Nat.mul_succ]; omega)
theorem Fit.non : Fit 0 0 .non := by
  refine ⟨?_, ?_, ?_, ?_, ?_, ?_, ?_⟩ <;> simp [D.pure, D.py, PyData.showable, PyData.hasDict, PyData.depth, PyData.leavesShort, PyData.bulk, PyData.canLay0]
theorem Fit.bl {b : Bool} : Fit 0 0 (.bl b) := by
  refine ⟨?_, ?_, ?_, ?_, ?_, ?_, ?_⟩ <;> simp [D.pure, D.py, PyData.showable, PyData.hasDict, PyData.depth, PyData.leavesShort, PyData.bulk, PyData.canLay0]
theorem int_fits : ∀ m : Fin 41, (PyData.int ((m.val : Int) - 20)).showable = true ∧ (PyData.int ((m.val : Int) - 20)).shown.length ≤ 12 := by decide +kernel
theorem Fit.int {i : Int} (l : -20 ≤ i) (u : i ≤ 20) : Fit 0 0 (.int i) := by
  obtain ⟨h1, h2⟩ := int_fits ⟨(i + 20).toNat, by omega⟩
  have e : (((i + 20).toNat : Nat) : Int) - 20 = i := by omega
  rw [e] at h1 h2
  refine ⟨rfl, h1, ?_, ?_, ?_, ?_, ?_⟩
  · simp [D.py, PyData.hasDict]
  · simp [D.py, PyData.depth]
  · simpa [D.py, PyData.leavesShort] using h2
  · simp [D.py, PyData.bulk]
  · simp [D.py, PyData.canLay0]
/-- a text short enough -/
def strFit (s : Str) : Bool := (PyData.str s).showable && PyData.leavesShort 12 (.str s) && decide ((PyData.str s).bulk ≤ 40) && (PyData.str s).canLay0
theorem Fit.str {s : Str} (h : strFit s = true) : Fit 0 40 (.str s) := by
  unfold strFit at h
  simp only [Bool.and_eq_true, decide_eq_true_eq] at h
  obtain ⟨⟨⟨h1, h2⟩, h3⟩, h4⟩ := h
  refine ⟨rfl, h1, ?_, ?_, h2, h3, h4⟩
  · simp [D.py, PyData.hasDict]
  · simp [D.py, PyData.depth]
theorem Fit.shown {k n : Nat} {d : D} (f : Fit k n d) (h : n ≤ 100000) : d.py.shown.length ≤ sizeLine := by
  have s := PyData.shown_le_bulk 12 (by decide) d.py f.ls
  have e := f.bu
  have : (2000000 : Nat) ≤ sizeLine := by decide
  have : (12 + 2) * d.py.bulk ≤ (12 + 2) * 100000 := Nat.mul_le_mul_left _ (Nat.le_trans e h)
  omega
theorem Fit.shaped {k n : Nat} {d : D} (f : Fit k n d) (h : k ≤ 60) : SeqAt.shaped d.py = true := by
  unfold SeqAt.shaped
  rw [f.cl]
  have := f.de
  simp
  omega
def RRepr : List D → (D → Prop) → Prop := fun xs q => ∃ d k n, xs = [d] ∧ Fit k n d ∧ k ≤ 20 ∧ n ≤ 100000 ∧ q (.str d.py.shown)
theorem abs_repr {G : DG} : AbsL G (rRepr G.K) RRepr := by
  rintro O H xs vs q Q nO dv ⟨d, k0, n, rfl, fit, hk, hn, hq⟩ k
  obtain ⟨v, rfl, hv⟩ := one_at dv
  exact ⟨v, d.py, rfl, DV.dp d v fit.pu hv, fit.sh, fit.hd, Nat.le_trans fit.de hk, fit.shown hn, k _ _ H hq (fun _ _ z => z) rfl⟩
mutual
theorem eqv_self : ∀ d : D, d.pure = true → PyData.eqv d.py d.py = true
  | .non, _ => by simp [D.py, PyData.eqv]
  | .bl _, _ => by simp [D.py, PyData.eqv]
  | .int _, _ => by simp [D.py, PyData.eqv]
  | .str _, _ => by simp [D.py, PyData.eqv]
  | .lst ds, p => by simpa [D.py, PyData.eqv] using eqvs_self ds (by simpa only [D.pure] using p)
  | .tup ds, p => by simpa [D.py, PyData.eqv] using eqvs_self ds (by simpa only [D.pure] using p)
theorem eqvs_self : ∀ ds : List D, D.pures ds = true → PyData.eqvAll (D.pys ds) (D.pys ds) = true
  | [], _ => by simp [D.pys, PyData.eqvAll]
  | d :: ds, p => by
    have p := (Bool.and_eq_true _ _).mp (show (d.pure && D.pures ds) = true from p)
    simp [D.pys, PyData.eqvAll, eqv_self d p.1, eqvs_self ds p.2]
end
/-- a list is not unlike itself -/
theorem RNe_self {ds : List D} {k n : Nat} {q : D → Prop} (f : FitAll k n ds) (hk : k ≤ 50) (h : q (.bl false)) : RNe (.lst ds) (.lst ds) q := by
  show REq (.lst ds) (.lst ds) _
  have e : eqF (.lst ds) (.lst ds) = none := rfl
  unfold REq
  rw [e]
  have fl := Fit.lst f
  exact ⟨fl.pu, fl.pu, fl.shaped (by omega), fl.shaped (by omega), _, rfl, by rw [eqv_self _ fl.pu]; exact h⟩
section
variable {X : Cx} {F : Fr} {e : Expr} {τ : DX} {τs : DXs}
theorem dk_nil : PK X [] (tDs F dNil) := ⟨fun pos pins s σ H Q I ⟨H0, as, ρ, ω, q, st, h, k⟩ => pk_nil.run pos pins s σ H Q I (k [] [] H h SameO.refl st DVs.nil)⟩
theorem dk_cons {kws : List Keyword} {nm : Option Str} {kpos : Pos} (he : PE X e (tD F τ)) (hr : PK X kws (tDs F τs)) : PK X (⟨nm, e, kpos⟩ :: kws) (tDs F (dCons τ τs)) :=
  ⟨fun pos pins s σ H Q I ⟨H0, as, ρ, ω, q, st, h, k⟩ => (pk_cons he hr).run pos pins s σ H Q I ⟨H0, as, ρ, ω, _, st, h, fun d v H1 h1 s1 st1 dv => ⟨H0, as, ρ, ω, _, st1, h1, fun ds vs H2 h2 s2 st2 dvs => k _ _ H2 h2 (s1.trans s2) st2 (.cons (dv.mono s2) dvs)⟩⟩⟩
/-- a def by its name, called by keywords alone; gD tells the order that the def wants -/
def CalleeK (P : Program) (w : World) (K : PySem.W.Frag) (mg : Str → Option Value) (base : Heap) (x : Str) (k : Nat) (ps ks : List Str) (g : List Value → List Value → List Value) (gV : List V → List V → List V) (sp : Sp) : Prop :=
  ∃ f fd, mg x = some (.ref f) ∧ PySem.W.keepIn K (.ref f) = true ∧ KBinds K fd ps ks g gV ∧ FnOk P w K mg base CX0 k f fd ps sp
theorem CalleeK.imp {P : Program} {w : World} {K : PySem.W.Frag} {mg : Str → Option Value} {base : Heap} {x : Str} {k : Nat} {ps ks : List Str} {g : List Value → List Value → List Value} {gV : List V → List V → List V} {sp sp' : Sp} (c : CalleeK P w K mg base x k ps ks g gV sp) (h : ∀ vs H Q E, sp' vs H Q E → sp vs H Q E) : CalleeK P w K mg base x k ps ks g gV sp' := by
  obtain ⟨f, fd, m, kp, b, F⟩ := c
  exact ⟨f, fd, m, kp, b, F.imp h⟩
def dCallK (gD : List D → List D) (n : Nat) (R : List D → (D → Prop) → Prop) (τs : DXs) : DX := fun ρ ω q => τs ρ ω fun ds => (gD ds).length = n ∧ R (gD ds) q
@[simp] theorem dCallK_eq {gD : List D → List D} {n : Nat} {R : List D → (D → Prop) → Prop} {ρ : List Sl} {ω : List D} {q : D → Prop} : dCallK gD n R τs ρ ω q = τs ρ ω fun ds => (gD ds).length = n ∧ R (gD ds) q := rfl
theorem d_callK {x : Str} {k n : Nat} {ps ks : List Str} {R : List D → (D → Prop) → Prop} {p pos : Pos} {kws : List Keyword} {g : List Value → List Value → List Value} {gV : List V → List V → List V} {gD : List D → List D} (c : CalleeK X.prog X.w X.K X.mg X.base x k ps ks g gV (spP F.G n R)) (hgD : ∀ (O : Addr → Prop) H ds vs, DVs F.G O H ds vs → DVs F.G O H (gD ds) (gV [] vs)) (hr : Room k X.A) (hg : Gl X x) (hk : PK X kws (tDs F τs))
    (hall : (backToKw pos (keywordEach kws X.env)).all (·.1.isSome) = true := by rfl) (hks : (backToKw pos (keywordEach kws X.env)).filterMap (·.1) = ks := by rfl) (hdb : (x == ("__debug__" : Str)) = false := by decide)
    (hpl : ((backTo pos (starEach [] X.env)).any (·.1) || (backToKw pos (keywordEach kws X.env)).any (·.1.isNone)) = false := by rfl) : PE X (.Call (.Name x p) [] kws pos) (tD F (dCallK gD n R τs)) := by
  obtain ⟨f, fd, m, kp, b, FF⟩ := c
  refine PE.wk (pe_callK0 FF hr hg m kp b pass0 hk hall hks hdb hpl) fun σ H Q ⟨H0, as, ρ, ω, q, st, h, kk⟩ => ?_
  refine ⟨H0, as, ρ, ω, _, st, h, fun ds vs H1 ⟨l, r⟩ s1 st1 dv => ?_⟩
  exact ⟨Ow F as, gD ds, q, l, al_of fun a ha => (st1.fresh ha).1, hgD _ _ _ _ dv, r, fun d w H2 hq s2 dw => kk d w H2 hq (s1.trans (SameO.of s2)) (st1.same s2) dw⟩
end
section
variable {X : Cx} {ι : Type}
theorem pss_fam {sts : List Stmt} {t : ι → TS} (h : ∀ i, PSs X sts (t i)) : PSs X sts (fun W σ H => ∃ i, t i W σ H) := ⟨fun pins s σ H W I ⟨i, w⟩ => (h i).run pins s σ H W I w⟩
theorem ps_fam {st : Stmt} {t : ι → TS} (h : ∀ i, PS X st (t i)) : PS X st (fun W σ H => ∃ i, t i W σ H) := ⟨fun pins s σ H W I ⟨i, w⟩ => (h i).run pins s σ H W I w⟩
end
end DL

namespace K18
open PySem PySem.Spec PyProof.Rows L2
open DL
/-! ### what a deed gives is short enough to be written -/
theorem Bd.zero : Bd 0 := ⟨by decide, by decide⟩
theorem Bd.fit {i : Int} (h : Bd i) : Fit 0 0 (.int i) := Fit.int h.1 h.2
structure RowB (r : Row) : Prop where
  dr : r.dr.length ≤ 20
  li : r.li.length ≤ 20
  va : r.va.length ≤ 20
  sa : r.sa.length ≤ 20
  te : r.te.length ≤ 20
  bv : ∀ v, v ∈ r.va → Bd v
  bs : ∀ v, v ∈ r.sa → Bd v
  bt : ∀ v, v ∈ r.te → Bd v
theorem at0_bd {l : List Int} (h : ∀ v, v ∈ l → Bd v) (i : Nat) : Bd (at0 l i) := by
  unfold at0
  rw [List.getD_eq_getElem?_getD]
  cases e : l[i]? with
  | none => exact Bd.zero
  | some v => exact h v (List.mem_of_getElem? e)
theorem set_bd {l : List Int} (h : ∀ v, v ∈ l → Bd v) {i : Nat} {x : Int} (hx : Bd x) : ∀ v, v ∈ l.set i x → Bd v := fun v hv => (List.mem_or_eq_of_mem_set hv).elim (h v) fun e => e ▸ hx
theorem rowB_of {W : Wd} (ok : WOk W) {r : Row} (h : RowOk (hOf W) r) : RowB r := by
  obtain ⟨f1, f2, f3⟩ := ok.few
  have ldn : (hOf W).dn.length = W.ds.length := by rw [dn_of, List.length_map]
  have lcn : (hOf W).cn.length = W.cs.length := by rw [cn_of, List.length_map]
  have lpn : (hOf W).parts.length = W.ps.length := rfl
  have h1 := h.dr
  have h2 := h.li
  have h3 := h.va
  have h4 := h.sa
  have h5 := h.te
  exact ⟨by omega, by omega, by omega, by omega, by omega, fun v hv => by have := h.v2 v hv; exact ⟨by omega, by omega⟩, fun v hv => by have := h.s2 v hv; exact ⟨by omega, by omega⟩, fun v hv => by have := h.t4 v hv; exact ⟨by omega, by omega⟩⟩
theorem load_b {r : Row} (b : RowB r) (c : Nat) : RowB (load r c) := by
  refine { b with va := ?_, te := ?_, bv := set_bd b.bv (at0_bd b.bs c), bt := set_bd b.bt ?_ }
  · show (r.va.set c _).length ≤ 20
    rw [List.length_set]
    exact b.va
  · show (r.te.set c _).length ≤ 20
    rw [List.length_set]
    exact b.te
  · unfold loadT
    have := at0_bd b.bt c
    split <;> split <;> first | exact this | exact Bd.zero | exact at0_bd b.bs c
theorem change_b {r : Row} (b : RowB r) (h : Hs) (x : Str) (n : Nat) : RowB (change h r x n) := by
  unfold change
  split
  · refine { b with dr := ?_ }
    show (r.dr.set n _).length ≤ 20
    rw [List.length_set]
    exact b.dr
  split
  · refine { b with li := ?_ }
    show (r.li.set n _).length ≤ 20
    rw [List.length_set]
    exact b.li
  split
  · exact b
  split
  · refine { b with sa := ?_, bs := set_bd b.bs (at0_bd b.bv n) }
    show (r.sa.set n _).length ≤ 20
    rw [List.length_set]
    exact b.sa
  · exact load_b b n
theorem off1_b {r : Row} (b : RowB r) (c : Nat) : RowB (off1 r c) := by
  refine { b with va := ?_, te := ?_, bv := set_bd b.bv Bd.zero, bt := ?_ }
  · show (r.va.set c _).length ≤ 20
    rw [List.length_set]
    exact b.va
  · show (if at0 r.te c = 1 ∨ at0 r.te c = 2 then r.te.set c (at0 r.te c + 2) else r.te).length ≤ 20
    split
    · rw [List.length_set]
      exact b.te
    · exact b.te
  · show ∀ v, v ∈ (if at0 r.te c = 1 ∨ at0 r.te c = 2 then r.te.set c (at0 r.te c + 2) else r.te) → Bd v
    split
    · rename_i h
      exact set_bd b.bt ⟨by omega, by omega⟩
    · exact b.bt
theorem offs_b : ∀ (cs : List Nat) {r : Row}, RowB r → RowB (cs.foldl off1 r)
  | [], _, b => b
  | c :: cs, _, b => offs_b cs (off1_b b c)
theorem putOff_b {r : Row} (b : RowB r) (h : Hs) (s : Nat) : RowB (putOff h r s) := by
  have o := offs_b (lost h (s : Nat)) b
  refine { o with li := ?_ }
  show (r.li.set s false).length ≤ 20
  rw [List.length_set]
  exact b.li
theorem nums_fit {l : List Int} (h : ∀ v, v ∈ l → Bd v) (n : l.length ≤ 20) : Fit 1 20 (numD l) := Fit.tup ((FitAll.map (k := 0) (n := 0) fun x hx => (h x hx).fit).mono (Nat.le_refl _) (by omega))
theorem bols_fit {l : List Bool} (n : l.length ≤ 20) : Fit 1 20 (bolD l) := Fit.tup ((FitAll.map (k := 0) (n := 0) fun x hx => Fit.bl).mono (Nat.le_refl _) (by omega))
theorem row_fit {r : Row} (b : RowB r) : Fit 2 200 r.d := (Fit.tup (.cons (bols_fit b.dr) (.cons (bols_fit b.li) (.cons (nums_fit b.bv b.va) (.cons (nums_fit b.bs b.sa) (.cons (nums_fit b.bt b.te) .nil)))))).mono (by decide) (by decide)
theorem pl_fit {p : Pl} (h : PlOk p) : Fit 2 20 p.d := by
  have po : Fit 1 5 (pkd p.po) := by
    cases e : p.po with
    | none => exact Fit.non.mono (by decide) (by decide)
    | some t =>
      obtain ⟨c, v, o⟩ := t
      obtain ⟨h1, h2⟩ := h.po c v o e
      exact (Fit.tup (.cons h1.fit (.cons h2.fit (.cons Fit.bl .nil)))).mono (by decide) (by decide)
  exact (Fit.tup (.cons h.k.fit (.cons h.at_.fit (.cons h.wh.fit (.cons po .nil))))).mono (by decide) (by decide)
theorem pls_all {ps : List Pl} (h : ∀ p, p ∈ ps → PlOk p) (n : ps.length ≤ 20) : FitAll 2 500 (ps.map Pl.d) := (FitAll.map fun p hp => pl_fit (h p hp)).mono (Nat.le_refl _) (by omega)
theorem age_ok {cs : List Int} {p : Pl} (h : PlOk p) : PlOk (age cs p) := by
  unfold age
  split
  · exact h
  · rename_i c v o e
    split
    · refine { h with po := fun c' v' o' e' => ?_ }
      cases e'
      exact h.po c v o e
    · exact h
theorem deed_fit {W : Wd} (ok : WOk W) {r : Row} (rk : RowOk (hOf W) r) {ps : List Pl} (h : ∀ p, p ∈ ps → PlOk p) (few : ps.length ≤ 20) {x nm : Str} (sf : strFit nm = true) : Fit 5 2000 (deedD (hOf W) r ps x nm) := by
  have b := rowB_of ok rk
  have pf := Fit.tup (pls_all h few)
  unfold deedD
  split
  · exact (Fit.tup (.cons (row_fit (change_b b _ _ _)) (.cons pf (.cons Fit.non .nil)))).mono (by decide) (by decide)
  split
  · split
    · exact Fit.non.mono (by decide) (by decide)
    · exact (Fit.tup (.cons (row_fit b) (.cons pf (.cons Fit.non .nil)))).mono (by decide) (by decide)
  split
  · exact (Fit.tup (.cons (row_fit b) (.cons pf (.cons Fit.non .nil)))).mono (by decide) (by decide)
  split
  · exact (Fit.tup (.cons (row_fit b) (.cons pf (.cons (Fit.tup (.cons (Fit.str (s := "inside") (by decide +kernel)) (.cons (Fit.str sf) .nil))) .nil)))).mono (by decide) (by decide)
  · have pf2 : Fit 3 500 (plsD (ps.map (age ((lost (hOf W) (numN (hOf W) x nm : Nat)).map natI)))) := by
      refine Fit.tup (pls_all (fun p hp => ?_) (by rw [List.length_map]; exact few))
      obtain ⟨p', hp', rfl⟩ := List.mem_map.mp hp
      exact age_ok (h p' hp')
    exact (Fit.tup (.cons (row_fit (putOff_b b _ _)) (.cons pf2 (.cons Fit.non .nil)))).mono (by decide) (by decide)
theorem n7_fit : ∀ x, x ∈ N7 → strFit x = true := by decide +kernel
theorem n7_lacks : ("lacking" : Str) ∉ N7 := by decide +kernel
theorem has_n7 {W : Wd} (wd : WDr W) {x n : Str} (h : Has (hOf W) x n) : n ∈ N7 := by
  refine wd.n7 n ?_
  unfold Has at h
  unfold Hs.names
  split at h
  · exact List.mem_append_right _ (List.mem_append_left _ h)
  split at h
  · exact List.mem_append_left _ h
  · exact List.mem_append_right _ (List.mem_append_right _ h)
theorem lacks {W : Wd} (wd : WDr W) : Lacks (hOf W) "lacking" := ⟨fun z => n7_lacks (wd.n7 _ (List.mem_append_right _ (List.mem_append_left _ z))), fun z => n7_lacks (wd.n7 _ (List.mem_append_left _ z)), fun z => n7_lacks (wd.n7 _ (List.mem_append_right _ (List.mem_append_right _ z))), by decide +kernel⟩
end K18

namespace K18
open PySem PySem.Spec PyProof.Rows L2
open DL Cal
/-! ### a turn of the law, behind its house -/
theorem for_family {ρ : List Sl} {ω : List D} {E : DE} {t : DTg} {ι : DXi} {τb : DS} {α : Type} (f : α → List D) (G : α → Prop) (hι : ∀ Z : List D → Prop, (∀ x, G x → Z (f x)) → ι ρ ω Z) (h : ∀ x, G x → dFor t (fun _ _ Z => Z (f x)) τb E ρ ω) : dFor t ι τb E ρ ω := hι _ fun x hx => h x hx
def RUnk (h : Hs) : List D → (D → Prop) → Prop := fun xs q => ∃ (r : D) (x n : Str), xs = [hob, r, .tup [.str x, .str n]] ∧ Lacks h n ∧ q (.str n)
@[simp] theorem RUnk_eq {h : Hs} {r : D} {x n : Str} {q : D → Prop} : RUnk h [hob, r, .tup [.str x, .str n]] q = (Lacks h n ∧ q (.str n)) := by
  refine propext ⟨fun ⟨r', x', n', e, h⟩ => ?_, fun h => ⟨r, x, n, rfl, h⟩⟩
  cases e
  exact h
theorem unk_D {K : W.Frag} {C CN : Addr} {h : Hs} : ∀ vs H Q E, spP (dgH K C h) 3 (RUnk h) vs H Q E → spUnkX K C CN vs H Q E := fun vs H Q E ⟨O, xs, q, l, al, dv, ⟨r, x, n, e, la, hq⟩, k⟩ => by
  subst e
  obtain ⟨v, u, w, rfl, d1, d2, d3⟩ := three_at dv
  obtain ⟨o, rfl, st⟩ := d1
  obtain ⟨t, ys, rfl, sq, dvs⟩ := d3
  obtain ⟨v1, r1, e1, hx, v2, r2, e2, hn, h3⟩ := dvs
  cases (show _ = _ from h3)
  cases (show _ = _ from hx)
  cases (show _ = _ from hn)
  subst e1 e2
  obtain ⟨_, _, hs⟩ := st.now
  exact ⟨o, t, u, h, x, n, rfl, hs, fun H' s => sq H' (SameO.of s), la, fun H' s => k _ _ H' hq s rfl⟩
abbrev gK4 : List Value → List Value → List Value := fun us ws => match us, ws with
  | [], [t, p, r, h] => [h, r, p, t]
  | _, _ => []
abbrev gV4 : List V → List V → List V := fun us ws => match us, ws with
  | [], [t, p, r, h] => [h, r, p, t]
  | _, _ => []
abbrev gD4 : List D → List D := fun ds => match ds with
  | [t, p, r, h] => [h, r, p, t]
  | _ => []
theorem gD4_ok {G : DG} : ∀ (O : Addr → Prop) (H : Hp) (ds : List D) (vs : List V), DVs G O H ds vs → DVs G O H (gD4 ds) (gV4 [] vs) := by
  intro O H ds vs h
  match ds, h with
  | [], h =>
    cases (show _ = _ from h)
    exact rfl
  | [a], ⟨v, r, e, h1, h2⟩ =>
    cases (show _ = _ from h2)
    subst e
    exact rfl
  | [a, b], ⟨v, r, e, h1, v2, r2, e2, h2, h3⟩ =>
    cases (show _ = _ from h3)
    subst e e2
    exact rfl
  | [a, b, c], ⟨v, r, e, h1, v2, r2, e2, h2, v3, r3, e3, h3, h4⟩ =>
    cases (show _ = _ from h4)
    subst e e2 e3
    exact rfl
  | [a, b, c, d], ⟨v, r, e, h1, v2, r2, e2, h2, v3, r3, e3, h3, v4, r4, e4, h4, h5⟩ =>
    cases (show _ = _ from h5)
    subst e e2 e3 e4
    exact .cons h4 (.cons h3 (.cons h2 (.cons h1 .nil)))
  | a :: b :: c :: d :: x :: l, ⟨v, r, e, h1, v2, r2, e2, h2, v3, r3, e3, h3, v4, r4, e4, h4, v5, r5, e5, h5, h6⟩ =>
    subst e e2 e3 e4 e5
    exact rfl
structure LawD (P : Program) (w : World) (K : W.Frag) (mg : Str → Option Value) (base : Heap) (C CN : Addr) : Prop where
  all : ∀ h, Callee P w K mg base "_law_all_deeds" 1 ["_law_world"] (spP (dgH K C h) 1 RAllD)
  row : ∀ h, Callee P w K mg base "_law_row" 2 ["_law_deal", "_law_world"] (spB (dgH K C h) 1 RRow)
  places : ∀ h, Callee P w K mg base "_law_places" 3 ["_law_deal", "_law_world"] (spB (dgH K C h) 1 RPlaces)
  of_ : ∀ h, Callee P w K mg base "_law_of" 2 ["_law_deal", "_law_some"] (spB (dgH K C h) 1 ROf)
  handed : ∀ h, Callee P w K mg base "_law_handed" 3 ["_law_world", "_law_row_here", "_law_places_here", "_law_order"] (spP (dgH K C h) 4 RHanded)
  deed : ∀ h, GoodH h → Callee P w K mg base "deed" 6 ["house", "row", "places", "told"] (spP (dgH K C h) 4 (RDeed h))
  deedK : ∀ h, GoodH h → CalleeK P w K mg base "deed" 6 ["house", "row", "places", "told"] ["told", "places", "row", "house"] gK4 gV4 (spP (dgH K C h) 4 (RDeed h))
  unk : Callee P w K mg base "_law_unknown" 7 ["_law_house", "_law_row_here", "_law_told"] (spUnkX K C CN)
abbrev NLw : List Str := ["_law_script", "_law_deal", "_law_turn", "_law_world", "_law_ends", "_law_doors", "_law_cells", "_law_house", "_law_told", "_law_row_here", "_law_places_here", "_law_handed_here", "_law_due", "_law_word", "_law_name", "_law_one", "_law_other", "_law_is_open", "_law_part", "_law_is_kept"]
theorem scL : FnScope NLw ["_law_script"] (defScope sLaw) := ⟨rfl, rfl, rfl, by decide +kernel, rfl, by decide +kernel, by decide +kernel⟩
def forBody : Stmt → List Stmt
  | .For _ _ b _ _ => b
  | _ => []
def turnS : List Stmt := forBody ((defBody sLaw).getD 1 (.Pass ⟨0, 0, 0, 0⟩))
def restS : List Stmt := turnS.drop 5
section
variable {P : Program} {w : World} {K : W.Frag} {mg : Str → Option Value} {base : Heap} {C CN : Addr}
theorem rest_ok {f : Addr} {cdv : Value} {s : Shared} {H : Hp} (B : Bl mg) (L : LawD P w K mg base C CN) (hr : Room 9 (callerA.deeper (envOfC "law" (defScope sLaw) s.heap.objs.size f cdv))) (W : Wd) (wd : WDr W) (O : Addr → Prop) (p q0 : Addr) :
    ∃ τ : DS, PSs (cxOf CX0 P w K mg base NLw "law" (defScope sLaw) f cdv callerA [] s H E0).nox restS (tDS (frB (dgH K C (hOf W)) O p q0) τ) ∧
      ∀ E : DE, (∀ s8 s9 s10 s11 s12 s13, E.nx [.any, .box, .any, .dat W.d, .any, .any, .any, .dat hob, s8, s9, s10, s11, s12, s13, .any, .any, .any, .any, .any, .any] []) → τ E [.any, .box, .any, .dat W.d, .any, .any, .any, .dat hob, .any, .any, .any, .any, .any, .any, .any, .any, .any, .any, .any, .any] [] := by
  have un := hr.units
  have hu := hu_of hr
  have cAll := L.all (hOf W)
  have cRow := L.row (hOf W)
  have cPlaces := L.places (hOf W)
  have cOf := L.of_ (hOf W)
  have cHanded := L.handed (hOf W)
  have cDeed := L.deed (hOf W) wd.ok.g
  have cDeedK := L.deedK (hOf W) wd.ok.g
  have cUnk : Callee P w K mg base "_law_unknown" 7 ["_law_house", "_law_row_here", "_law_told"] (spP (dgH K C (hOf W)) 3 (RUnk (hOf W))) := L.unk.imp unk_D
  have hgD := @gD4_ok (dgH K C (hOf W))
  refine ⟨_, (ds_cons (ds_for PassesOwn.never rfl (di_seq (d_call cAll (hr.mono (by decide)) (by rfl) (da_cons (dv 3) da_nil))) (pg_name (i := 8) scL.nd rfl (Or.inl rfl)) to_name
 (ds_cons (ds_par (i := 9) (j := 10) rfl scL.nd rfl rfl (by decide) rfl rfl (da_cons (d_callB_ cRow (hr.mono (by decide)) (by rfl) (pv 1) (da_cons (dv 3) da_nil)) (da_cons (d_callB_ cPlaces (hr.mono (by decide)) (by rfl) (pv 1) (da_cons (dv 3) da_nil)) da_nil)) (by rfl))
 (ds_cons (ds_set (i := 11) scL.nd rfl (Or.inl rfl) (d_callB_ cOf (hr.mono (by decide)) (by rfl) (pv 1) (da_cons (d_lst (da_cons (d_callTy call_list_of abs_list (by rfl) B.list (by decide +kernel) (da_cons (dv 10) da_nil)) (da_cons (d_callTy call_tuple_of abs_tuple (by rfl) B.tuple (by decide +kernel) (da_cons (dv 10) da_nil)) da_nil))) da_nil)))
 (ds_cons (ds_set (i := 12) scL.nd rfl (Or.inl rfl) (d_callB (call_repr calm_guards un) abs_repr (by rfl) B.repr (by decide +kernel) (da_cons (d_call cHanded (hr.mono (by decide)) (by rfl) (da_cons (dv 3) (da_cons (dv 9) (da_cons (d_callTy call_tuple_of abs_tuple (by rfl) B.tuple (by decide +kernel) (da_cons (dv 10) da_nil)) (da_cons (dv 8) da_nil))))) da_nil)))
 (ds_cons (ds_if (PW.pt (dw_or (d_tcmp (op_neA un) abs_ne (d_callB (call_repr calm_guards un) abs_repr (by rfl) B.repr (by decide +kernel) (da_cons (d_call cDeed (hr.mono (by decide)) (by rfl) (da_cons (dv 7) (da_cons (dv 9) (da_cons (dv 11) (da_cons (dv 8) da_nil))))) da_nil)) (dv 12) (nomark _)) (dw_or1 (d_tcmp (op_neA un) abs_ne (d_callB (call_repr calm_guards un) abs_repr (by rfl) B.repr (by decide +kernel) (da_cons (d_callK cDeedK hgD (hr.mono (by decide)) (by rfl) (dk_cons (dv 8) (dk_cons (dv 11) (dk_cons (dv 9) (dk_cons (dv 7) dk_nil))))) da_nil)) (dv 12) (nomark _)))))
 (ds_one (ds_ret d_bl))
 ds_nil)
 (ds_one (ds_if (d_tcmp (op_neA un) abs_ne (d_callTy call_list_of abs_list (by rfl) B.list (by decide +kernel) (da_cons (dv 11) da_nil)) (dv 10) (nomark _))
 (ds_one (ds_ret d_bl))
 ds_nil)))))))
 (ds_cons (ds_set (i := 13) scL.nd rfl (Or.inl rfl) (d_callB_ cOf (hr.mono (by decide)) (by rfl) (pv 1) (da_cons (d_lst (da_cons d_str (da_cons d_str (da_cons d_str (da_cons d_str (da_cons d_str (da_cons d_str (da_cons d_str da_nil)))))))) da_nil)))
 (ds_one (ds_if (d_tcmp (op_neA un) abs_ne (d_call cUnk (hr.mono (by decide)) (by rfl) (da_cons (dv 7) (da_cons (d_callB_ cRow (hr.mono (by decide)) (by rfl) (pv 1) (da_cons (dv 3) da_nil)) (da_cons (d_tup (da_cons (dv 13) (da_cons d_str da_nil))) da_nil)))) d_str (nomark _))
 (ds_one (ds_ret d_bl))
 ds_nil)))), fun E fin => ?_⟩
  have ok := wd.ok
  have := line
  simp
  refine for_family (fun ts : List (Str × Str) => ts.map toldD) (fun ts => ts.length ≤ 30 ∧ GoodT W ts) (fun Z hz => by
    simp
    exact ⟨W, rfl, ok, fun ts l g => ⟨_, rfl, hz ts ⟨l, g⟩⟩⟩) fun ts ⟨lt, gt⟩ => ?_
  refine for_known (xs := ts.map toldD) (fun i ρ ω => ∃ s8 s9 s10 s11 s12, ρ = [.any, .box, .any, .dat W.d, .any, .any, .any, .dat hob, s8, s9, s10, s11, s12, .any, .any, .any, .any, .any, .any, .any] ∧ ω = []) (fun q h => h) ⟨_, _, _, _, _, rfl, rfl⟩ ?_ ?_
  · rintro i x ρ ω hx ⟨s8, s9, s10, s11, s12, rfl, rfl⟩
    obtain ⟨hi, rfl⟩ := map_get hx
    obtain ⟨tw, th⟩ := gt _ (List.getElem_mem hi)
    have sf := n7_fit _ (has_n7 wd th)
    generalize ts[i] = t at tw th sf
    obtain ⟨x, nm⟩ := t
    have tw : Word x := tw
    have th : Has (hOf W) x nm := th
    have sf : strFit nm = true := sf
    simp [toldD]
    refine ⟨W, rfl, ok, fun r rk => ⟨W, rfl, ok, fun ps l6 pok => ?_⟩⟩
    have ft := deed_fit ok rk pok (show ps.length ≤ 20 by omega) (x := x) sf
    have pf := pls_all pok (show ps.length ≤ 20 by omega)
    have hand : ∀ q : D → Prop, q (deedD (hOf W) r ps x nm) → RHanded [W.d, r.d, .tup (ps.map Pl.d), .tup [.str x, .str nm]] q := fun q hq => ⟨W, r, ps, x, nm, rfl, ok, rk, by omega, tw, th, hq⟩
    have de1 : ∀ q : D → Prop, q (deedD (hOf W) r ps x nm) → RDeed (hOf W) [hob, r.d, .lst (ps.map Pl.d), .tup [.str x, .str nm]] q := fun q hq => ⟨r, ps, _, x, nm, rfl, .inr rfl, by omega, rk, th, hq⟩
    have de2 : ∀ q : D → Prop, q (deedD (hOf W) r ps x nm) → RDeed (hOf W) [hob, r.d, .tup (ps.map Pl.d), .tup [.str x, .str nm]] q := fun q hq => ⟨r, ps, _, x, nm, rfl, .inl rfl, by omega, rk, th, hq⟩
    have rp : ∀ q : D → Prop, q (.str (deedD (hOf W) r ps x nm).py.shown) → RRepr [deedD (hOf W) r ps x nm] q := fun q hq => ⟨_, 5, 2000, rfl, ft, by decide, by decide, hq⟩
    have ne1 : ∀ q : D → Prop, q (.bl false) → RNe (.lst (ps.map Pl.d)) (.lst (ps.map Pl.d)) q := fun q hq => RNe_self pf (by decide) hq
    have neS : ∀ (s : Str) (q : D → Prop), q (.bl false) → RNe (.str s) (.str s) q := fun s q hq => by
      rw [RNe_str]
      exact ⟨true, by simp, hq⟩
    simp
    exact ⟨_, _, ⟨rfl, rfl⟩, _, rfl, _, rfl, ⟨_, rfl, hand _ (rp _ (de1 _ (rp _ (neS _ _ (.inl ⟨rfl, de1 _ (rp _ (neS _ _ (.inl ⟨rfl, _, rfl, ne1 _ (.inl rfl)⟩)))⟩)))))⟩, _, rfl, hand _ (rp _ (de2 _ (rp _ (neS _ _ (.inl ⟨rfl, de2 _ (rp _ (neS _ _ (.inl ⟨rfl, _, rfl, ne1 _ (.inl rfl)⟩)))⟩)))))⟩
  rintro ρ ω ⟨s8, s9, s10, s11, s12, rfl, rfl⟩
  simp [-ROf_eq]
  refine of_words (ws := ["shut", "open", "drain", "off", "on", "save", "load"]) rfl (by decide) (by decide) fun x => ?_
  simp
  exact ⟨W, rfl, ok, fun r rk => ⟨lacks wd, fin _ _ _ _ _ _⟩⟩
end
end K18

namespace K18
open PySem PySem.Spec PyProof.Rows L2
open Cal EnuT Sqx Exn Keys
/-! ### values to hand to House -/
theorem paired_strs {H : Hp} : ∀ {ps : List Str}, (∀ x, x ∈ ps → flatOk (.str x) = true) → Paired (TvAt H) (ps.map V.str) (ps.map strT)
  | [], _ => .nil
  | p :: ps, h => .cons ⟨rfl, h p (List.mem_cons_self ..)⟩ (paired_strs fun x hx => h x (List.mem_cons_of_mem _ hx))
theorem av_strs {H : Hp} {a : Addr} {ps : List Str} (e : SeqAt H a (ps.map V.str)) (h : ∀ x, x ∈ ps → flatOk (.str x) = true) (l : ps.length ≤ 20) : AvAt H (.ref a) (.sq (ps.map strT)) :=
  ⟨a, _, rfl, e, paired_strs h, by rw [List.length_map]; exact l⟩
theorem name_flat {x : Str} (h : nameOk x = true) : flatOk (.str x) = true := by
  unfold nameOk at h
  simp only [Bool.and_eq_true, decide_eq_true_eq] at h
  exact decide_eq_true (show x.length ≤ 1000 by omega)
theorem gh_doors {h : Hs} (g : GoodH h) : ∀ d, d ∈ h.doors → nameOk d.n = true := fun d hd => g.name _ (List.mem_append_right _ (List.mem_append_left _ (List.mem_map.mpr ⟨d, hd, rfl⟩)))
theorem gh_cells {h : Hs} (g : GoodH h) : ∀ d, d ∈ h.cells → nameOk d.n = true := fun d hd => g.name _ (List.mem_append_right _ (List.mem_append_right _ (List.mem_map.mpr ⟨d, hd, rfl⟩)))
theorem gh_parts {h : Hs} (g : GoodH h) : ∀ x, x ∈ h.parts → nameOk x = true := fun x hx => g.name x (List.mem_append_left _ hx)
theorem end_flat {h : Hs} (g : GoodH h) {x : Str} (e : EndIn h.parts x) : flatOk (.str x) = true := by
  rcases e with rfl | e
  · decide +kernel
  · exact name_flat (gh_parts g x e)
theorem fl_nil : ∀ x, x ∈ ([] : List V) → flatOk x = true := fun _ h => nomatch h
theorem fl_cons {v : V} {vs : List V} (h : flatOk v = true) (t : ∀ x, x ∈ vs → flatOk x = true) : ∀ x, x ∈ v :: vs → flatOk x = true := fun x hx => by
  rcases List.mem_cons.mp hx with rfl | z
  · exact h
  · exact t x z
theorem door_flat {h : Hs} (g : GoodH h) {d : Door} (hd : d ∈ h.doors) : ∀ x, x ∈ dvs d → flatOk x = true := by
  obtain ⟨e1, e2, _⟩ := g.ends d hd
  exact fl_cons (name_flat (gh_doors g d hd)) (fl_cons (end_flat g e1) (fl_cons (end_flat g e2) (fl_cons rfl fl_nil)))
theorem cell_flat {h : Hs} (g : GoodH h) {d : Cell} (hd : d ∈ h.cells) : ∀ x, x ∈ cvs d → flatOk x = true :=
  fl_cons (name_flat (gh_cells g d hd)) (fl_cons (name_flat (gh_parts g _ (g.cin d hd))) (fl_cons rfl fl_nil))
theorem paired_map' {α β γ : Type} {R : α → β → Prop} {S : α → γ → Prop} (f : β → γ) : ∀ {xs : List α} {ys : List β}, Paired R xs ys → (∀ a b, b ∈ ys → R a b → S a (f b)) → Paired S xs (ys.map f)
  | _, _, .nil, _ => .nil
  | _, _, .cons r t, k => .cons (k _ _ (List.mem_cons_self ..) r) (paired_map' f t fun a b hb => k a b (List.mem_cons_of_mem _ hb))
theorem tvs_doors {H : Hp} {h : Hs} (g : GoodH h) {vs : List V} (p : Paired (DoorAt H) vs h.doors) : Paired (TvAt H) vs (h.doors.map dT) := paired_map' dT p fun v d hd ⟨t, e, et⟩ => ⟨t, e, .inr et, by show 4 ≤ 20; decide, door_flat g hd⟩
theorem tvs_cells {H : Hp} {h : Hs} (g : GoodH h) {vs : List V} (p : Paired (CellAt H) vs h.cells) : Paired (TvAt H) vs (h.cells.map cT) := paired_map' cT p fun v d hd ⟨t, e, et⟩ => ⟨t, e, .inr et, by show 3 ≤ 20; decide, cell_flat g hd⟩
theorem av_doors {H : Hp} {h : Hs} {b : Addr} {vs : List V} (g : GoodH h) (e : SeqAt H b vs) (p : Paired (DoorAt H) vs h.doors) : AvAt H (.ref b) (.sq (h.doors.map dT)) :=
  ⟨b, vs, rfl, e, tvs_doors g p, by rw [List.length_map]; have := g.d12; omega⟩
theorem av_cells {H : Hp} {h : Hs} {b : Addr} {vs : List V} (g : GoodH h) (e : SeqAt H b vs) (p : Paired (CellAt H) vs h.cells) : AvAt H (.ref b) (.sq (h.cells.map cT)) :=
  ⟨b, vs, rfl, e, tvs_cells g p, by rw [List.length_map]; have := g.c8; omega⟩
theorem av_parts {H : Hp} {h : Hs} {b : Addr} (g : GoodH h) (e : SeqAt H b (h.parts.map V.str)) : AvAt H (.ref b) (.sq (h.parts.map strT)) := av_strs e (fun y hy => name_flat (gh_parts g y hy)) (by have := g.p8; omega)
end K18

namespace K18
open PySem PySem.Spec PyProof.Rows L2
open DL Cal
open EnuT Sqx Exn Keys Trt
/-! ### the law -/
abbrev G0d (K : W.Frag) : DG := ⟨K, fun _ _ _ _ => False⟩
abbrev noA : Addr → Prop := fun _ => False
abbrev FA (K : W.Frag) (p q : Addr) : Fr := frB (G0d K) noA p q
abbrev FB (K : W.Frag) (C : Addr) (W : Wd) (p q : Addr) : Fr := frB (dgH K C (hOf W)) noA p q
mutual
def D.plain : D → Bool
  | .lst xs => D.plains xs | .tup xs => D.plains xs | .dic _ xs => D.plains xs | .obj _ _ => false | _ => true
def D.plains : List D → Bool
  | [] => true
  | d :: r => D.plain d && D.plains r
end
mutual
theorem DV.swap {G G' : DG} {O : Addr → Prop} {H : Hp} (hK : G'.K = G.K) : ∀ (d : D) (v : V), D.plain d = true → DV G O H d v → DV G' O H d v
  | .non, _, _, h => h
  | .bl _, _, _, h => h
  | .int _, _, _, h => h
  | .str _, _, _, h => h
  | .any, _, _, _ => trivial
  | .lst ds, _, p, ⟨a, xs, e, q, r⟩ => ⟨a, xs, e, q, DVs.swap hK ds xs p r⟩
  | .tup ds, _, p, ⟨a, xs, e, q, r⟩ => ⟨a, xs, e, by rw [hK]; exact q, DVs.swap hK ds xs p r⟩
  | .dic ks ds, _, p, ⟨a, xs, e, q, l, r⟩ => ⟨a, xs, e, q, l, DVs.swap hK ds xs p r⟩
theorem DVs.swap {G G' : DG} {O : Addr → Prop} {H : Hp} (hK : G'.K = G.K) : ∀ (ds : List D) (vs : List V), D.plains ds = true → DVs G O H ds vs → DVs G' O H ds vs
  | [], _, _, h => h
  | d :: ds, _, p, ⟨v, vs, e, h, t⟩ => by
    have p := (Bool.and_eq_true _ _).mp (show (D.plain d && D.plains ds) = true from p)
    exact ⟨v, vs, e, DV.swap hK d v p.1 h, DVs.swap hK ds vs p.2 t⟩
end
theorem plains_map {α : Type} {f : α → D} (h : ∀ x, D.plain (f x) = true) : ∀ xs : List α, D.plains (xs.map f) = true
  | [] => rfl
  | x :: xs => by
    show (D.plain (f x) && D.plains (xs.map f)) = true
    rw [h x, plains_map h xs]
    rfl
theorem plains_rep : ∀ n : Nat, D.plains (List.replicate n .any) = true
  | 0 => rfl
  | n + 1 => by
    show (true && D.plains (List.replicate n .any)) = true
    rw [plains_rep n]
    rfl
theorem plain_world {W : Wd} (wd : WDr W) : D.plain W.d = true := by
  obtain ⟨n, e⟩ := wd.ki
  show (D.plains (W.ps.map D.str) && (D.plains (W.ds.map doorD) && (D.plains (W.cs.map cellD) && (true && (true && (D.plain W.ki && true)))))) = true
  rw [plains_map (fun _ => rfl), plains_map (fun _ => rfl), plains_map (fun _ => rfl), e, show D.plain (.lst (List.replicate n .any)) = D.plains (List.replicate n .any) from rfl, plains_rep]
  rfl
structure LawE (P : Program) (w : World) (K : W.Frag) (mg : Str → Option Value) (base : Heap) (C CH : Addr) : Prop where
  drawn : Callee P w K mg base "_law_drawn" 4 ["_law_deal", "_law_most", "_law_deeds"] (spB (G0d K) 2 RDrawn)
  dealt : Callee P w K mg base "_law_dealt" 1 ["_law_script", "_law_base"] (spDealt K)
  m : mg "House" = some (.ref C)
  init : ∃ fI fdI, Mk K C fI ∧ Binds K fdI ["self", "parts", "doors", "cells"] [] ∧ FnOk P w K mg base (L2.CX P w) 4 fI fdI ["self", "parts", "doors", "cells"] (spInit C CH)
def ρ0 : List Sl := [.any, .box, .any, .any, .any, .any, .any, .any, .any, .any, .any, .any, .any, .any, .any, .any, .any, .any, .any, .any]
/-- between two turns -/
def Tn (p q : Addr) (σ : L2.St) (H : Hp) : Prop := σ.length = 20 ∧ σ[1]? = some (some (.ref p)) ∧ Deal H p q
theorem mkSt {G : DG} {p q : Addr} {H : Hp} {σ : L2.St} {ρ : List Sl} (dl : Deal H p q) (en : Paired (SlOk (frB G noA p q) [] H) σ ρ) : StOk (frB G noA p q) H [] σ H ρ [] :=
  ⟨fun a z => z.elim (fun z => z.elim) (deal_al dl), SameO.refl, fun _ z => (nomatch z), fun i j a z => (nomatch z), dl, fun k a z => (nomatch z), rfl, en⟩
section
variable {G : DG} {O : Addr → Prop} {H : Hp}
theorem strs_at : ∀ {ps : List Str} {vs : List V}, DVs G O H (ps.map D.str) vs → vs = ps.map V.str
  | [], _, h => h
  | x :: ps, _, ⟨v, r, e, h1, h2⟩ => by
    subst e
    cases (show _ = _ from h1)
    rw [strs_at h2]
    rfl
theorem door_at {d : Str × Int × Int × Bool} {v : V} (h : DV G O H (doorD d) v) : ∃ t, v = .ref t ∧ Stb O (fun H => SqT G.K H t [.str d.1, .int d.2.1, .int d.2.2.1, .bl d.2.2.2]) H := by
  obtain ⟨t, ys, e, sq, v1, r1, e1, h1, v2, r2, e2, h2, v3, r3, e3, h3, v4, r4, e4, h4, h5⟩ := h
  cases (show _ = _ from h5)
  cases (show _ = _ from h4)
  cases (show _ = _ from h3)
  cases (show _ = _ from h2)
  cases (show _ = _ from h1)
  subst e4 e3 e2 e1
  exact ⟨t, e, sq⟩
theorem cell_at {d : Str × Nat × Bool} {v : V} (h : DV G O H (cellD d) v) : ∃ t, v = .ref t ∧ Stb O (fun H => SqT G.K H t [.str d.1, .int (d.2.1 : Nat), .bl d.2.2]) H := by
  obtain ⟨t, ys, e, sq, v1, r1, e1, h1, v2, r2, e2, h2, v3, r3, e3, h3, h5⟩ := h
  cases (show _ = _ from h5)
  cases (show _ = _ from h3)
  cases (show _ = _ from h2)
  cases (show _ = _ from h1)
  subst e3 e2 e1
  exact ⟨t, e, sq⟩
end
theorem HouseX.ext {H H' : Hp} {C o : Addr} {h : Hs} (x : HouseX H C o h) (s : ∀ b u, H b = some u → (∀ xs, u ≠ .lst xs) → H' b = some u) : HouseX H' C o h := by
  obtain ⟨dx, tp, td, tc, D1, D2, D3, te, tq, tk, vd, vc, ve, k1, k2, k3, n⟩ := x
  have nt : ∀ {a xs}, H a = some (.tup xs) → H' a = some (.tup xs) := fun {a xs} e => s _ _ e (fun _ z => nomatch z)
  have nk : ∀ {a xs}, H a = some (.dK xs) → H' a = some (.dK xs) := fun {a xs} e => s _ _ e (fun _ z => nomatch z)
  exact ⟨dx, tp, td, tc, D1, D2, D3, te, tq, tk, vd, vc, ve, k1, k2, k3, {
    ins := s _ _ n.ins (fun _ z => nomatch z)
    pa := nt n.pa
    da := nt n.da
    dp := paired_mono (fun _ _ r => r.mono fun c ec => nt ec) n.dp
    ca := nt n.ca
    cp := paired_mono (fun _ _ r => r.mono fun c ec => nt ec) n.cp
    n1 := nk n.n1
    m1 := n.m1
    n2 := nk n.n2
    m2 := n.m2
    n3 := nk n.n3
    m3 := n.m3
    ea := nt n.ea
    ep := paired_mono (fun _ _ ⟨t, e, et⟩ => ⟨t, e, nt et⟩) n.ep
    qa := nt n.qa
    ka := nt n.ka }⟩
/-- a house is none of what is drawn from -/
theorem house_stb {H : Hp} {C o p q : Addr} {h : Hs} {O : Addr → Prop} (x : HouseX H C o h) (dl : Deal H p q) (hO : ∀ a, O a → two p q a) : Stb O (HouseX · C o h) H := fun H' s => HouseX.ext x fun b u e nl => s b u (fun z => by
  obtain ⟨_, ns, k, hp, hq, _⟩ := dl
  rcases hO b z with rfl | rfl
  · rw [hp] at e
    cases e
    exact nl _ rfl
  · rw [hq] at e
    cases e
    exact nl _ rfl) e
theorem ends_ix {ps : List Str} {i : Int} (l : -1 ≤ i) (u : i < (ps.length : Nat)) : atI ((ps ++ [("out" : Str)]).map V.str) i = some (V.str (endS ps i)) := by
  unfold endS
  by_cases e : i = -1
  · subst e
    rw [if_pos rfl]
    unfold atI
    rw [List.map_append]
    simp [ixN]
    rw [if_pos (by omega), show (-1 + ((ps.length : Int) + 1)).toNat = ps.length by omega]
    simp
  · rw [if_neg e]
    obtain ⟨n, rfl⟩ : ∃ n : Nat, i = n := ⟨i.toNat, by omega⟩
    have hn : n < ps.length := by omega
    rw [atI_at, List.getElem?_map, List.getElem?_append_left hn, List.getElem?_eq_getElem hn, List.getD_eq_getElem?_getD, Int.toNat_natCast, List.getElem?_eq_getElem hn]
    rfl
theorem part_ix {ps : List Str} {i : Nat} (u : i < ps.length) : atI (ps.map V.str) (i : Int) = some (V.str (ps.getD i "out")) := by
  rw [atI_at, List.getElem?_map, List.getElem?_eq_getElem u, List.getD_eq_getElem?_getD, List.getElem?_eq_getElem u]
  rfl
theorem doors_get {W : Wd} {j : Nat} (hj : j < W.ds.length) (h : j < (hOf W).doors.length) : (hOf W).doors[j] = ⟨W.ds[j].1, endS W.ps W.ds[j].2.1, endS W.ps W.ds[j].2.2.1, W.ds[j].2.2.2⟩ := List.getElem_map _
theorem cells_get {W : Wd} {j : Nat} (hj : j < W.cs.length) (h : j < (hOf W).cells.length) : (hOf W).cells[j] = ⟨W.cs[j].1, W.ps.getD W.cs[j].2.1 "out", W.cs[j].2.2⟩ := List.getElem_map _
theorem DoorAt.keep {H H' : Hp} {v : V} {d : Door} (k : ∀ t o, H t = some (.tup o) → H' t = some (.tup o)) : DoorAt H v d → DoorAt H' v d := fun ⟨t, e, h⟩ => ⟨t, e, k _ _ h⟩
theorem CellAt.keep {H H' : Hp} {v : V} {d : Cell} (k : ∀ t o, H t = some (.tup o) → H' t = some (.tup o)) : CellAt H v d → CellAt H' v d := fun ⟨t, e, h⟩ => ⟨t, e, k _ _ h⟩
section
variable {P : Program} {w : World} {K : W.Frag} {mg : Str → Option Value} {base : Heap} {C CH CN : Addr}
theorem law_ok {f a : Addr} {fd : FuncData} {s : Shared} {H : Hp} {ns : List Int} (F : Fun K "law" "law" sLaw f fd) (B : Bl mg) (L : LawD P w K mg base C CN) (M : LawE P w K mg base C CH) (e0 : Env0 P w K mg base callerA [] s H) (bind : Binds K fd ["_law_script"] [])
    (sq : SqL K H a (ns.map V.int)) (few : ns.length ≤ 63) :
    codeAny (model P w) callerA (.call (.ref f) ⟨[.ref a], []⟩) (CR CX0 [] P w H s (fun v _ => v = .bl true) E0) s := by
  refine law_run (vs := [V.ref a]) F scL e0 bind (.cons (show RelV (V.ref a) (Value.ref a) from rfl) .nil) rfl fun cdv => ?_
  have hr : Room 9 (callerA.deeper (envOfC "law" (defScope sLaw) s.heap.objs.size f cdv)) := (show Room 10 callerA from ⟨rfl, by decide, by decide⟩).deeper _
  have un := hr.units
  have hu := hu_of hr
  have hr1 := hr.mono (show 1 ≤ 9 by decide)
  have hr5 := hr.mono (show 5 ≤ 9 by decide)
  have cDrawn := M.drawn
  obtain ⟨fI, fdI, mk, bI, FI⟩ := M.init
  have RO := fun i : {x : Wd × Addr × Addr // WDr x.1} => rest_ok (f := f) (cdv := cdv) (s := s) (H := H) B L hr i.1.1 i.2 noA i.1.2.1 i.1.2.2
  refine ⟨_, pss_cons (ps_set (i := 1) scL.nd rfl (Or.inl rfl) (pe_callee M.dealt hr1 rfl (pa_cons (pv 0) (pa_cons pe_int pa_nil))))
    (pss_cons (ps_for PassesOwn.never rfl (pi_range1 rfl B.range (pa_cons pe_int pa_nil)) (pg_name (i := 2) scL.nd rfl (Or.inl rfl))
      (pss_cons (ps_fam fun pq : Addr × Addr => ds_set (F := FA K pq.1 pq.2) (i := 3) scL.nd rfl (Or.inr rfl) (d_callB_ cDrawn (hr.mono (by decide)) (by rfl) (pv 1) (da_cons d_int (da_cons d_int da_nil))))
      (pss_cons (ps_fam fun pq : Addr × Addr => ds_set (F := FA K pq.1 pq.2) (i := 4) scL.nd rfl (Or.inr rfl) (d_op op_addA abs_add (d_dget hu (dv 3) d_str) (d_lst (da_cons d_str da_nil))))
      (pss_cons (ps_setLc (i := 5) (own := [("_law_name", 14), ("_law_one", 15), ("_law_other", 16), ("_law_is_open", 17)]) (g := gTup K 4 (gCons (gName 14) (gCons (gName 15) (gCons (gName 16) (gCons (gName 17) gNil))))) (tt := tYes) (by rfl) scL.nd rfl rfl (sw_true rfl rfl rfl (by decide +kernel)) (pi_list (pe_dget hu (pv 3) pe_str (fun _ _ => rfl)))
        (blkOk_by (own := [("_law_name", 14), ("_law_one", 15), ("_law_other", 16), ("_law_is_open", 17)]) (N := NLw) (sc := defScope sLaw) (by decide +kernel))
        (fun _ _ _ _ _ => pg_tup rfl (pgs_cons (pg_name (i := 14) scL.nd rfl (Or.inl rfl)) (pgs_cons (pg_name (i := 15) scL.nd rfl (Or.inl rfl)) (pgs_cons (pg_name (i := 16) scL.nd rfl (Or.inl rfl)) (pgs_cons (pg_name (i := 17) scL.nd rfl (Or.inl rfl)) pgs_nil)))))
        (fun _ _ _ _ _ => pts_nil) (fun _ _ _ _ _ => pe_tup (pa_cons (pv 14) (pa_cons (show PE _ _ (tOp (rIxL K) (tVar 4) (tVar 15)) from pe_ix ix_list (pv 4) (pv 15) (fun _ _ => rfl)) (pa_cons (show PE _ _ (tOp (rIxL K) (tVar 4) (tVar 16)) from pe_ix ix_list (pv 4) (pv 16) (fun _ _ => rfl)) (pa_cons (pv 17) pa_nil))))))
      (pss_cons (ps_setLc (i := 6) (own := [("_law_name", 14), ("_law_part", 18), ("_law_is_kept", 19)]) (g := gTup K 3 (gCons (gName 14) (gCons (gName 18) (gCons (gName 19) gNil)))) (tt := tYes) (by rfl) scL.nd rfl rfl (sw_true rfl rfl rfl (by decide +kernel)) (pi_list (pe_dget hu (pv 3) pe_str (fun _ _ => rfl)))
        (blkOk_by (own := [("_law_name", 14), ("_law_part", 18), ("_law_is_kept", 19)]) (N := NLw) (sc := defScope sLaw) (by decide +kernel))
        (fun _ _ _ _ _ => pg_tup rfl (pgs_cons (pg_name (i := 14) scL.nd rfl (Or.inl rfl)) (pgs_cons (pg_name (i := 18) scL.nd rfl (Or.inl rfl)) (pgs_cons (pg_name (i := 19) scL.nd rfl (Or.inl rfl)) pgs_nil))))
        (fun _ _ _ _ _ => pts_nil) (fun _ _ _ _ _ => pe_tup (pa_cons (pv 14) (pa_cons (show PE _ _ (tOp (rIxL K) _ (tVar 18)) from pe_ix ix_list (pe_dget hu (pv 3) pe_str (fun _ _ => rfl)) (pv 18) (fun _ _ => rfl)) (pa_cons (pv 19) pa_nil)))))
      (pss_cons (ps_set (i := 7) scL.nd rfl (Or.inl rfl) (pe_make mk FI hr5 rfl M.m bI .nil passX (pa_cons (pe_dget hu (pv 3) pe_str (fun _ _ => rfl)) (pa_cons (pv 5) (pa_cons (pv 6) pa_nil)))))
      (pss_fam fun i => (Classical.choose_spec (RO i)).1)))))))
    (pss_one (ps_ret pe_bl))), ?_⟩
  refine ⟨_, rfl, a, ns, rfl, sq, few, fun H1 p q s1 np nq dl => ?_⟩
  refine ⟨_, rfl, by decide, by decide, for_range (fun i σ H' => Tn p q σ H') ⟨rfl, rfl, dl⟩ ?_ ?_⟩
  · rintro i σ H2 hi ⟨l20, e1, dl2⟩
    match σ, l20, e1 with
    | [v0, v1, v2, v3, v4, v5, v6, v7, v8, v9, v10, v11, v12, v13, v14, v15, v16, v17, v18, v19], _, e1 =>
    cases e1
    refine ⟨(p, q), H2, [], ρ0, [], { nx := fun ρ' ω' => ∃ W, WDr W ∧ ρ' = ρ0.set 3 (.dat W.d) ∧ ω' = [], rt := fun _ => False }, mkSt dl2 (.cons trivial (.cons rfl (.cons trivial (.cons trivial (.cons trivial (.cons trivial (.cons trivial (.cons trivial (.cons trivial (.cons trivial (.cons trivial (.cons trivial (.cons trivial (.cons trivial (.cons trivial (.cons trivial (.cons trivial (.cons trivial (.cons trivial (.cons trivial .nil)))))))))))))))))))),
      ⟨rfl, rfl, rfl, fun W wd => ⟨W, wd, rfl, rfl⟩⟩, ⟨fun as' σ' H3 ρ' ω' ⟨W, wd, e2, e3⟩ st' _ => ?_, fun _ _ _ _ _ z => z.elim, fun _ _ _ _ _ z => z.elim, fun _ _ _ z => z.elim⟩⟩
    subst e2 e3
    refine ⟨(p, q), H2, as', _, [], { nx := fun ρ' ω' => ρ' = (ρ0.set 3 (.dat W.d)).set 4 (.dat (.lst (W.ps.map D.str ++ [.str "out"]))) ∧ ω' = [], rt := fun _ => False }, st', ?_, ⟨fun as2 σ2 H4 ρ' ω' ⟨e2, e3⟩ st2 _ => ?_, fun _ _ _ _ _ z => z.elim, fun _ _ _ _ _ z => z.elim, fun _ _ _ z => z.elim⟩⟩
    · simp [ρ0, Wd.d, look_parts]
      have := line
      have := wd.ok.few
      exact ⟨_, _, ⟨rfl, rfl⟩, _, look_parts, rfl, by omega⟩
    subst e2 e3
    clear st'
    obtain rfl : as2 = [] := by
      cases as2 with
      | nil => rfl
      | cons x l => cases st2.ol
    have ok := wd.ok
    have gH := ok.g
    have len2 := paired_len st2.en
    obtain ⟨o1, g1, hp1⟩ := slots_get st2.en (i := 1) rfl
    obtain ⟨o3, g3, vW, rfl, hW⟩ := slots_get st2.en (i := 3) rfl
    obtain ⟨o4, g4, vE, rfl, aE, ysE, rfl, stE, dvE⟩ := slots_get st2.en (i := 4) rfl
    have hp1 : o1 = some (.ref p) := hp1
    subst hp1
    have eE : ysE = (W.ps ++ [("out" : Str)]).map V.str := by
      refine strs_at (G := G0d K) (O := Ow (FA K p q) []) (H := H4) ?_
      rw [List.map_append]
      exact dvE
    subst eE
    have dl4 : Deal H4 p q := st2.bx
    clear dvE
    have hW0 := hW
    obtain ⟨aW, xsW, rfl, stW, lkW, dvW⟩ := hW
    obtain ⟨wp, hwp, dwp⟩ := look_at dvW look_parts
    obtain ⟨wdo, hwdo, dwdo⟩ := look_at dvW look_doors
    obtain ⟨wce, hwce, dwce⟩ := look_at dvW look_cells
    obtain ⟨ap, ysp, rfl, stp, dvp⟩ := dwp
    obtain rfl := strs_at dvp
    obtain ⟨ad, ysd, rfl, std, dvd⟩ := dwdo
    obtain ⟨ac, ysc, rfl, stc, dvc⟩ := dwce
    clear st2
    have len2 : σ2.length = 20 := len2
    match σ2, len2, g1, g3, g4 with
    | [v0, v1, v2, v3, v4, v5, v6, v7, v8, v9, v10, v11, v12, v13, v14, v15, v16, v17, v18, v19], _, g1, g3, g4 =>
    cases g1
    cases g3
    cases g4
    refine ⟨_, rfl, aW, .ref ad, rfl, .inl ⟨_, Sum.inr "doors", .inl stW.now, rfl, hwdo.symm⟩, ad, rfl, ⟨_, SqL.of std.now⟩, fun D1 nD1 => ?_⟩
    have lds : W.ds.length = ysd.length := by have := dvd.len; rwa [List.length_map] at this
    have lcs : W.cs.length = ysc.length := by have := dvc.len; rwa [List.length_map] at this
    refine lc_list (xs := ysd) (fun j H' => Same H4 H' ∧ ∃ acc, H' D1 = some (.lst acc) ∧ Paired (DoorAt H') acc ((hOf W).doors.take j)) ⟨same_upd nD1, [], upd_same, .nil⟩ (fun j H' _ z => SqL.of (z.1 _ _ std.now)) ?_ ?_
    · rintro j x H5 hx ⟨s5, acc, at_D, pw⟩
      obtain ⟨d, hd, dx⟩ := dvd.get hx
      obtain ⟨hj, rfl⟩ := map_get hd
      obtain ⟨t, rfl, sqt⟩ := door_at dx
      obtain ⟨⟨b1, b2⟩, b3, b4⟩ := wd.eb _ (List.getElem_mem hj)
      refine ⟨t, _, rfl, sqt _ (SameO.of s5), rfl, _, _, rfl, _, _, rfl, _, _, rfl, _, _, rfl, rfl, rfl, kept ⟨_, rfl, ?_⟩⟩
      have la := paired_len pw
      rw [List.length_take] at la
      have hj' : j < (hOf W).doors.length := by unfold hOf; rw [List.length_map]; exact hj
      have few := ok.few
      refine ⟨_, rfl, _, rfl, aE, _, _, _, rfl, rfl, SqL.of (stE _ (SameO.of s5)), ends_ix b1 b2, _, rfl, _, rfl, aE, _, _, _, rfl, rfl, SqL.of (stE _ (SameO.of s5)), ends_ix b3 b4, _, rfl, by show 4 ≤ sizeLine; decide, fun T nT => ?_⟩
      have sT := same_upd (o := .tup [V.str W.ds[j].1, .str (endS W.ps W.ds[j].2.1), .str (endS W.ps W.ds[j].2.2.1), .bl W.ds[j].2.2.2]) nT
      have kp : ∀ t o, upd H5 T (.tup [V.str W.ds[j].1, .str (endS W.ps W.ds[j].2.1), .str (endS W.ps W.ds[j].2.2.1), .bl W.ds[j].2.2.2]) t = some (.tup o) → upd (upd H5 T (.tup [V.str W.ds[j].1, .str (endS W.ps W.ds[j].2.1), .str (endS W.ps W.ds[j].2.2.1), .bl W.ds[j].2.2.2])) D1 (.lst (acc ++ [.ref T])) t = some (.tup o) := fun t o e => by
        rw [upd_ne (fun z => by rw [z, sT _ _ at_D] at e; cases e)]
        exact e
      refine ⟨acc, sT _ _ at_D, by have := line; omega, fun b o e => ?_, acc ++ [.ref T], upd_same, ?_⟩
      · rw [upd_ne (ne_of_none e nD1)]
        exact sT _ _ (s5 _ _ e)
      · rw [List.take_succ_eq_append_getElem hj']
        refine paired_app (paired_mono (fun _ _ r => DoorAt.keep (fun t o e => kp t o (sT _ _ e)) r) pw) (.cons ⟨T, rfl, ?_⟩ .nil)
        refine kp T _ ?_
        rw [upd_same, doors_get hj]
        rfl
    rintro H5 ⟨s5, acc, at_D, pw⟩
    have pw : Paired (DoorAt H5) acc (hOf W).doors := by
      have e : ysd.length = (hOf W).doors.length := by unfold hOf; rw [List.length_map]; exact lds.symm
      rw [e, List.take_length] at pw
      exact pw
    refine ⟨_, rfl, aW, .ref ac, rfl, .inl ⟨_, Sum.inr "cells", .inl (stW _ (SameO.of s5)), rfl, hwce.symm⟩, ac, rfl, ⟨_, SqL.of (stc _ (SameO.of s5))⟩, fun D2 nD2 => ?_⟩
    refine lc_list (xs := ysc) (fun j H' => Same H5 H' ∧ ∃ acc, H' D2 = some (.lst acc) ∧ Paired (CellAt H') acc ((hOf W).cells.take j)) ⟨same_upd nD2, [], upd_same, .nil⟩ (fun j H' _ z => SqL.of (z.1 _ _ (stc _ (SameO.of s5)))) ?_ ?_
    · rintro j x H6 hx ⟨s6, acc2, at_D2, pw2⟩
      obtain ⟨d, hd, dx⟩ := dvc.get hx
      obtain ⟨hj, rfl⟩ := map_get hd
      obtain ⟨t, rfl, sqt⟩ := cell_at dx
      have cl := ok.c _ (List.getElem_mem hj)
      have s46 := s5.trans s6
      have la := paired_len pw2
      rw [List.length_take] at la
      have hj' : j < (hOf W).cells.length := by unfold hOf; rw [List.length_map]; exact hj
      have few := ok.few
      refine ⟨t, _, rfl, sqt _ (SameO.of s46), rfl, _, _, rfl, _, _, rfl, _, _, rfl, rfl, rfl, kept ⟨_, rfl, _, rfl, aW, .ref ap, rfl, .inl ⟨_, Sum.inr "parts", .inl (stW _ (SameO.of s46)), rfl, hwp.symm⟩, _, rfl, ap, _, _, _, rfl, rfl, SqL.of (stp _ (SameO.of s46)), part_ix cl, _, rfl, by show 3 ≤ sizeLine; decide, fun T nT => ?_⟩⟩
      have sT := same_upd (o := .tup [V.str W.cs[j].1, .str (W.ps.getD W.cs[j].2.1 "out"), .bl W.cs[j].2.2]) nT
      have kp : ∀ t o, upd H6 T (.tup [V.str W.cs[j].1, .str (W.ps.getD W.cs[j].2.1 "out"), .bl W.cs[j].2.2]) t = some (.tup o) → upd (upd H6 T (.tup [V.str W.cs[j].1, .str (W.ps.getD W.cs[j].2.1 "out"), .bl W.cs[j].2.2])) D2 (.lst (acc2 ++ [.ref T])) t = some (.tup o) := fun t o e => by
        rw [upd_ne (fun z => by rw [z, sT _ _ at_D2] at e; cases e)]
        exact e
      refine ⟨acc2, sT _ _ at_D2, by have := line; omega, fun b o e => ?_, acc2 ++ [.ref T], upd_same, ?_⟩
      · rw [upd_ne (ne_of_none e nD2)]
        exact sT _ _ (s6 _ _ e)
      · rw [List.take_succ_eq_append_getElem hj']
        refine paired_app (paired_mono (fun _ _ r => CellAt.keep (fun t o e => kp t o (sT _ _ e)) r) pw2) (.cons ⟨T, rfl, ?_⟩ .nil)
        refine kp T _ ?_
        rw [upd_same, cells_get hj]
        rfl
    rintro H6 ⟨s6, acc2, at_D2, pw2⟩
    have pw2 : Paired (CellAt H6) acc2 (hOf W).cells := by
      have e : ysc.length = (hOf W).cells.length := by unfold hOf; rw [List.length_map]; exact lcs.symm
      rw [e, List.take_length] at pw2
      exact pw2
    have s46 := s5.trans s6
    refine ⟨_, rfl, aW, .ref ap, rfl, .inl ⟨_, Sum.inr "parts", .inl (stW _ (SameO.of s46)), rfl, hwp.symm⟩, _, rfl, _, rfl, fun x dx nx ndx ne => ?_⟩
    have sY : Same H6 (upd (upd H6 dx (.own x)) x (.ins C dx [])) := fun b u e => by
      rw [upd_ne (ne_of_none e nx), upd_ne (ne_of_none e ndx)]
      exact e
    have s4Y := s46.trans sY
    refine ⟨x, dx, _, _, _, _, _, _, rfl, upd_same, av_parts gH (.inl (stp _ (SameO.of s4Y))), av_doors gH (.inl (sY _ _ (s6 _ _ at_D))) (paired_mono (fun _ _ r => DoorAt.keep (fun t o e => sY _ _ (s6 _ _ e)) r) pw), av_cells gH (.inl (sY _ _ at_D2)) (paired_mono (fun _ _ r => CellAt.keep (fun t o e => sY _ _ e) r) pw2), .inr ⟨hOf W, ⟨gH, rfl, rfl, rfl⟩, fun G13 b13 hx13 => ⟨rfl, ?_⟩⟩⟩
    have s13 : Same H6 G13 := fun b u e => b13 b u (ne_of_none e nx) (sY _ _ e)
    have s4G := s46.trans s13
    have dlG : Deal G13 p q := (FA K p q).BM H4 G13 (fun b o _ e => s4G b o e) dl4
    have dvW' : DV (dgH K C (hOf W)) (Ow (FB K C W p q) []) G13 W.d (.ref aW) := (DV.swap (G := G0d K) (G' := dgH K C (hOf W)) (O := Ow (FA K p q) []) (H := H4) rfl W.d _ (plain_world wd) hW0).mono (SameO.of s4G)
    have stH : Stb (Ow (FB K C W p q) []) ((dgH K C (hOf W)).inst "House" [] x) G13 := fun H' s => ⟨rfl, rfl, house_stb hx13 dlG (fun a z => z.elim (fun z => z.elim (fun z => z.elim) id) (fun z => nomatch z)) H' s⟩
    refine ⟨⟨(W, p, q), wd⟩, G13, [], [.any, .box, .any, .dat W.d, .any, .any, .any, .dat hob, .any, .any, .any, .any, .any, .any, .any, .any, .any, .any, .any, .any], [], { nx := fun ρ' ω' => ρ'.length = 20 ∧ ρ'[1]? = some .box, rt := fun _ => False },
      mkSt dlG (.cons trivial (.cons rfl (.cons trivial (.cons ⟨_, rfl, dvW'⟩ (.cons trivial (.cons trivial (.cons trivial (.cons ⟨_, rfl, x, rfl, stH⟩ (.cons trivial (.cons trivial (.cons trivial (.cons trivial (.cons trivial (.cons trivial (.cons trivial (.cons trivial (.cons trivial (.cons trivial (.cons trivial (.cons trivial .nil)))))))))))))))))))),
      (Classical.choose_spec (RO ⟨(W, p, q), wd⟩)).2 _ (fun _ _ _ _ _ _ => ⟨rfl, rfl⟩), ⟨fun as' σ' H' ρ' ω' ⟨r1, r2⟩ st' _ => ?_, fun _ _ _ _ _ z => z.elim, fun _ _ _ _ _ z => z.elim, fun _ _ _ z => z.elim⟩⟩
    obtain ⟨o, g, e⟩ := slots_get st'.en r2
    have e : o = some (.ref p) := e
    subst e
    exact ⟨(paired_len st'.en).trans r1, g, st'.bx⟩
  · rintro σ H' _
    rfl
end
end K18

/-! what the written part says of own exception classes, of own classes, of constant tuples of words -/
namespace Fx
open PySem PySem.Spec PyProof.Rows L2
open Exn Keys
def clsB (K : W.Frag) (C : Addr) (bm : List Value) (newId : String) (f : Str) : Bool :=
  W.excInitIn K C bm newId && W.excOver K C bm && decide (W.findIn K (.ref C) "__setattr__" = some (some (.builtin "object.__setattr__"))) &&
  decide (W.findIn K (.ref C) "__getattribute__" = some (some (.builtin "BaseException.__getattribute__"))) && decide (W.findIn K (.ref C) "__getattr__" = some none) && W.hasDictIn K C &&
  decide (W.subIn K (.ref C) (.type "BaseException") = some true) && decide (W.findIn K (.ref C) "__class__" = some (some (.builtin "object.__class__"))) && decide (W.mroIn K C (.type "object") = some true) &&
  W.keepIn K (.ref C) && decide (W.findIn K (.ref C) f = some none) && decide (W.typeIn K (.ref C) = some (.type "type"))
theorem ecl_of {K : W.Frag} {C : Addr} {bm : List Value} {B newId initId : String} {f : Str} (h : clsB K C bm newId f = true) (hb : ∃ bm', ExcBaseFacts B newId initId bm') (ht : Tail bm B) (hs : ∃ B', StoreFacts B' bm "object.__setattr__" "object") :
    Ecl K C B newId initId bm ∧ W.findIn K (.ref C) f = some none ∧ W.typeIn K (.ref C) = some (.type "type") := by
  unfold clsB at h
  simp only [Bool.and_eq_true, decide_eq_true_eq] at h
  obtain ⟨⟨⟨⟨⟨⟨⟨⟨⟨⟨⟨h1, h2⟩, h3⟩, h4⟩, h5⟩, h6⟩, h7⟩, h8⟩, h9⟩, h10⟩, h11⟩, h12⟩ := h
  exact ⟨⟨hb, ht, hs, h1, h2, h3, h4, h5, h6, h7, h8, h9, h10⟩, h11, h12⟩
/-- the text of an __init__ that keeps one thing -/
structure InitTxt (st : Stmt) (f : Str) : Prop where
  body : ∃ p1 p2 p3 p4, defBody st = [.Assign [.Attribute (.Name "self" p1) f p2] (.Name f p3) p4]
  sc : FnScope ["self", f] ["self", f] (defScope st)
  v0 : Vis (defScope st) "self"
  v1 : Vis (defScope st) f
  n1 : (f == ("__debug__" : Str)) = false
  n2 : (f == ("__classdict__" : Str)) = false
  bp : ∀ (qual : Str) (kV doc pm : Value) (an : Option Addr) (cdv ct a u : Value), bindArgs (W.fnOf "__init__" qual (defArgs st) (defBody st) (defScope st) .none kV doc pm an cdv ct) ⟨[a, u], []⟩ = pure [(("self" : Str), a), (f, u)]
  bk : ∀ (qual : Str) (kV doc pm : Value) (an : Option Addr) (cdv ct a u : Value), bindArgs (W.fnOf "__init__" qual (defArgs st) (defBody st) (defScope st) .none kV doc pm an cdv ct) ⟨[a], [(f, u)]⟩ = pure [(("self" : Str), a), (f, u)]
theorem exE : ∃ bm', ExcBaseFacts "Exception" "Exception.__new__" "Exception.__init__" bm' := ⟨_, PySem.F.excBase_Exception⟩
theorem exS : ∃ B', StoreFacts B' exTail "object.__setattr__" "object" := ⟨_, PySem.F.store_Exception⟩
theorem keE : ∃ bm', ExcBaseFacts "LookupError" "LookupError.__new__" "LookupError.__init__" bm' := ⟨_, PySem.F.excBase_LookupError⟩
theorem keS : ∃ B', StoreFacts B' keyTail "object.__setattr__" "object" := ⟨_, store_KeyError⟩
section
variable {P : Program} {w : World} {K : W.Frag} {h : Heap} {mg : Str → Option Value} {base : Heap}
theorem cl1_mk {x : Str} {C fI : Addr} {f qual : Str} {st : Stmt} {bm : List Value} {B newId initId : String} {oc kV doc pm cdv ct : Value} {od an : Option Addr} {sl : Array (Option Value)} (X : K.In h) (G : h.Ns mainGlobals mg)
    (aC : W.nsIn K mainGlobals x = some (some (.ref C))) (cb : clsB K C bm newId f = true) (iC : W.findIn K (.ref C) "__init__" = some (some (.ref fI))) (tI : W.typeIn K (.ref fI) = some (.type "function"))
    (l : K.lookup fI = some ⟨oc, od, .func (W.fnOf "__init__" qual (defArgs st) (defBody st) (defScope st) .none kV doc pm an cdv ct), sl⟩) (c : W.codeIn K cdv qual = true) (kI : W.keepIn K (.ref fI) = true)
    (ke : InitTxt st f) (hb : ∃ bm', ExcBaseFacts B newId initId bm') (ht : Tail bm B) (hs : ∃ B', StoreFacts B' bm "object.__setattr__" "object") : Cl1 P w K mg base x C f B newId initId bm := by
  obtain ⟨E, no, ty⟩ := ecl_of (initId := initId) cb hb ht hs
  obtain ⟨p1, p2, p3, p4, hB⟩ := ke.body
  have F := fun_mk (st := st) l c kI
  exact ⟨E, no, W.mg_of X G aC, ty, fI, _, iC, tI, ok_keep F E no hB ke.sc ke.v0 ke.v1 ke.n1 ke.n2, fun s a u => .of_eq (ke.bp ..), fun s a u => .of_eq (ke.bk ..)⟩
end
/-- what the written part says of an own class whose objects keep what they are given: its attributes fs -/
def ownB (K : W.Frag) (C : Addr) (fs : List Str) : Bool :=
  W.plainGet K C Str.empty && W.hasDictIn K C && W.plainOver K C && decide (W.findIn K (.ref C) "__setattr__" = some (some (.builtin "object.__setattr__"))) && W.makesIn K C && W.keepIn K (.ref C) &&
  decide (W.findIn K (.ref C) "__class__" = some (some (.builtin "object.__class__"))) && decide (W.specialIn K (.builtin "object.__class__") "__get__" = some (some (.builtin "getset_descriptor.__get__"))) &&
  decide (W.takesIn K (.builtin "object.__class__") = some true) && decide (W.mroIn K C (.type "object") = some true) && decide (W.kitOne K (.ref C) (.ref C) = some true) &&
  decide (W.specialIn K (.ref C) "__getattribute__" = some (some (.builtin "type.__getattribute__"))) && W.readsIn K C (.type "type") && fs.all fun f => decide (W.findIn K (.ref C) f = some none)
structure Own (K : W.Frag) (C : Addr) (fs : List Str) : Prop where
  cl : Cls K C
  makes : W.makesIn K C = true
  kp : W.keepIn K (.ref C) = true
  ty : ∀ (H : Hp) (a dx : Addr) (gs : List (Str × V)), H a = some (.ins C dx gs) → TyX K H (.ref a) (.ref C)
  self : W.kitOne K (.ref C) (.ref C) = some true
  cg : ClsGet K
  rd : ClX.CRead K C (.type "type")
  no : ∀ f, f ∈ fs → NoAttr K C f
theorem own_of {K : W.Frag} {C : Addr} {fs : List Str} (h : ownB K C fs = true) : Own K C fs := by
  unfold ownB at h
  simp only [Bool.and_eq_true, decide_eq_true_eq] at h
  obtain ⟨⟨⟨⟨⟨⟨⟨⟨⟨⟨⟨⟨⟨h1, h2⟩, h3⟩, h4⟩, h5⟩, h6⟩, h7⟩, h8⟩, h9⟩, h10⟩, h11⟩, h12⟩, h13⟩, h14⟩ := h
  have cl : Cls K C := ⟨h1, h2, h3, h4⟩
  exact ⟨cl, h5, h6, fun H a dx gs e => .base (.ins e cl h7 h8 h9 h10), h11, ⟨h8, h9⟩, ⟨h13, h12⟩, fun f hf => show W.findIn K (.ref C) f = some none from of_decide_eq_true (List.all_eq_true.mp h14 f hf)⟩
def strOf : Value → Option Str
  | .str s _ => some s
  | _ => none
theorem vals_strs : ∀ {us : List Value} {xs : List Str}, us.map strOf = xs.map some → Vals (xs.map V.str) us
  | [], [], _ => .nil
  | [], _ :: _, h => by cases h
  | _ :: _, [], h => by cases h
  | u :: us, x :: xs, h => by
    simp only [List.map_cons, List.cons.injEq] at h
    obtain ⟨h1, h2⟩ := h
    refine .cons ?_ (vals_strs h2)
    cases u <;> first | (cases h1; exact ⟨_, rfl⟩) | cases h1
/-- the module's name x holds a tuple of these words -/
def wordsB (K : W.Frag) (x : Str) (xs : List Str) : Bool := match W.nsIn K mainGlobals x with
  | some (some (.ref a)) => (match K.lookup a with
    | some ⟨.type t, _, .seq its _, _⟩ => decide (t = "tuple") && decide (its.toList.map strOf = xs.map some) && decide (its.size ≤ 1000)
    | _ => false)
  | _ => false
theorem words_of {K : W.Frag} {h : Heap} {mg : Str → Option Value} {x : Str} {xs : List Str} (X : K.In h) (G : h.Ns mainGlobals mg) (b : wordsB K x xs = true) : ∃ a, mg x = some (.ref a) ∧ ∀ H, SqT K H a (xs.map V.str) := by
  unfold wordsB at b
  split at b
  · rename_i a ha
    split at b
    · rename_i t d its n sl hl
      simp only [Bool.and_eq_true, decide_eq_true_eq] at b
      obtain ⟨⟨rfl, e⟩, sz⟩ := b
      refine ⟨a, W.mg_of X G ha, fun H => .inr ⟨_, its, n, hl, rfl, rfl, ?_, vals_strs e⟩⟩
      have : (1000 : Nat) ≤ sizeLine := by decide
      omega
    · cases b
  · cases b
end Fx

namespace K18
open PySem PySem.Spec PyProof.Rows L2
open DL
open Cal EnuT Exn Keys Stc Fx

theorem callee_mk {P : Program} {w : World} {K : W.Frag} {h : Heap} {mg : Str → Option Value} {base : Heap} {x y : Str} {f : Addr} {ps : List Str} {sp : Sp} {k : Nat} {st : Stmt} {oc kV doc pm cdv ct : Value} {od an : Option Addr} {sl : Array (Option Value)} (X : K.In h) (G : h.Ns mainGlobals mg)
    (a : W.nsIn K mainGlobals x = some (some (.ref f))) (l : K.lookup f = some ⟨oc, od, .func (W.fnOf y y (defArgs st) (defBody st) (defScope st) .none kV doc pm an cdv ct), sl⟩) (c : W.codeIn K cdv y = true) (kp : W.keepIn K (.ref f) = true)
    (b : ∀ (kV doc pm : Value) (an : Option Addr) (cdv ct : Value) (us : List Value), us.length = ps.length → bindArgs (W.fnOf y y (defArgs st) (defBody st) (defScope st) .none kV doc pm an cdv ct) ⟨us, []⟩ = pure (ps.zip us))
    (ok : ∀ cdv', cdv' = cdv → Fun K y y st f (W.fnOf y y (defArgs st) (defBody st) (defScope st) .none kV doc pm an cdv ct) → FnOk P w K mg base CX0 k f (W.fnOf y y (defArgs st) (defBody st) (defScope st) .none kV doc pm an cdv ct) ps sp) : Callee P w K mg base x k ps sp := by
  have F := fun_mk (st := st) l c kp
  exact ⟨f, _, W.mg_of X G a, kp, F.binds b, ok cdv rfl F⟩
abbrev iP : Stmt := inClass (top 7) 0
abbrev iN : Stmt := inClass (top 9) 0
theorem keP : InitTxt iP "at" := ⟨⟨_, _, _, _, rfl⟩, ⟨rfl, rfl, rfl, by decide +kernel, rfl, by decide +kernel, by decide +kernel⟩, .inl rfl, .inl rfl, by decide, by decide, fun _ _ _ _ _ _ _ _ _ => rfl, fun _ _ _ _ _ _ _ _ _ => rfl⟩
theorem keN : InitTxt iN "name" := ⟨⟨_, _, _, _, rfl⟩, ⟨rfl, rfl, rfl, by decide +kernel, rfl, by decide +kernel, by decide +kernel⟩, .inl rfl, .inl rfl, by decide, by decide, fun _ _ _ _ _ _ _ _ _ => rfl, fun _ _ _ _ _ _ _ _ _ => rfl⟩
def kitB (K : W.Frag) (CN : Addr) : Bool := decide (W.exmAny K (.ref CN) [.ref CN] = some true)
theorem k4_rel {vs zs : List V} {us ws : List Value} (a : Vals vs us) (b : Vals zs ws) : Vals (gV4 vs zs) (gK4 us ws) := by
  cases a with
  | cons r t => exact .nil
  | nil =>
    cases b with
    | nil => exact .nil
    | cons b1 t1 =>
      cases t1 with
      | nil => exact .nil
      | cons b2 t2 =>
        cases t2 with
        | nil => exact .nil
        | cons b3 t3 =>
          cases t3 with
          | nil => exact .nil
          | cons b4 t4 =>
            cases t4 with
            | nil => exact .cons b4 (.cons b3 (.cons b2 (.cons b1 .nil)))
            | cons _ _ => exact .nil
theorem held_of {P : Program} {w : World} {K : W.Frag} {mg : Str → Option Value} {base : Heap} {g : Addr} {sp : Sp} {ps : List Str} {fd : FuncData} (ok : FnOk P w K mg base CX0 2 g fd ps sp) (kp : W.keepIn K (.ref g) = true) (b : Binds K fd ps []) : ∀ f sp', S1 g sp f = some sp' → Held P w K mg base 2 f sp' := fun f sp' hs => by
  unfold S1 at hs
  split at hs
  · rename_i hf
    obtain rfl := Option.some.inj hs
    subst hf
    exact ⟨_, _, ok, kp, b⟩
  · cases hs

theorem all_mk {P : Program} {w : World} {K : W.Frag} {h : Heap} {mg : Str → Option Value} {fa : Addr} {C CH CN fI fM fD fL fS iCH iCN : Addr} {tP tD tC : Tok} {o_I v_I d_I p_I c_I t_I : Value} {x_I n_I : Option Addr} {y_I : Array (Option Value)} {o_M v_M d_M p_M c_M t_M : Value} {x_M n_M : Option Addr} {y_M : Array (Option Value)} {o_D v_D d_D p_D c_D t_D : Value} {x_D n_D : Option Addr} {y_D : Array (Option Value)} {o_L v_L d_L p_L c_L t_L : Value} {x_L n_L : Option Addr} {y_L : Array (Option Value)} {o_S v_S d_S p_S c_S t_S : Value} {x_S n_S : Option Addr} {y_S : Array (Option Value)} {oiCH viCH diCH piCH ciCH tiCH : Value} {xiCH niCH : Option Addr} {siCH : Array (Option Value)} {oiCN viCN diCN piCN ciCN tiCN : Value} {xiCN niCN : Option Addr} {siCN : Array (Option Value)} {f_isseq' : Addr} {o_isseq v_isseq d_isseq p_isseq c_isseq t_isseq : Value} {x_isseq n_isseq : Option Addr} {s_isseq : Array (Option Value)} {f_isname' : Addr} {o_isname v_isname d_isname p_isname c_isname t_isname : Value} {x_isname n_isname : Option Addr} {s_isname : Array (Option Value)} {f_chp' : Addr} {o_chp v_chp d_chp p_chp c_chp t_chp : Value} {x_chp n_chp : Option Addr} {s_chp : Array (Option Value)} {f_isdoor' : Addr} {o_isdoor v_isdoor d_isdoor p_isdoor c_isdoor t_isdoor : Value} {x_isdoor n_isdoor : Option Addr} {s_isdoor : Array (Option Value)} {f_iscell' : Addr} {o_iscell v_iscell d_iscell p_iscell c_iscell t_iscell : Value} {x_iscell n_iscell : Option Addr} {s_iscell : Array (Option Value)} {f_cht' : Addr} {o_cht v_cht d_cht p_cht c_cht t_cht : Value} {x_cht n_cht : Option Addr} {s_cht : Array (Option Value)} {f_nums' : Addr} {o_nums v_nums d_nums p_nums c_nums t_nums : Value} {x_nums n_nums : Option Addr} {s_nums : Array (Option Value)} {f_numof' : Addr} {o_numof v_numof d_numof p_numof c_numof t_numof : Value} {x_numof n_numof : Option Addr} {s_numof : Array (Option Value)} {f_repl' : Addr} {o_repl v_repl d_repl p_repl c_repl t_repl : Value} {x_repl n_repl : Option Addr} {s_repl : Array (Option Value)} {f_turned' : Addr} {o_turned v_turned d_turned p_turned c_turned t_turned : Value} {x_turned n_turned : Option Addr} {s_turned : Array (Option Value)} {f_asked' : Addr} {o_asked v_asked d_asked p_asked c_asked t_asked : Value} {x_asked n_asked : Option Addr} {s_asked : Array (Option Value)} {f_numpl' : Addr} {o_numpl v_numpl d_numpl p_numpl c_numpl t_numpl : Value} {x_numpl n_numpl : Option Addr} {s_numpl : Array (Option Value)} {f_putoff' : Addr} {o_putoff v_putoff d_putoff p_putoff c_putoff t_putoff : Value} {x_putoff n_putoff : Option Addr} {s_putoff : Array (Option Value)} {f_lost' : Addr} {o_lost v_lost d_lost p_lost c_lost t_lost : Value} {x_lost n_lost : Option Addr} {s_lost : Array (Option Value)} {f_aged' : Addr} {o_aged v_aged d_aged p_aged c_aged t_aged : Value} {x_aged n_aged : Option Addr} {s_aged : Array (Option Value)} {f_load' : Addr} {o_load v_load d_load p_load c_load t_load : Value} {x_load n_load : Option Addr} {s_load : Array (Option Value)} {f_change' : Addr} {o_change v_change d_change p_change c_change t_change : Value} {x_change n_change : Option Addr} {s_change : Array (Option Value)} {f_deed' : Addr} {o_deed v_deed d_deed p_deed c_deed t_deed : Value} {x_deed n_deed : Option Addr} {s_deed : Array (Option Value)} {f_dealt' : Addr} {o_dealt v_dealt d_dealt p_dealt c_dealt t_dealt : Value} {x_dealt n_dealt : Option Addr} {s_dealt : Array (Option Value)} {f_any' : Addr} {o_any v_any d_any p_any c_any t_any : Value} {x_any n_any : Option Addr} {s_any : Array (Option Value)} {f_of' : Addr} {o_of v_of d_of p_of c_of t_of : Value} {x_of n_of : Option Addr} {s_of : Array (Option Value)} {f_with' : Addr} {o_with v_with d_with p_with c_with t_with : Value} {x_with n_with : Option Addr} {s_with : Array (Option Value)} {f_spot' : Addr} {o_spot v_spot d_spot p_spot c_spot t_spot : Value} {x_spot n_spot : Option Addr} {s_spot : Array (Option Value)} {f_loaded' : Addr} {o_loaded v_loaded d_loaded p_loaded c_loaded t_loaded : Value} {x_loaded n_loaded : Option Addr} {s_loaded : Array (Option Value)} {f_off' : Addr} {o_off v_off d_off p_off c_off t_off : Value} {x_off n_off : Option Addr} {s_off : Array (Option Value)} {f_handed' : Addr} {o_handed v_handed d_handed p_handed c_handed t_handed : Value} {x_handed n_handed : Option Addr} {s_handed : Array (Option Value)} {f_program' : Addr} {o_program v_program d_program p_program c_program t_program : Value} {x_program n_program : Option Addr} {s_program : Array (Option Value)} {f_drawn' : Addr} {o_drawn v_drawn d_drawn p_drawn c_drawn t_drawn : Value} {x_drawn n_drawn : Option Addr} {s_drawn : Array (Option Value)} {f_row' : Addr} {o_row v_row d_row p_row c_row t_row : Value} {x_row n_row : Option Addr} {s_row : Array (Option Value)} {f_places' : Addr} {o_places v_places d_places p_places c_places t_places : Value} {x_places n_places : Option Addr} {s_places : Array (Option Value)} {f_alld' : Addr} {o_alld v_alld d_alld p_alld c_alld t_alld : Value} {x_alld n_alld : Option Addr} {s_alld : Array (Option Value)} {f_unk' : Addr} {o_unk v_unk d_unk p_unk c_unk t_unk : Value} {x_unk n_unk : Option Addr} {s_unk : Array (Option Value)} {f_law' : Addr} {o_law v_law d_law p_law c_law t_law : Value} {x_law n_law : Option Addr} {s_law : Array (Option Value)}
    (X : K.In h) (G : h.Ns mainGlobals mg) (hfa : mg "law" = some (.ref fa))
    (aC : W.nsIn K mainGlobals "House" = some (some (.ref C))) (nI : W.findIn K (.ref C) "__init__" = some (some (.ref fI))) (nM : W.findIn K (.ref C) "number_of_part" = some (some (.ref fM))) (nD : W.findIn K (.ref C) "number_of_door" = some (some (.ref fD))) (nL : W.findIn K (.ref C) "number_of_cell" = some (some (.ref fL))) (nS : W.findIn K (.ref C) "cells_in" = some (some (.ref fS)))
    (l_I : K.lookup fI = some ⟨o_I, x_I, .func (W.fnOf "__init__" "House.__init__" (defArgs sInit) (defBody sInit) (defScope sInit) .none v_I d_I p_I n_I c_I t_I), y_I⟩) (g_I : W.codeIn K c_I "House.__init__" = true) (k_I : W.keepIn K (.ref fI) = true) (f_I : W.isFn K (.ref fI) = true)
    (l_M : K.lookup fM = some ⟨o_M, x_M, .func (W.fnOf "number_of_part" "House.number_of_part" (defArgs sNumPart) (defBody sNumPart) (defScope sNumPart) .none v_M d_M p_M n_M c_M t_M), y_M⟩) (g_M : W.codeIn K c_M "House.number_of_part" = true) (k_M : W.keepIn K (.ref fM) = true) (f_M : W.isFn K (.ref fM) = true)
    (l_D : K.lookup fD = some ⟨o_D, x_D, .func (W.fnOf "number_of_door" "House.number_of_door" (defArgs sNumDoor) (defBody sNumDoor) (defScope sNumDoor) .none v_D d_D p_D n_D c_D t_D), y_D⟩) (g_D : W.codeIn K c_D "House.number_of_door" = true) (k_D : W.keepIn K (.ref fD) = true) (f_D : W.isFn K (.ref fD) = true)
    (l_L : K.lookup fL = some ⟨o_L, x_L, .func (W.fnOf "number_of_cell" "House.number_of_cell" (defArgs sNumCell) (defBody sNumCell) (defScope sNumCell) .none v_L d_L p_L n_L c_L t_L), y_L⟩) (g_L : W.codeIn K c_L "House.number_of_cell" = true) (k_L : W.keepIn K (.ref fL) = true) (f_L : W.isFn K (.ref fL) = true)
    (l_S : K.lookup fS = some ⟨o_S, x_S, .func (W.fnOf "cells_in" "House.cells_in" (defArgs sCellsIn) (defBody sCellsIn) (defScope sCellsIn) .none v_S d_S p_S n_S c_S t_S), y_S⟩) (g_S : W.codeIn K c_S "House.cells_in" = true) (k_S : W.keepIn K (.ref fS) = true) (f_S : W.isFn K (.ref fS) = true)
    (aCH : W.nsIn K mainGlobals "InvalidHouse" = some (some (.ref CH))) (bCH : clsB K CH exTail "Exception.__new__" "at" = true) (nCH : W.findIn K (.ref CH) "__init__" = some (some (.ref iCH))) (tCH : W.typeIn K (.ref iCH) = some (.type "function"))
    (lCH : K.lookup iCH = some ⟨oiCH, xiCH, .func (W.fnOf "__init__" "InvalidHouse.__init__" (defArgs iP) (defBody iP) (defScope iP) .none viCH diCH piCH niCH ciCH tiCH), siCH⟩) (cCH : W.codeIn K ciCH "InvalidHouse.__init__" = true) (kCH : W.keepIn K (.ref iCH) = true)
    (aCN : W.nsIn K mainGlobals "NoName" = some (some (.ref CN))) (bCN : clsB K CN keyTail "LookupError.__new__" "name" = true) (nCN : W.findIn K (.ref CN) "__init__" = some (some (.ref iCN))) (tCN : W.typeIn K (.ref iCN) = some (.type "function"))
    (lCN : K.lookup iCN = some ⟨oiCN, xiCN, .func (W.fnOf "__init__" "NoName.__init__" (defArgs iN) (defBody iN) (defScope iN) .none viCN diCN piCN niCN ciCN tiCN), siCN⟩) (cCN : W.codeIn K ciCN "NoName.__init__" = true) (kCN : W.keepIn K (.ref iCN) = true)
    (hO : ownB K C ["parts", "doors", "cells", "_part_numbers", "_door_numbers", "_cell_numbers", "ends", "cell_parts", "kept"] = true) (hK : kitB K CN = true) (hDD : wordsB K "DOOR_DEEDS" ["shut", "open"] = true) (hPD : wordsB K "PART_DEEDS" ["drain", "off", "on"] = true) (mP : W.nsIn K mainGlobals "MOST_PARTS" = some (some (.int 8 tP))) (mD : W.nsIn K mainGlobals "MOST_DOORS" = some (some (.int 12 tD))) (mC : W.nsIn K mainGlobals "MOST_CELLS" = some (some (.int 8 tC)))
    (e_isseq : W.nsIn K mainGlobals "is_sequence" = some (some (.ref f_isseq'))) (l_isseq : K.lookup f_isseq' = some ⟨o_isseq, x_isseq, .func (W.fnOf "is_sequence" "is_sequence" (defArgs sIsSeq) (defBody sIsSeq) (defScope sIsSeq) .none v_isseq d_isseq p_isseq n_isseq c_isseq t_isseq), s_isseq⟩) (g_isseq : W.codeIn K c_isseq "is_sequence" = true) (k_isseq : W.keepIn K (.ref f_isseq') = true)
    (e_isname : W.nsIn K mainGlobals "is_name" = some (some (.ref f_isname'))) (l_isname : K.lookup f_isname' = some ⟨o_isname, x_isname, .func (W.fnOf "is_name" "is_name" (defArgs sIsName) (defBody sIsName) (defScope sIsName) .none v_isname d_isname p_isname n_isname c_isname t_isname), s_isname⟩) (g_isname : W.codeIn K c_isname "is_name" = true) (k_isname : W.keepIn K (.ref f_isname') = true)
    (e_chp : W.nsIn K mainGlobals "_checked_parts" = some (some (.ref f_chp'))) (l_chp : K.lookup f_chp' = some ⟨o_chp, x_chp, .func (W.fnOf "_checked_parts" "_checked_parts" (defArgs sChParts) (defBody sChParts) (defScope sChParts) .none v_chp d_chp p_chp n_chp c_chp t_chp), s_chp⟩) (g_chp : W.codeIn K c_chp "_checked_parts" = true) (k_chp : W.keepIn K (.ref f_chp') = true)
    (e_isdoor : W.nsIn K mainGlobals "_is_door" = some (some (.ref f_isdoor'))) (l_isdoor : K.lookup f_isdoor' = some ⟨o_isdoor, x_isdoor, .func (W.fnOf "_is_door" "_is_door" (defArgs sIsDoor) (defBody sIsDoor) (defScope sIsDoor) .none v_isdoor d_isdoor p_isdoor n_isdoor c_isdoor t_isdoor), s_isdoor⟩) (g_isdoor : W.codeIn K c_isdoor "_is_door" = true) (k_isdoor : W.keepIn K (.ref f_isdoor') = true)
    (e_iscell : W.nsIn K mainGlobals "_is_cell" = some (some (.ref f_iscell'))) (l_iscell : K.lookup f_iscell' = some ⟨o_iscell, x_iscell, .func (W.fnOf "_is_cell" "_is_cell" (defArgs sIsCell) (defBody sIsCell) (defScope sIsCell) .none v_iscell d_iscell p_iscell n_iscell c_iscell t_iscell), s_iscell⟩) (g_iscell : W.codeIn K c_iscell "_is_cell" = true) (k_iscell : W.keepIn K (.ref f_iscell') = true)
    (e_cht : W.nsIn K mainGlobals "_checked_things" = some (some (.ref f_cht'))) (l_cht : K.lookup f_cht' = some ⟨o_cht, x_cht, .func (W.fnOf "_checked_things" "_checked_things" (defArgs sChThings) (defBody sChThings) (defScope sChThings) .none v_cht d_cht p_cht n_cht c_cht t_cht), s_cht⟩) (g_cht : W.codeIn K c_cht "_checked_things" = true) (k_cht : W.keepIn K (.ref f_cht') = true)
    (e_nums : W.nsIn K mainGlobals "_numbers" = some (some (.ref f_nums'))) (l_nums : K.lookup f_nums' = some ⟨o_nums, x_nums, .func (W.fnOf "_numbers" "_numbers" (defArgs sNumbers) (defBody sNumbers) (defScope sNumbers) .none v_nums d_nums p_nums n_nums c_nums t_nums), s_nums⟩) (g_nums : W.codeIn K c_nums "_numbers" = true) (k_nums : W.keepIn K (.ref f_nums') = true)
    (e_numof : W.nsIn K mainGlobals "number_of_house" = some (some (.ref f_numof'))) (l_numof : K.lookup f_numof' = some ⟨o_numof, x_numof, .func (W.fnOf "_number_of" "_number_of" (defArgs sNumOf) (defBody sNumOf) (defScope sNumOf) .none v_numof d_numof p_numof n_numof c_numof t_numof), s_numof⟩) (g_numof : W.codeIn K c_numof "_number_of" = true) (k_numof : W.keepIn K (.ref f_numof') = true)
    (e_repl : W.nsIn K mainGlobals "replaced" = some (some (.ref f_repl'))) (l_repl : K.lookup f_repl' = some ⟨o_repl, x_repl, .func (W.fnOf "replaced" "replaced" (defArgs sReplaced) (defBody sReplaced) (defScope sReplaced) .none v_repl d_repl p_repl n_repl c_repl t_repl), s_repl⟩) (g_repl : W.codeIn K c_repl "replaced" = true) (k_repl : W.keepIn K (.ref f_repl') = true)
    (e_turned : W.nsIn K mainGlobals "turned" = some (some (.ref f_turned'))) (l_turned : K.lookup f_turned' = some ⟨o_turned, x_turned, .func (W.fnOf "turned" "turned" (defArgs sTurned) (defBody sTurned) (defScope sTurned) .none v_turned d_turned p_turned n_turned c_turned t_turned), s_turned⟩) (g_turned : W.codeIn K c_turned "turned" = true) (k_turned : W.keepIn K (.ref f_turned') = true)
    (e_asked : W.nsIn K mainGlobals "asked_empty" = some (some (.ref f_asked'))) (l_asked : K.lookup f_asked' = some ⟨o_asked, x_asked, .func (W.fnOf "asked_empty" "asked_empty" (defArgs sAsked) (defBody sAsked) (defScope sAsked) .none v_asked d_asked p_asked n_asked c_asked t_asked), s_asked⟩) (g_asked : W.codeIn K c_asked "asked_empty" = true) (k_asked : W.keepIn K (.ref f_asked') = true)
    (e_numpl : W.nsIn K mainGlobals "number_of_plans" = some (some (.ref f_numpl'))) (l_numpl : K.lookup f_numpl' = some ⟨o_numpl, x_numpl, .func (W.fnOf "_number_of" "_number_of" (defArgs sNumPl) (defBody sNumPl) (defScope sNumPl) .none v_numpl d_numpl p_numpl n_numpl c_numpl t_numpl), s_numpl⟩) (g_numpl : W.codeIn K c_numpl "_number_of" = true) (k_numpl : W.keepIn K (.ref f_numpl') = true)
    (e_putoff : W.nsIn K mainGlobals "_put_off" = some (some (.ref f_putoff'))) (l_putoff : K.lookup f_putoff' = some ⟨o_putoff, x_putoff, .func (W.fnOf "_put_off" "_put_off" (defArgs sPutOff) (defBody sPutOff) (defScope sPutOff) .none v_putoff d_putoff p_putoff n_putoff c_putoff t_putoff), s_putoff⟩) (g_putoff : W.codeIn K c_putoff "_put_off" = true) (k_putoff : W.keepIn K (.ref f_putoff') = true)
    (e_lost : W.nsIn K mainGlobals "_lost_cells" = some (some (.ref f_lost'))) (l_lost : K.lookup f_lost' = some ⟨o_lost, x_lost, .func (W.fnOf "_lost_cells" "_lost_cells" (defArgs sLost) (defBody sLost) (defScope sLost) .none v_lost d_lost p_lost n_lost c_lost t_lost), s_lost⟩) (g_lost : W.codeIn K c_lost "_lost_cells" = true) (k_lost : W.keepIn K (.ref f_lost') = true)
    (e_aged : W.nsIn K mainGlobals "_aged" = some (some (.ref f_aged'))) (l_aged : K.lookup f_aged' = some ⟨o_aged, x_aged, .func (W.fnOf "_aged" "_aged" (defArgs sAged) (defBody sAged) (defScope sAged) .none v_aged d_aged p_aged n_aged c_aged t_aged), s_aged⟩) (g_aged : W.codeIn K c_aged "_aged" = true) (k_aged : W.keepIn K (.ref f_aged') = true)
    (e_load : W.nsIn K mainGlobals "_load" = some (some (.ref f_load'))) (l_load : K.lookup f_load' = some ⟨o_load, x_load, .func (W.fnOf "_load" "_load" (defArgs sLoad) (defBody sLoad) (defScope sLoad) .none v_load d_load p_load n_load c_load t_load), s_load⟩) (g_load : W.codeIn K c_load "_load" = true) (k_load : W.keepIn K (.ref f_load') = true)
    (e_change : W.nsIn K mainGlobals "_change" = some (some (.ref f_change'))) (l_change : K.lookup f_change' = some ⟨o_change, x_change, .func (W.fnOf "_change" "_change" (defArgs sChange) (defBody sChange) (defScope sChange) .none v_change d_change p_change n_change c_change t_change), s_change⟩) (g_change : W.codeIn K c_change "_change" = true) (k_change : W.keepIn K (.ref f_change') = true)
    (e_deed : W.nsIn K mainGlobals "deed" = some (some (.ref f_deed'))) (l_deed : K.lookup f_deed' = some ⟨o_deed, x_deed, .func (W.fnOf "deed" "deed" (defArgs sDeed) (defBody sDeed) (defScope sDeed) .none v_deed d_deed p_deed n_deed c_deed t_deed), s_deed⟩) (g_deed : W.codeIn K c_deed "deed" = true) (k_deed : W.keepIn K (.ref f_deed') = true)
    (e_dealt : W.nsIn K mainGlobals "_law_dealt" = some (some (.ref f_dealt'))) (l_dealt : K.lookup f_dealt' = some ⟨o_dealt, x_dealt, .func (W.fnOf "_law_dealt" "_law_dealt" (defArgs sDealt) (defBody sDealt) (defScope sDealt) .none v_dealt d_dealt p_dealt n_dealt c_dealt t_dealt), s_dealt⟩) (g_dealt : W.codeIn K c_dealt "_law_dealt" = true) (k_dealt : W.keepIn K (.ref f_dealt') = true)
    (e_any : W.nsIn K mainGlobals "_law_any" = some (some (.ref f_any'))) (l_any : K.lookup f_any' = some ⟨o_any, x_any, .func (W.fnOf "_law_any" "_law_any" (defArgs sAny) (defBody sAny) (defScope sAny) .none v_any d_any p_any n_any c_any t_any), s_any⟩) (g_any : W.codeIn K c_any "_law_any" = true) (k_any : W.keepIn K (.ref f_any') = true)
    (e_of : W.nsIn K mainGlobals "_law_of" = some (some (.ref f_of'))) (l_of : K.lookup f_of' = some ⟨o_of, x_of, .func (W.fnOf "_law_of" "_law_of" (defArgs sOf) (defBody sOf) (defScope sOf) .none v_of d_of p_of n_of c_of t_of), s_of⟩) (g_of : W.codeIn K c_of "_law_of" = true) (k_of : W.keepIn K (.ref f_of') = true)
    (e_with : W.nsIn K mainGlobals "_law_with" = some (some (.ref f_with'))) (l_with : K.lookup f_with' = some ⟨o_with, x_with, .func (W.fnOf "_law_with" "_law_with" (defArgs sWith) (defBody sWith) (defScope sWith) .none v_with d_with p_with n_with c_with t_with), s_with⟩) (g_with : W.codeIn K c_with "_law_with" = true) (k_with : W.keepIn K (.ref f_with') = true)
    (e_spot : W.nsIn K mainGlobals "_law_spot" = some (some (.ref f_spot'))) (l_spot : K.lookup f_spot' = some ⟨o_spot, x_spot, .func (W.fnOf "_law_spot" "_law_spot" (defArgs sSpot) (defBody sSpot) (defScope sSpot) .none v_spot d_spot p_spot n_spot c_spot t_spot), s_spot⟩) (g_spot : W.codeIn K c_spot "_law_spot" = true) (k_spot : W.keepIn K (.ref f_spot') = true)
    (e_loaded : W.nsIn K mainGlobals "_law_loaded" = some (some (.ref f_loaded'))) (l_loaded : K.lookup f_loaded' = some ⟨o_loaded, x_loaded, .func (W.fnOf "_law_loaded" "_law_loaded" (defArgs sLoaded) (defBody sLoaded) (defScope sLoaded) .none v_loaded d_loaded p_loaded n_loaded c_loaded t_loaded), s_loaded⟩) (g_loaded : W.codeIn K c_loaded "_law_loaded" = true) (k_loaded : W.keepIn K (.ref f_loaded') = true)
    (e_off : W.nsIn K mainGlobals "_law_off" = some (some (.ref f_off'))) (l_off : K.lookup f_off' = some ⟨o_off, x_off, .func (W.fnOf "_law_off" "_law_off" (defArgs sOff) (defBody sOff) (defScope sOff) .none v_off d_off p_off n_off c_off t_off), s_off⟩) (g_off : W.codeIn K c_off "_law_off" = true) (k_off : W.keepIn K (.ref f_off') = true)
    (e_handed : W.nsIn K mainGlobals "_law_handed" = some (some (.ref f_handed'))) (l_handed : K.lookup f_handed' = some ⟨o_handed, x_handed, .func (W.fnOf "_law_handed" "_law_handed" (defArgs sHanded) (defBody sHanded) (defScope sHanded) .none v_handed d_handed p_handed n_handed c_handed t_handed), s_handed⟩) (g_handed : W.codeIn K c_handed "_law_handed" = true) (k_handed : W.keepIn K (.ref f_handed') = true)
    (e_program : W.nsIn K mainGlobals "_law_program" = some (some (.ref f_program'))) (l_program : K.lookup f_program' = some ⟨o_program, x_program, .func (W.fnOf "_law_program" "_law_program" (defArgs sProgram) (defBody sProgram) (defScope sProgram) .none v_program d_program p_program n_program c_program t_program), s_program⟩) (g_program : W.codeIn K c_program "_law_program" = true) (k_program : W.keepIn K (.ref f_program') = true)
    (e_drawn : W.nsIn K mainGlobals "_law_drawn" = some (some (.ref f_drawn'))) (l_drawn : K.lookup f_drawn' = some ⟨o_drawn, x_drawn, .func (W.fnOf "_law_drawn" "_law_drawn" (defArgs sDrawn) (defBody sDrawn) (defScope sDrawn) .none v_drawn d_drawn p_drawn n_drawn c_drawn t_drawn), s_drawn⟩) (g_drawn : W.codeIn K c_drawn "_law_drawn" = true) (k_drawn : W.keepIn K (.ref f_drawn') = true)
    (e_row : W.nsIn K mainGlobals "_law_row" = some (some (.ref f_row'))) (l_row : K.lookup f_row' = some ⟨o_row, x_row, .func (W.fnOf "_law_row" "_law_row" (defArgs sRow) (defBody sRow) (defScope sRow) .none v_row d_row p_row n_row c_row t_row), s_row⟩) (g_row : W.codeIn K c_row "_law_row" = true) (k_row : W.keepIn K (.ref f_row') = true)
    (e_places : W.nsIn K mainGlobals "_law_places" = some (some (.ref f_places'))) (l_places : K.lookup f_places' = some ⟨o_places, x_places, .func (W.fnOf "_law_places" "_law_places" (defArgs sPlaces) (defBody sPlaces) (defScope sPlaces) .none v_places d_places p_places n_places c_places t_places), s_places⟩) (g_places : W.codeIn K c_places "_law_places" = true) (k_places : W.keepIn K (.ref f_places') = true)
    (e_alld : W.nsIn K mainGlobals "_law_all_deeds" = some (some (.ref f_alld'))) (l_alld : K.lookup f_alld' = some ⟨o_alld, x_alld, .func (W.fnOf "_law_all_deeds" "_law_all_deeds" (defArgs sAllDeeds) (defBody sAllDeeds) (defScope sAllDeeds) .none v_alld d_alld p_alld n_alld c_alld t_alld), s_alld⟩) (g_alld : W.codeIn K c_alld "_law_all_deeds" = true) (k_alld : W.keepIn K (.ref f_alld') = true)
    (e_unk : W.nsIn K mainGlobals "_law_unknown" = some (some (.ref f_unk'))) (l_unk : K.lookup f_unk' = some ⟨o_unk, x_unk, .func (W.fnOf "_law_unknown" "_law_unknown" (defArgs sUnknown) (defBody sUnknown) (defScope sUnknown) .none v_unk d_unk p_unk n_unk c_unk t_unk), s_unk⟩) (g_unk : W.codeIn K c_unk "_law_unknown" = true) (k_unk : W.keepIn K (.ref f_unk') = true)
    (e_law : W.nsIn K mainGlobals "law" = some (some (.ref f_law'))) (l_law : K.lookup f_law' = some ⟨o_law, x_law, .func (W.fnOf "law" "law" (defArgs sLaw) (defBody sLaw) (defScope sLaw) .none v_law d_law p_law n_law c_law t_law), s_law⟩) (g_law : W.codeIn K c_law "law" = true) (k_law : W.keepIn K (.ref f_law') = true)
    (z_len : W.nsIn K mainGlobals "len" = some none)
    (z_abs : W.nsIn K mainGlobals "abs" = some none)
    (z_int : W.nsIn K mainGlobals "int" = some none)
    (z_range : W.nsIn K mainGlobals "range" = some none)
    (z_list : W.nsIn K mainGlobals "list" = some none)
    (z_tuple : W.nsIn K mainGlobals "tuple" = some none)
    (z_isinstance : W.nsIn K mainGlobals "isinstance" = some none)
    (z_enumerate : W.nsIn K mainGlobals "enumerate" = some none)
    (z_str : W.nsIn K mainGlobals "str" = some none)
    (z_bool : W.nsIn K mainGlobals "bool" = some none)
    (z_all : W.nsIn K mainGlobals "all" = some none)
    (z_repr : W.nsIn K mainGlobals "repr" = some none) :
    ∀ (s : Shared) (a : Addr) (ns : List Int) (base : Heap) (H : Hp), ns.length ≤ 63 → K.In base → base.Ns mainGlobals mg → Env0 P w K mg base callerA [] s H → Only H → SqL K H a (ns.map V.int) →
      codeAny (model P w) callerA (.call (.ref fa) ⟨[.ref a], []⟩) (CR CX0 [] P w H s (fun v _ => v = .bl true) E0) s := by
  have e := hfa.symm.trans (W.mg_of X G e_law)
  cases e
  intro s a ns base H few _ _ e0 _ sq
  have N : Nums mg := ⟨W.mg_none_of X G z_len, W.mg_none_of X G z_abs, W.mg_none_of X G z_int⟩
  have B : Bl mg := ⟨N, W.mg_none_of X G z_range, W.mg_none_of X G z_list, W.mg_none_of X G z_tuple, W.mg_none_of X G z_isinstance, W.mg_none_of X G z_enumerate, W.mg_none_of X G z_str, W.mg_none_of X G z_bool, W.mg_none_of X G z_all, W.mg_none_of X G z_repr⟩
  have ow := own_of hO
  have q1 : W.exmAny K (.ref CN) [.ref CN] = some true := of_decide_eq_true hK
  obtain ⟨aDD, mDD, kDD⟩ := words_of X G hDD
  obtain ⟨aPD, mPD, kPD⟩ := words_of X G hPD
  have cH : CE P w K mg base "InvalidHouse" CH "at" := cl1_mk X G aCH bCH nCH tCH lCH cCH kCH keP exE tail_Exception exS
  have cN : CN1 P w K mg base CN := cl1_mk X G aCN bCN nCN tCN lCN cCN kCN keN keE tail_KeyError keS
  have mC' := W.mg_of X G aC
  have h2 : HC2 K C := ⟨ow.cl, ow.no _ (by simp), ow.no _ (by simp), ow.no _ (by simp), ow.no _ (by simp), ow.no _ (by simp), ow.no _ (by simp), ow.no _ (by simp), ow.no _ (by simp), ow.no _ (by simp)⟩
  have cSeq : Callee P w K mg base "is_sequence" 1 ["value"] (spSeq) := callee_mk (st := sIsSeq) X G e_isseq l_isseq g_isseq k_isseq (fun _ _ _ _ _ _ us hl => match us, hl with | [_], _ => rfl) (fun cdv _ F => ok_isseq F B)
  have cName : Callee P w K mg base "is_name" 1 ["value"] (spName) := callee_mk (st := sIsName) X G e_isname l_isname g_isname k_isname (fun _ _ _ _ _ _ us hl => match us, hl with | [_], _ => rfl) (fun cdv _ F => ok_isname F B)
  have F_chp := fun_mk (st := sChParts) l_chp g_chp k_chp
  have F_isdoor := fun_mk (st := sIsDoor) l_isdoor g_isdoor k_isdoor
  have F_iscell := fun_mk (st := sIsCell) l_iscell g_iscell k_iscell
  have F_cht := fun_mk (st := sChThings) l_cht g_cht k_cht
  have F_numof := fun_mk (st := sNumOf) l_numof g_numof k_numof
  have F_numpl := fun_mk (st := sNumPl) l_numpl g_numpl k_numpl
  have F_deed := fun_mk (st := sDeed) l_deed g_deed k_deed
  have cParts : CalleeX P w K mg base "_checked_parts" 3 ["parts"] (spParts CH) := ⟨_, _, W.mg_of X G e_chp, k_chp, F_chp.binds (fun _ _ _ _ _ _ us hl => match us, hl with | [_], _ => rfl), ok_chparts F_chp B cH cSeq cName (W.mg_of X G mP)⟩
  have heldD := held_of (ok_isdoor (P := P) (w := w) (mg := mg) (base := base) F_isdoor B cSeq cName) k_isdoor (F_isdoor.binds (fun _ _ _ _ _ _ us hl => match us, hl with | [_, _], _ => rfl))
  have heldC := held_of (ok_iscell (P := P) (w := w) (mg := mg) (base := base) F_iscell B cSeq cName) k_iscell (F_iscell.binds (fun _ _ _ _ _ _ us hl => match us, hl with | [_, _], _ => rfl))
  have cCh1 : CalleeX P w K mg base "_checked_things" 3 ["things", "most", "parts", "taken", "is_thing"] (spThings' CH (S1 f_isdoor' (spThing doorB))) := ⟨_, _, W.mg_of X G e_cht, k_cht, F_cht.binds (fun _ _ _ _ _ _ us hl => match us, hl with | [_, _, _, _, _], _ => rfl), ok_chthings F_cht B cH cSeq _ heldD⟩
  have cCh2 : CalleeX P w K mg base "_checked_things" 3 ["things", "most", "parts", "taken", "is_thing"] (spThings' CH (S1 f_iscell' (spThing cellB))) := ⟨_, _, W.mg_of X G e_cht, k_cht, F_cht.binds (fun _ _ _ _ _ _ us hl => match us, hl with | [_, _, _, _, _], _ => rfl), ok_chthings F_cht B cH cSeq _ heldC⟩
  have cNums : Callee P w K mg base "_numbers" 1 ["names"] (spNums) := callee_mk (st := sNumbers) X G e_nums l_nums g_nums k_nums (fun _ _ _ _ _ _ us hl => match us, hl with | [_], _ => rfl) (fun cdv _ F => ok_numbers F B)
  have cNumOf : Callee P w K mg base "number_of_house" 1 ["numbers", "name"] (spNumOf) := callee_mk (st := sNumOf) X G e_numof l_numof g_numof k_numof (fun _ _ _ _ _ _ us hl => match us, hl with | [_, _], _ => rfl) (fun cdv _ F => ok_numof F B)
  have cNumX : CalleeX P w K mg base "number_of_house" 3 ["numbers", "name"] (spNumOfX CN) := ⟨_, _, W.mg_of X G e_numof, k_numof, F_numof.binds (fun _ _ _ _ _ _ us hl => match us, hl with | [_, _], _ => rfl), ok_numofX F_numof B cN⟩
  have fI' := fun_mk (st := sInit) l_I g_I k_I
  have fM' := fun_mk (st := sNumPart) l_M g_M k_M
  have fD' := fun_mk (st := sNumDoor) l_D g_D k_D
  have fL' := fun_mk (st := sNumCell) l_L g_L k_L
  have fS' := fun_mk (st := sCellsIn) l_S g_S k_S
  have mk : Mk K C fI := ⟨ow.makes, nI, f_I, ow.kp⟩
  have me : Meth K C "number_of_part" fM := ⟨nM, f_M, k_M⟩
  have bI := fI'.binds (ps := ["self", "parts", "doors", "cells"]) (fun _ _ _ _ _ _ us hl => match us, hl with | [_, _, _, _], _ => rfl)
  have okM := ok_numpart (P := P) (w := w) (mg := mg) (base := base) fM' B h2.cl h2.n4 cNumOf
  have okI := ok_init (P := P) (w := w) (mg := mg) (base := base) fI' B h2 cParts cCh1 cCh2 cNums (W.mg_of X G mD) (W.mg_of X G mC) (W.mg_of X G e_isdoor) (W.mg_of X G e_iscell) me okM (fM'.binds (ps := ["self", "name"]) (fun _ _ _ _ _ _ us hl => match us, hl with | [_, _], _ => rfl))
  have meD : Meth K C "number_of_door" fD := ⟨nD, f_D, k_D⟩
  have meL : Meth K C "number_of_cell" fL := ⟨nL, f_L, k_L⟩
  have meS : Meth K C "cells_in" fS := ⟨nS, f_S, k_S⟩
  have bM := fM'.binds (ps := ["self", "name"]) (fun _ _ _ _ _ _ us hl => match us, hl with | [_, _], _ => rfl)
  have bD := fD'.binds (ps := ["self", "name"]) (fun _ _ _ _ _ _ us hl => match us, hl with | [_, _], _ => rfl)
  have bL := fL'.binds (ps := ["self", "name"]) (fun _ _ _ _ _ _ us hl => match us, hl with | [_, _], _ => rfl)
  have bS := fS'.binds (ps := ["self", "spot"]) (fun _ _ _ _ _ _ us hl => match us, hl with | [_, _], _ => rfl)
  have okP := ok_numpartX (P := P) (w := w) (mg := mg) (base := base) fM' B ow.cl h2.n4 cNumX
  have okD := ok_numdoor (P := P) (w := w) (mg := mg) (base := base) fD' ow.cl h2.n5 cNumX
  have okL := ok_numcell (P := P) (w := w) (mg := mg) (base := base) fL' ow.cl h2.n6 cNumX
  have okS := ok_cellsin (P := P) (w := w) (mg := mg) (base := base) fS' B ow.cl h2.n8
  have mdD : ∀ h : Hs, MethD (L2.CX P w) P w mg base (dgH K C h) C "House" "number_of_door" 4 ["self", "name"] (RNum h.dn) := fun h => ⟨fD, _, _, mo_door, ow.cl, meD, okD, bD⟩
  have mdP : ∀ h : Hs, MethD (L2.CX P w) P w mg base (dgH K C h) C "House" "number_of_part" 4 ["self", "name"] (RNumP h.parts) := fun h => ⟨fM, _, _, mo_part, ow.cl, me, okP, bM⟩
  have mdC : ∀ h : Hs, MethD (L2.CX P w) P w mg base (dgH K C h) C "House" "number_of_cell" 4 ["self", "name"] (RNum h.cn) := fun h => ⟨fL, _, _, mo_cell, ow.cl, meL, okL, bL⟩
  have mdI : ∀ h : Hs, h.cells.length ≤ 20 → MethD CX0 P w mg base (dgH K C h) C "House" "cells_in" 1 ["self", "spot"] (RCellsIn h.cp) := fun h few => ⟨fS, _, _, mo_cells few, ow.cl, meS, okS, bS⟩
  have cRepl : ∀ h : Hs, Callee P w K mg base "replaced" 1 ["row", "at", "value"] (spP (dgH K C h) 3 RWith) := fun h => callee_mk (st := sReplaced) X G e_repl l_repl g_repl k_repl (fun _ _ _ _ _ _ us hl => match us, hl with | [_, _, _], _ => rfl) (fun cdv _ F => ok_replaced (G := dgH K C h) F B)
  have cTurned : ∀ h : Hs, Callee P w K mg base "turned" 2 ["row", "door", "is_open"] (spP (dgH K C h) 3 RTurned) := fun h => callee_mk (st := sTurned) X G e_turned l_turned g_turned k_turned (fun _ _ _ _ _ _ us hl => match us, hl with | [_, _, _], _ => rfl) (fun cdv _ F => ok_turned (G := dgH K C h) F B (cRepl h))
  have cAsked : ∀ h : Hs, Callee P w K mg base "asked_empty" 1 ["told"] (spP (dgH K C h) 1 RAsked) := fun h => callee_mk (st := sAsked) X G e_asked l_asked g_asked k_asked (fun _ _ _ _ _ _ us hl => match us, hl with | [_], _ => rfl) (fun cdv _ F => ok_asked (G := dgH K C h) F B)
  have cLoad : ∀ h : Hs, Callee P w K mg base "_load" 2 ["row", "cell"] (spP (dgH K C h) 2 RLoad) := fun h => callee_mk (st := sLoad) X G e_load l_load g_load k_load (fun _ _ _ _ _ _ us hl => match us, hl with | [_, _], _ => rfl) (fun cdv _ F => ok_load (G := dgH K C h) F B (cRepl h))
  have cAged : ∀ h : Hs, Callee P w K mg base "_aged" 1 ["places", "cells"] (spP (dgH K C h) 2 RAged) := fun h => callee_mk (st := sAged) X G e_aged l_aged g_aged k_aged (fun _ _ _ _ _ _ us hl => match us, hl with | [_, _], _ => rfl) (fun cdv _ F => ok_aged (G := dgH K C h) F B)
  have cNumPl : ∀ h : Hs, Callee P w K mg base "number_of_plans" 5 ["house", "told"] (spP (dgH K C h) 2 (RNumPl h)) := fun h => callee_mk (st := sNumPl) X G e_numpl l_numpl g_numpl k_numpl (fun _ _ _ _ _ _ us hl => match us, hl with | [_, _], _ => rfl) (fun cdv _ F => ok_numpl F B mDD kDD mPD kPD (mdD h) (mdP h) (mdC h))
  have cLost : ∀ h : Hs, h.cells.length ≤ 20 → Callee P w K mg base "_lost_cells" 2 ["house", "part"] (spP (dgH K C h) 2 (RLost h)) := fun h few => callee_mk (st := sLost) X G e_lost l_lost g_lost k_lost (fun _ _ _ _ _ _ us hl => match us, hl with | [_, _], _ => rfl) (fun cdv _ F => ok_lost F B h2 few (mdI h few))
  have cPutOff : ∀ h : Hs, GoodH h → h.cn.length = h.cells.length → Callee P w K mg base "_put_off" 3 ["house", "row", "part"] (spP (dgH K C h) 3 (RPutOff h)) := fun h g cnl => callee_mk (st := sPutOff) X G e_putoff l_putoff g_putoff k_putoff (fun _ _ _ _ _ _ us hl => match us, hl with | [_, _, _], _ => rfl) (fun cdv _ F => ok_putoff F B (by rw [cnl]; have := g.c8; omega) (by have := g.p8; omega) (cRepl h) (cLost h (by have := g.c8; omega)))
  have cChange : ∀ h : Hs, GoodH h → h.cn.length = h.cells.length → h.dn.length = h.doors.length → Callee P w K mg base "_change" 3 ["house", "row", "told", "number"] (spP (dgH K C h) 4 (RChange h)) := fun h g cnl dnl => callee_mk (st := sChange) X G e_change l_change g_change k_change (fun _ _ _ _ _ _ us hl => match us, hl with | [_, _, _, _], _ => rfl) (fun cdv _ F => ok_change F B h2 (by rw [cnl]; have := g.c8; omega) (by have := g.p8; omega) (by rw [dnl]; have := g.d12; omega) mDD kDD (cRepl h) (cTurned h) (cLoad h))
  have cnl : ∀ h : Hs, h.cn.length = h.cells.length := fun h => by unfold Hs.cn; rw [List.length_map]
  have dnl : ∀ h : Hs, h.dn.length = h.doors.length := fun h => by unfold Hs.dn; rw [List.length_map]
  have okDe := fun (h : Hs) (g : GoodH h) => ok_deed (P := P) (w := w) (mg := mg) (base := base) (C := C) (h := h) F_deed B g (cNumPl h) (cAsked h) (cChange h g (cnl h) (dnl h)) (cPutOff h g (cnl h)) (cAged h) (cLost h (by have := g.c8; omega))
  have bDe := F_deed.binds (ps := ["house", "row", "places", "told"]) (fun _ _ _ _ _ _ us hl => match us, hl with | [_, _, _, _], _ => rfl)
  have cPlX : CalleeX P w K mg base "number_of_plans" 5 ["house", "told"] (spPlX K C CN) := ⟨_, _, W.mg_of X G e_numpl, k_numpl, F_numpl.binds (fun _ _ _ _ _ _ us hl => match us, hl with | [_, _], _ => rfl), ok_plX F_numpl B ow.cl mDD kDD mPD kPD meD okD bD me okP bM meL okL bL⟩
  have cDeX : CalleeX P w K mg base "deed" 6 ["house", "row", "places", "told"] (spDeX K C CN) := ⟨_, _, W.mg_of X G e_deed, k_deed, F_deed.binds (fun _ _ _ _ _ _ us hl => match us, hl with | [_, _, _, _], _ => rfl), ok_deX F_deed cPlX⟩
  have cUnk : Callee P w K mg base "_law_unknown" 7 ["_law_house", "_law_row_here", "_law_told"] (spUnkX K C CN) := callee_mk (st := sUnknown) X G e_unk l_unk g_unk k_unk (fun _ _ _ _ _ _ us hl => match us, hl with | [_, _, _], _ => rfl) (fun cdv _ F => ok_unk F cN q1 cDeX)
  have cAny : Callee P w K mg base "_law_any" 1 ["_law_deal", "_law_bound"] (spAny) := callee_mk (st := sAny) X G e_any l_any g_any k_any (fun _ _ _ _ _ _ us hl => match us, hl with | [_, _], _ => rfl) (fun cdv _ F => ok_any F B)
  have cOf : Callee P w K mg base "_law_of" 2 ["_law_deal", "_law_some"] (spOf) := callee_mk (st := sOf) X G e_of l_of g_of k_of (fun _ _ _ _ _ _ us hl => match us, hl with | [_, _], _ => rfl) (fun cdv _ F => ok_of F B cAny)
  have cDealt : Callee P w K mg base "_law_dealt" 1 ["_law_script", "_law_base"] (spDealt K) := callee_mk (st := sDealt) X G e_dealt l_dealt g_dealt k_dealt (fun _ _ _ _ _ _ us hl => match us, hl with | [_, _], _ => rfl) (fun cdv _ F => ok_dealt F B)
  have cWith : ∀ h : Hs, Callee P w K mg base "_law_with" 1 ["_law_items", "_law_at", "_law_value"] (spP (dgH K C h) 3 RWith) := fun h => callee_mk (st := sWith) X G e_with l_with g_with k_with (fun _ _ _ _ _ _ us hl => match us, hl with | [_, _, _], _ => rfl) (fun cdv _ F => ok_with (G := dgH K C h) F B)
  have cSpot : ∀ h : Hs, Callee P w K mg base "_law_spot" 1 ["_law_rows", "_law_name"] (spP (dgH K C h) 2 RSpot) := fun h => callee_mk (st := sSpot) X G e_spot l_spot g_spot k_spot (fun _ _ _ _ _ _ us hl => match us, hl with | [_, _], _ => rfl) (fun cdv _ F => ok_spot (G := dgH K C h) F B)
  have cLoaded : ∀ h : Hs, Callee P w K mg base "_law_loaded" 2 ["_law_row_here", "_law_cell"] (spP (dgH K C h) 2 RLoad) := fun h => callee_mk (st := sLoaded) X G e_loaded l_loaded g_loaded k_loaded (fun _ _ _ _ _ _ us hl => match us, hl with | [_, _], _ => rfl) (fun cdv _ F => ok_loaded (G := dgH K C h) F B (cWith h))
  have cOff : ∀ h : Hs, Callee P w K mg base "_law_off" 2 ["_law_world", "_law_row_here", "_law_places_here", "_law_part"] (spP (dgH K C h) 4 ROff) := fun h => callee_mk (st := sOff) X G e_off l_off g_off k_off (fun _ _ _ _ _ _ us hl => match us, hl with | [_, _, _, _], _ => rfl) (fun cdv _ F => ok_off (G := dgH K C h) F B (cWith h))
  have cHanded : ∀ h : Hs, Callee P w K mg base "_law_handed" 3 ["_law_world", "_law_row_here", "_law_places_here", "_law_order"] (spP (dgH K C h) 4 RHanded) := fun h => callee_mk (st := sHanded) X G e_handed l_handed g_handed k_handed (fun _ _ _ _ _ _ us hl => match us, hl with | [_, _, _, _], _ => rfl) (fun cdv _ F => ok_handed (G := dgH K C h) F B (cWith h) (cSpot h) (cLoaded h) (cOff h))
  have cRow : ∀ h : Hs, Callee P w K mg base "_law_row" 2 ["_law_deal", "_law_world"] (spB (dgH K C h) 1 RRow) := fun h => callee_mk (st := sRow) X G e_row l_row g_row k_row (fun _ _ _ _ _ _ us hl => match us, hl with | [_, _], _ => rfl) (fun cdv _ F => ok_row (G := dgH K C h) F B (any_D cAny))
  have cPlaces : ∀ h : Hs, Callee P w K mg base "_law_places" 3 ["_law_deal", "_law_world"] (spB (dgH K C h) 1 RPlaces) := fun h => callee_mk (st := sPlaces) X G e_places l_places g_places k_places (fun _ _ _ _ _ _ us hl => match us, hl with | [_, _], _ => rfl) (fun cdv _ F => ok_places (G := dgH K C h) F B (any_D cAny) (of_D cOf))
  have cAll : ∀ h : Hs, Callee P w K mg base "_law_all_deeds" 1 ["_law_world"] (spP (dgH K C h) 1 RAllD) := fun h => callee_mk (st := sAllDeeds) X G e_alld l_alld g_alld k_alld (fun _ _ _ _ _ _ us hl => match us, hl with | [_], _ => rfl) (fun cdv _ F => ok_all (G := dgH K C h) F B)
  have cProg : Callee P w K mg base "_law_program" 3 ["_law_deal", "_law_world", "_law_many"] (spB (G0d K) 2 fun xs q => P0 xs ∧ q .any) := callee_mk (st := sProgram) X G e_program l_program g_program k_program (fun _ _ _ _ _ _ us hl => match us, hl with | [_, _, _], _ => rfl) (fun cdv _ F => FnOk.anyB (ok_program0 (G := G0d K) F B (any_D cAny) (of_D cOf)))
  have cDrawn : Callee P w K mg base "_law_drawn" 4 ["_law_deal", "_law_most", "_law_deeds"] (spB (G0d K) 2 RDrawn) := callee_mk (st := sDrawn) X G e_drawn l_drawn g_drawn k_drawn (fun _ _ _ _ _ _ us hl => match us, hl with | [_, _, _], _ => rfl) (fun cdv _ F => ok_drawn (G := G0d K) F B (any_D cAny) (of_D cOf) cProg)
  have L : LawD P w K mg base C CN := {
    all := cAll
    row := cRow
    places := cPlaces
    of_ := fun h => of_D cOf
    handed := cHanded
    deed := fun h g => ⟨_, _, W.mg_of X G e_deed, k_deed, bDe, okDe h g⟩
    deedK := fun h g => ⟨_, _, W.mg_of X G e_deed, k_deed, ⟨fun s us ws _ hl => .of_eq (match us, ws, hl with | [], [_, _, _, _], _ => rfl), k4_rel⟩, okDe h g⟩
    unk := cUnk }
  have M : LawE P w K mg base C CH := ⟨cDrawn, cDealt, mC', fI, _, mk, bI, okI⟩
  have fl := fun_mk (st := sLaw) l_law g_law k_law
  exact law_ok fl B L M e0 (fl.binds (ps := ["_law_script"]) (fun _ _ _ _ _ _ us hl => match us, hl with | [_], _ => rfl)) sq few
end K18

open PySem PySem.W PyProof.Rows in
set_option maxRecDepth 100000 in
set_option maxHeartbeats 0 in
theorem PySem.Challenge.cw_lightsout_k18_deeds_in_all_house_rows_holds : PySem.Challenge.rw_lightsout_k18_deeds_in_all_house_rows.Holds := by
  w_on; o_law; k_head; (case hw => w_witness2)
  k_fill
  refine Cal.walk (l := PySem.Challenge.rw_lightsout_k18_deeds_in_all_house_rows) (n := 63) rfl (by decide) rfl (fun w h Y => PySem.W.kIn_of Y) ?F
  case F =>
    intro w mg fa h KX G hmg
    refine' K18.all_mk KX G hmg ?aC ?nI ?nM ?nD ?nL ?nS ?l_I ?g_I ?k_I ?f_I ?l_M ?g_M ?k_M ?f_M ?l_D ?g_D ?k_D ?f_D ?l_L ?g_L ?k_L ?f_L ?l_S ?g_S ?k_S ?f_S ?aCH ?bCH ?nCH ?tCH ?lCH ?cCH ?kCH ?aCN ?bCN ?nCN ?tCN ?lCN ?cCN ?kCN ?hO ?hK ?hDD ?hPD ?mP ?mD ?mC ?e_isseq ?l_isseq ?g_isseq ?k_isseq ?e_isname ?l_isname ?g_isname ?k_isname ?e_chp ?l_chp ?g_chp ?k_chp ?e_isdoor ?l_isdoor ?g_isdoor ?k_isdoor ?e_iscell ?l_iscell ?g_iscell ?k_iscell ?e_cht ?l_cht ?g_cht ?k_cht ?e_nums ?l_nums ?g_nums ?k_nums ?e_numof ?l_numof ?g_numof ?k_numof ?e_repl ?l_repl ?g_repl ?k_repl ?e_turned ?l_turned ?g_turned ?k_turned ?e_asked ?l_asked ?g_asked ?k_asked ?e_numpl ?l_numpl ?g_numpl ?k_numpl ?e_putoff ?l_putoff ?g_putoff ?k_putoff ?e_lost ?l_lost ?g_lost ?k_lost ?e_aged ?l_aged ?g_aged ?k_aged ?e_load ?l_load ?g_load ?k_load ?e_change ?l_change ?g_change ?k_change ?e_deed ?l_deed ?g_deed ?k_deed ?e_dealt ?l_dealt ?g_dealt ?k_dealt ?e_any ?l_any ?g_any ?k_any ?e_of ?l_of ?g_of ?k_of ?e_with ?l_with ?g_with ?k_with ?e_spot ?l_spot ?g_spot ?k_spot ?e_loaded ?l_loaded ?g_loaded ?k_loaded ?e_off ?l_off ?g_off ?k_off ?e_handed ?l_handed ?g_handed ?k_handed ?e_program ?l_program ?g_program ?k_program ?e_drawn ?l_drawn ?g_drawn ?k_drawn ?e_row ?l_row ?g_row ?k_row ?e_places ?l_places ?g_places ?k_places ?e_alld ?l_alld ?g_alld ?k_alld ?e_unk ?l_unk ?g_unk ?k_unk ?e_law ?l_law ?g_law ?k_law ?z_len ?z_abs ?z_int ?z_range ?z_list ?z_tuple ?z_isinstance ?z_enumerate ?z_str ?z_bool ?z_all ?z_repr
    (case aC => k_is)
    (case nI => k_is)
    (case nM => k_is)
    (case nD => k_is)
    (case nL => k_is)
    (case nS => k_is)
    (case l_I => k_is)
    (case g_I => k_is)
    (case k_I => k_is)
    (case f_I => k_is)
    (case l_M => k_is)
    (case g_M => k_is)
    (case k_M => k_is)
    (case f_M => k_is)
    (case l_D => k_is)
    (case g_D => k_is)
    (case k_D => k_is)
    (case f_D => k_is)
    (case l_L => k_is)
    (case g_L => k_is)
    (case k_L => k_is)
    (case f_L => k_is)
    (case l_S => k_is)
    (case g_S => k_is)
    (case k_S => k_is)
    (case f_S => k_is)
    (case aCH => k_is)
    (case bCH => kernel_rfl)
    (case nCH => k_is)
    (case tCH => k_is)
    (case lCH => k_is)
    (case cCH => k_is)
    (case kCH => k_is)
    (case aCN => k_is)
    (case bCN => kernel_rfl)
    (case nCN => k_is)
    (case tCN => k_is)
    (case lCN => k_is)
    (case cCN => k_is)
    (case kCN => k_is)
    (case hO => kernel_rfl)
    (case hK => kernel_rfl)
    (case hDD => kernel_rfl)
    (case hPD => kernel_rfl)
    (case mP => k_is)
    (case mD => k_is)
    (case mC => k_is)
    (case e_isseq => k_is)
    (case l_isseq => k_is)
    (case g_isseq => k_is)
    (case k_isseq => k_is)
    (case e_isname => k_is)
    (case l_isname => k_is)
    (case g_isname => k_is)
    (case k_isname => k_is)
    (case e_chp => k_is)
    (case l_chp => k_is)
    (case g_chp => k_is)
    (case k_chp => k_is)
    (case e_isdoor => k_is)
    (case l_isdoor => k_is)
    (case g_isdoor => k_is)
    (case k_isdoor => k_is)
    (case e_iscell => k_is)
    (case l_iscell => k_is)
    (case g_iscell => k_is)
    (case k_iscell => k_is)
    (case e_cht => k_is)
    (case l_cht => k_is)
    (case g_cht => k_is)
    (case k_cht => k_is)
    (case e_nums => k_is)
    (case l_nums => k_is)
    (case g_nums => k_is)
    (case k_nums => k_is)
    (case e_numof => k_is)
    (case l_numof => k_is)
    (case g_numof => k_is)
    (case k_numof => k_is)
    (case e_repl => k_is)
    (case l_repl => k_is)
    (case g_repl => k_is)
    (case k_repl => k_is)
    (case e_turned => k_is)
    (case l_turned => k_is)
    (case g_turned => k_is)
    (case k_turned => k_is)
    (case e_asked => k_is)
    (case l_asked => k_is)
    (case g_asked => k_is)
    (case k_asked => k_is)
    (case e_numpl => k_is)
    (case l_numpl => k_is)
    (case g_numpl => k_is)
    (case k_numpl => k_is)
    (case e_putoff => k_is)
    (case l_putoff => k_is)
    (case g_putoff => k_is)
    (case k_putoff => k_is)
    (case e_lost => k_is)
    (case l_lost => k_is)
    (case g_lost => k_is)
    (case k_lost => k_is)
    (case e_aged => k_is)
    (case l_aged => k_is)
    (case g_aged => k_is)
    (case k_aged => k_is)
    (case e_load => k_is)
    (case l_load => k_is)
    (case g_load => k_is)
    (case k_load => k_is)
    (case e_change => k_is)
    (case l_change => k_is)
    (case g_change => k_is)
    (case k_change => k_is)
    (case e_deed => k_is)
    (case l_deed => k_is)
    (case g_deed => k_is)
    (case k_deed => k_is)
    (case e_dealt => k_is)
    (case l_dealt => k_is)
    (case g_dealt => k_is)
    (case k_dealt => k_is)
    (case e_any => k_is)
    (case l_any => k_is)
    (case g_any => k_is)
    (case k_any => k_is)
    (case e_of => k_is)
    (case l_of => k_is)
    (case g_of => k_is)
    (case k_of => k_is)
    (case e_with => k_is)
    (case l_with => k_is)
    (case g_with => k_is)
    (case k_with => k_is)
    (case e_spot => k_is)
    (case l_spot => k_is)
    (case g_spot => k_is)
    (case k_spot => k_is)
    (case e_loaded => k_is)
    (case l_loaded => k_is)
    (case g_loaded => k_is)
    (case k_loaded => k_is)
    (case e_off => k_is)
    (case l_off => k_is)
    (case g_off => k_is)
    (case k_off => k_is)
    (case e_handed => k_is)
    (case l_handed => k_is)
    (case g_handed => k_is)
    (case k_handed => k_is)
    (case e_program => k_is)
    (case l_program => k_is)
    (case g_program => k_is)
    (case k_program => k_is)
    (case e_drawn => k_is)
    (case l_drawn => k_is)
    (case g_drawn => k_is)
    (case k_drawn => k_is)
    (case e_row => k_is)
    (case l_row => k_is)
    (case g_row => k_is)
    (case k_row => k_is)
    (case e_places => k_is)
    (case l_places => k_is)
    (case g_places => k_is)
    (case k_places => k_is)
    (case e_alld => k_is)
    (case l_alld => k_is)
    (case g_alld => k_is)
    (case k_alld => k_is)
    (case e_unk => k_is)
    (case l_unk => k_is)
    (case g_unk => k_is)
    (case k_unk => k_is)
    (case e_law => k_is)
    (case l_law => k_is)
    (case g_law => k_is)
    (case k_law => k_is)
    (case z_len => k_is)
    (case z_abs => k_is)
    (case z_int => k_is)
    (case z_range => k_is)
    (case z_list => k_is)
    (case z_tuple => k_is)
    (case z_isinstance => k_is)
    (case z_enumerate => k_is)
    (case z_str => k_is)
    (case z_bool => k_is)
    (case z_all => k_is)
    (case z_repr => k_is)

