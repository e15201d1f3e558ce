import PyProof.Rows.All
import Wide.All
import OpenK.AllK
import Wide.FinOn
import HandS.Base
import HandS.Call
import HandS.List
import HandS.Ends
import HandS.Words
import PyProof.ReprRoads
import KE.GoesEnum
import KE.GoesMore
import HandS.Comp
import HandS.Iter
import HandS.Walk
import HandS.TupMul
import HandS.WordsList
import HandS.Text
import HandS.Style
import HandS.Star
import HandS.DictComp
import HandS.IsInst
import HandS.CallLocal
import HandS.TupAny
import HandS.DeepEq
import KE.KExcLine
import KE.RegKIsAll
import PySem.Challenge.RW_lightsout_k03_rows_of_houses
set_option Elab.async false
set_option linter.all false
set_option maxRecDepth 100000
set_option maxHeartbeats 8000000
/-! The law's own def, run from the law's caller alone: what its body knows more is that no repr runs around it. -/
namespace Cal
open PySem PySem.Spec PyProof.Rows L2

/-- what the law's call wants -/
abbrev Won (P : Program) (w : World) (s : Shared) (fa a : Addr) : Prop :=
  codeAny (model P w) callerA (.call (.ref fa) ⟨[.ref a], []⟩)
    (fun r s' => r = .ok (.ret (.bool true)) ∧ OldK s.heap s'.heap ∧ s'.os = s.os ∧ AllBare s'.gens) s

theorem won {P : Program} {w : World} {K : PySem.W.Frag} {mg mb : Str → Option Value} {fa a : Addr} {s : Shared} {vs : List Value} {ns : List Int}
    (kIn : K.In s.heap) (glo : s.heap.Ns mainGlobals mg) (bns : s.heap.Ns builtinsNs mb) (bbo : ∀ x : Str, x ≠ "__name__" → mb x = bootBuiltins x)
    (lim : s.heap.NoLimit) (gen : s.gens = #[]) (obj : s.heap.get? a = some { cls := .type "list", data := .seq vs.toArray })
    (its : IntsAre vs ns) (few : ns.length ≤ sizeLine)
    (run : ∀ (base : Heap) (H : Hp), K.In base → base.Ns mainGlobals mg → Env0 P w K mg base callerA [] s H → Only H → SqL K H a (ns.map V.int) →
      codeAny (model P w) callerA (.call (.ref fa) ⟨[.ref a], []⟩) (CR CX0 [] P w H s (fun v _ => v = .bl true) E0) s) :
    Won P w s fa a := by
  have vals := vals_ints its
  have size := its.length
  suffices main : ∀ H : Hp, Only H → SqL K H a (ns.map V.int) → HOk P w H s.heap → (∀ b, H b ≠ none → b = a ∧ K.lookup a = none) → Won P w s fa a by
    cases look : K.lookup a with
    | some o =>
      have o2 := kIn a o look
      rw [obj] at o2
      obtain rfl := Option.some.inj o2
      refine main (fun _ => none) (fun _ => Or.inl rfl) (Or.inr ⟨_, vs.toArray, _, look, rfl, rfl, rfl, ?_, ?_⟩) (fun b u z => nomatch z) (fun b z => (z rfl).elim)
      · simpa [size] using few
      · simpa using vals
    | none =>
      let H : Hp := fun b => if b = a then some (.frz { cls := .type "list", data := .seq vs.toArray } (.lst (ns.map V.int))) else none
      have at_a : H a = some (.frz { cls := .type "list", data := .seq vs.toArray } (.lst (ns.map V.int))) := if_pos rfl
      have off : ∀ {b}, b ≠ a → H b = none := fun z => if_neg z
      refine main H (fun b => ?_) (Or.inl (Or.inr ⟨_, at_a⟩)) (fun b u z => ?_) (fun b z => ?_)
      · by_cases e : b = a
        · subst e
          exact Or.inr ⟨_, _, at_a⟩
        · exact Or.inl (off e)
      · by_cases e : b = a
        · subst e
          rw [at_a] at z
          obtain rfl := Option.some.inj z
          exact ⟨obj, by simpa using few, vs, _, vals, obj⟩
        · rw [off e] at z
          cases z
      · by_cases e : b = a
        · exact ⟨e, look⟩
        · exact (z (off e)).elim
  intro H only sq ok here
  have free : ∀ {b : Addr} {o : Obj}, s.heap.get? b = some o → o.data ≠ .seq vs.toArray → H b = none := fun {b o} e d => by
    rcases only b with z | ⟨_, _, z⟩
    · exact z
    · obtain ⟨rfl, _⟩ := here b (by rw [z]; simp)
      rw [obj] at e
      obtain rfl := Option.some.inj e
      exact (d rfl).elim
  have space : ∀ {b : Addr} {m : Str → Option Value}, s.heap.Ns b m → (hidT s.heap H).Ns b m := fun {b m} ⟨o, es, ep, e, d, r⟩ =>
    ⟨o, es, ep, hidT_get e (free e (by rw [d]; intro z; cases z)), d, r⟩
  have kIn2 : K.In (hidT s.heap H) := fun b o e => hidT_get (kIn b o e) (by
    rcases only b with z | ⟨_, _, z⟩
    · exact z
    · obtain ⟨rfl, n⟩ := here b (by rw [z]; simp)
      rw [n] at e
      cases e)
  obtain ⟨mc, l1, l2⟩ := lim
  have env : Env0 P w K mg (hidT s.heap H) callerA [] s H := {
    frames := rfl
    mod := ⟨kIn2, space glo, ⟨mb, space bns, bbo⟩, ⟨mc, space l1, l2⟩⟩
    bs := fun b o e => of_hidT e
    bsz := Nat.le_of_eq (hidT_size _ _)
    funs := trivial
    frf := fun b hb => by simp [frs] at hb
    hok := ok
    bare := .of_eq gen }
  refine codeAny_mono (run _ H kIn2 (space glo) env only sq) fun r s' z => ?_
  match r, z with
  | .error e, z => exact z.elim
  | .ok .next, z => exact z.elim
  | .ok .brk, z => exact z.elim
  | .ok .cont, z => exact z.elim
  | .ok (.ret u), ⟨v, H', os, bare, un, ok', rv, q⟩ =>
    subst q
    obtain rfl : u = Value.bool true := rv
    refine ⟨rfl, OldK.of_keep fun b o e => ?_, os, bare⟩
    rcases only b with z | ⟨ob, xs, z⟩
    · exact un.keep b o e z (by simp [frs]) (by simp)
    · have y1 := (ok b _ z).1
      have y2 := (ok' b _ (un.frzs b ob _ z)).1
      rw [e] at y1
      obtain rfl := Option.some.inj y1
      exact y2

/-- the goal that k_head leaves, from the law's body run at its caller -/
theorem walk {l : PySem.W.OpenLaw} {n : Nat} {q : Program} {loose : List Str} {XP : (Str → Option Value) → Heap → Prop} {YP : World → Heap → Prop} {d : DefRec} {K : Params → PySem.W.Frag}
    (most : l.most = some n) (few : n ≤ sizeLine) (dfl : d.params.defaults = []) (hY : ∀ (w : World) (h : Heap), YP w h → (K w.params).In h)
    (run : ∀ (w : World) (mg : Str → Option Value) (fa : Addr) (h : Heap), (K w.params).In h → h.Ns mainGlobals mg → mg d.name = some (.ref fa) →
      ∀ (s : Shared) (a : Addr) (ns : List Int) (base : Heap) (H : Hp), ns.length ≤ n → (K w.params).In base → base.Ns mainGlobals mg → Env0 l.prog w (K w.params) mg base callerA [] s H → Only H → SqL (K w.params) H a (ns.map V.int) →
        codeAny (model l.prog w) callerA (.call (.ref fa) ⟨[.ref a], []⟩) (CR CX0 [] l.prog w H s (fun v _ => v = .bl true) E0) s) :
    PySem.W.WalkO q loose XP YP l.row.toRowW d [] (fun f vs => PySem.call f vs) := by
  refine Att.attach_call most dfl fun w s₀ s₁ mg mb fa o pm cd doc a vs ns G Y ho hd hcd hmg hobj hints hlen hg => ?_
  have KX := hY w _ Y
  exact won KX G.T.g G.T.b G.T.builtins G.T.nolimit hg hobj hints (Nat.le_trans hlen few) fun base H b1 b2 e0 only sq => run w mg fa _ KX G.T.g hmg s₁ a ns base H hlen b1 b2 e0 only sq

/-- the law's def, by its body: what a body of Fun.ok is, with the caller told -/
theorem law_run {P : Program} {w : World} {K : PySem.W.Frag} {mg : Str → Option Value} {base : Heap} {x qual : Str} {st : Stmt} {f : Addr} {fd : FuncData} {N ps : List Str} {s : Shared} {H : Hp} {us : List Value} {vs : List V} {Q : VK}
    (F : Fun K x qual st f fd) (S : FnScope N ps (defScope st)) (e0 : Env0 P w K mg base callerA [] s H) (bind : Binds K fd ps []) (r : Vals vs us) (hl : vs.length = ps.length)
    (body : ∀ cdv : Value, ∃ t, PSs (cxOf CX0 P w K mg base N qual (defScope st) f cdv callerA [] s H E0).nox (defBody st) t ∧ t { nx := fun _ H' => Q .non H', rt := Q } (start N vs) H) :
    codeAny (model P w) callerA (.call (.ref f) ⟨us, []⟩) (CR CX0 [] P w H s Q E0) s := by
  obtain ⟨oc, od, kV, doc, pm, an, cdv, ct, osl, rfl, lk, hcd⟩ := F.ex
  obtain ⟨t, ht, hq⟩ := body cdv
  have keep : ∀ b o, base.get? b = some o → s.heap.get? b = some o := fun b o e => (e0.bs b o e).1
  have kIn := e0.mod.kin.keeps keep
  have ul : us.length = ps.length := by rw [← r.length]; exact hl
  have hb := bind s us kIn (by simpa using ul)
  rw [List.append_nil] at hb
  refine codeAny_call_function (by decide) (kIn _ _ lk) rfl S.co S.gen rfl (PySem.W.codeRec_of kIn hcd) (hb _ _ _ _ ?_)
  refine wpAny_newFunctionEnv_cells S.kind (fun ⟨y, v⟩ hy => ?_) fun env he s1 z => ?_
  · have := S.par y (List.of_mem_zip hy).1
    rcases this with q | q
    · exact Or.inl q
    · exact Or.inr ⟨q, PySem.W.cellsFrom_some _ _ _ (Or.inl q)⟩
  · subst he
    refine ⟨(e0.mod.nolimit.keeps keep).keeps z.toInCall.keep, codeAny_func ?_⟩
    have I : Inv (cxOf CX0 P w K mg base N qual (defScope st) f cdv callerA [] s H E0) [] (start N vs) H s1 := inv_start S rfl e0 hl r z
    refine wpAny_mono (ht.nox.run [] s1 _ H _ I hq) (fun fl s' y => ?_) fun _ _ y => y
    match fl, y with
    | .ret u, ⟨v, σ', H', J, rv, q⟩ => exact ⟨v, H', J.os, J.bare, J.base, J.hok, rv, q⟩
    | .next, ⟨σ', H', J, q⟩ => exact ⟨.non, H', J.os, J.bare, J.base, J.hok, rfl, q⟩
    | .brk, ⟨_, _, _, q⟩ => exact q.elim
    | .cont, ⟨_, _, _, q⟩ => exact q.elim

/-- no repr runs around the law's own body -/
theorem calm_guards {P : Program} {w : World} {K : PySem.W.Frag} {mg : Str → Option Value} {base : Heap} {N : List Str} {qual : Str} {sc : Scope} {f : Addr} {cdv : Value} {s : Shared} {H : Hp} :
    (cxOf CX0 P w K mg base N qual sc f cdv callerA [] s H E0).nox.A.guards = some [] := rfl

/-! ### repr of data -/
section
variable {X : Cx}
def rRepr (K : PySem.W.Frag) : List V → Hp → VK → Prop := fun xs H Q =>
  ∃ (x : V) (d : PyData), xs = [x] ∧ Dp K H x d ∧ d.showable = true ∧ d.hasDict = false ∧ d.depth ≤ 20 ∧ d.shown.length ≤ sizeLine ∧ Q (.str d.shown) H
theorem call_repr (gu : X.A.guards = some []) (un : X.A.units + 64 < cLine) : CallR X (.builtin "repr") (rRepr X.K) := by
  intro pins s σ H xs us Q I r h
  obtain ⟨x, d, rfl, dp, sh, nd, de, sz, q⟩ := h
  obtain ⟨u, rfl, r1⟩ := vals1 r
  obtain ⟨as, rd⟩ := Dp.reads I d x u dp r1
  have fin : ∀ (h' : Heap) (v : Tok) (tk : Nat), (∀ b o, s.heap.get? b = some o → h'.get? b = some o) → EP X pins σ Q (.str d.shown v) { s with heap := h', toks := tk } :=
    fun h' v tk k => ⟨.str d.shown, H, I.kept k, ⟨v, rfl⟩, q⟩
  cases dp with
  | non =>
    cases r1
    exact PySem.P.repr_of_none (fin s.heap _ _ fun _ _ e => e)
  | bl b =>
    cases r1
    exact PySem.P.repr_of_bool (fin s.heap _ _ fun _ _ e => e)
  | int i =>
    obtain ⟨t, rfl⟩ := r1
    refine PySem.P.repr_of_int (by simpa [PyData.showable] using sh) ?_
    have := fin s.heap s.toks (s.toks + 1) fun _ _ e => e
    simpa only [PyData.shown] using this
  | str y =>
    obtain ⟨t, rfl⟩ := r1
    have := fin s.heap s.toks (s.toks + 1) fun _ _ e => e
    simp only [PyData.shown] at this sz
    exact PySem.P.repr_of_str this sz
  | lst hs ha =>
    cases r1
    exact repr_of_reads' rd sh (fun z => by rw [nd] at z; cases z) gu (by omega) (fun _ _ e => e) fin sz
  | tup hs ha =>
    cases r1
    exact repr_of_reads' rd sh (fun z => by rw [nd] at z; cases z) gu (by omega) (fun _ _ e => e) fin sz
end
end Cal

/-! enumerate over a tuple -/
namespace EnuT
open PySem PySem.Spec PyProof.Rows L2

set_option maxHeartbeats 4000000 in
theorem meets_one {v : Value} {o : Obj} {G : Heap → Prop} (B : Begins v o G) :
    Meets (Builtin.«enumerate.__new__» ⟨[.type "enumerate", v], []⟩) (fun _ R s => G s.heap ∧
      R (.ok (.ret (.ref (s.heap.push o).objs.size)))
        { s with heap := (s.heap.push o).push { cls := .type "enumerate", data := .fields #[.none, .bool false, .ref s.heap.objs.size, rawInt 0, .none, .none] } }) :=
  .of_wp fun prog w A R s h => by
    obtain ⟨hp, g, d, tk, os⟩ := s
    obtain ⟨h1, h⟩ := h
    have sub := sub_enumerate
    have iter : ∀ {A' : Around} {E : Value → Shared → Prop} {Q : Value → Shared → Prop}, Q (.ref hp.objs.size) ⟨hp.push o, g, d, tk, os⟩ →
        wpAny (model prog w) A' (pyIter v) Q E ⟨hp, g, d, tk, os⟩ := fun q => B.iter prog w _ _ ⟨hp, g, d, tk, os⟩ _ h1 q
    wp_walk using iter
    refine wpAny_stack_any fun st => wpAny_pure ?_
    split
    · rename_i c _ _ _ _ _
      cases (c == Value.type "enumerate") <;> (wp_walk using iter; exact ⟨_, rfl, h⟩)
    · wp_walk using iter
      exact ⟨_, rfl, h⟩

theorem call_one {prog : Program} {w : World} {A : Around} {E : Value → Shared → Prop} {s : Shared} {v : Value} {o : Obj} {G : Heap → Prop} {Q : Value → Shared → Prop} (B : Begins v o G) (h1 : G s.heap)
    (k : ∀ h', IsEnum h' (s.heap.objs.size + 1) s.heap.objs.size 0 .none → h'.get? s.heap.objs.size = some o →
      (∀ b u, s.heap.get? b = some u → h'.get? b = some u) → Q (.ref (s.heap.objs.size + 1)) { s with heap := h' }) :
    wpAny (model prog w) A (call (.type "enumerate") [v]) Q E s := by
  refine callType_new F.called_enumerate (by decide) (F.typeCall_enumerate_1 _) (F.newCall_enumerate_1 _) (fun obj => F.args_object_init_2 obj _) F.entry_enumerate_new (meets_one B) ⟨h1, ?_⟩
  have sz : (s.heap.push o).objs.size = s.heap.objs.size + 1 := Heap.size_push ..
  show _ ∧ _
  rw [sz]
  have at_e : IsEnum ((s.heap.push o).push { cls := .type "enumerate", data := .fields #[.none, .bool false, .ref s.heap.objs.size, rawInt 0, .none, .none] }) (s.heap.objs.size + 1) s.heap.objs.size 0 .none := by
    have z := Heap.get?_push_size (s.heap.push o) (o := { cls := .type "enumerate", data := .fields #[.none, .bool false, .ref s.heap.objs.size, rawInt 0, .none, .none] }) rfl
    rw [sz] at z
    exact z
  refine ⟨⟨_, at_e, rfl⟩, k _ at_e (Heap.get?_push_of_some _ (Heap.get?_push_size _ B.free)) fun b u e => Heap.get?_push_of_some _ (Heap.get?_push_of_some _ e)⟩

/-- the tuple at a, each item in a new pair -/
def Iet (K : W.Frag) (a : Addr) : It :=
  ⟨fun i H => ∃ (xs : List V) (x : V), SqT K H a xs ∧ xs[i]? = some x,
    fun i H v H' => ∃ T x, v = .ref T ∧ H T = none ∧ H' = upd H T (.tup [.int (i : Nat), x]) ∧ ∀ xs, SqT K H a xs → xs[i]? = some x,
    fun i H => ∃ xs : List V, SqT K H a xs ∧ xs.length = i⟩

theorem turn_et {P : Program} {w : World} {K : W.Frag} {elts : List Expr} {kk : Nat} {tpos : Pos} (a e it : Addr) :
    Turn P w K (.Tuple elts kk tpos) (Iet K a) [e, it] e (fun i h => (∃ old, IsEnum h e it ((i : Nat) : Int) old) ∧ h.IsTupleIter it a i ∧ e ≠ it) where
  mem := List.mem_cons_self ..
  obj := fun i h st b hb => by
    obtain ⟨⟨old, he⟩, ⟨o, ho, hc, hd⟩, _⟩ := st
    have hb2 : b = e ∨ b = it := by simpa using hb
    rcases hb2 with rfl | rfl
    · exact ⟨_, he, fun v q => nomatch q⟩
    · exact ⟨o, ho, fun v q => by rw [hd] at q; cases q⟩
  keep := fun i h h' st k => by
    obtain ⟨⟨old, he⟩, hi, ne⟩ := st
    exact ⟨⟨old, k e (List.mem_cons_self ..) _ he⟩, hi.at fun o q => k it (by simp) o q, ne⟩
  item := by
    intro X hP hw hK hc i pins s σ H E I hf st hg
    subst hP hw hK
    obtain ⟨⟨old, he⟩, hit, ne⟩ := st
    obtain ⟨xs, x, hq, hx⟩ := hg
    obtain ⟨its, rv, p, hz⟩ := I.tuple hq
    obtain ⟨u, hu, ru⟩ := rv.get hx
    have tup : s.heap.IsTuple a its.toArray := p
    have ea : e ≠ a := fun z => by
      obtain ⟨o, ho, hc, _⟩ := p
      rw [← z] at ho
      have he' : s.heap.get? e = some _ := he
      rw [ho] at he'
      cases he'
      exact absurd (Value.type.inj hc) (by decide)
    have ia : a ≠ it := fun z => by
      obtain ⟨o, ho, hc, _⟩ := p
      obtain ⟨o', ho', hc', _⟩ := hit
      rw [z, ho'] at ho
      cases ho
      rw [hc'] at hc
      exact absurd (Value.type.inj hc) (by decide)
    have le : e < s.heap.objs.size := Heap.lt_size he
    have li : it < s.heap.objs.size := by
      obtain ⟨_, q, _⟩ := hit
      exact Heap.lt_size q
    have lt : i < its.toArray.size := by
      have := (List.getElem?_eq_some_iff.mp hu).1
      simpa using this
    refine wpAny_pyNext_enum_itemD (Draws.tuple (A := X.A.in1) (I.ok.hd hc) it a ia its.toArray) he ⟨hit, tup⟩ lt ne (by simp [ne, ea]) fun y h' tk hy ho st' hT hsz hk => ?_
    have eu : y = u := by
      have z : its.toArray[i]? = some y := hy
      rw [List.getElem?_toArray, hu] at z
      exact (Option.some.inj z).symm
    subst eu
    refine ⟨_, rfl, wpAny_letOwnedTupleGo_enum (s := { s with heap := h', toks := tk + 1 }) ho fun h'' he' sb => ?_⟩
    have at_T : h''.get? s.heap.objs.size = some { cls := .type "tuple", data := .seq #[.int i tk, y] } := (sb.2 _ (Nat.ne_of_gt le)).trans hT
    have new : ObjOk X.prog X.w (upd H s.heap.objs.size (.tup [.int (i : Nat), x])) h'' s.heap.objs.size (.tup [.int (i : Nat), x]) :=
      ⟨by show 2 ≤ sizeLine; decide, [.int i tk, y], .cons ⟨_, rfl⟩ (.cons ru .nil), ⟨_, at_T, rfl, _, rfl⟩⟩
    have J : Inv X pins σ (upd H s.heap.objs.size (.tup [.int (i : Nat), x])) { s with heap := h'', toks := tk + 1 } := by
      refine I.turnedNew (ch := [e, it]) (fun b ob hb q => ?_) hf (Nat.le_refl _) new
      have b1 : b ≠ e := fun z => hb (by simp [z])
      have b2 : b ≠ it := fun z => hb (by simp [z])
      exact (sb.2 b b1).trans (hk b ob b1 b2 q)
    refine ⟨.ref s.heap.objs.size, _, J, rfl, ⟨_, x, rfl, I.hok.fresh (Nat.le_refl _), rfl, fun ys hy => ?_⟩, ⟨⟨y, ?_⟩, st'.1.at fun o q => (sb.2 it (Ne.symm ne)).trans q, ne⟩, fun b hb => ?_⟩
    · rw [I.tuple_inj hy hq]
      exact hx
    · have e1 : ((i + 1 : Nat) : Int) = (i : Int) + 1 := by omega
      rw [e1]
      exact he'
    · have lb : b < s.heap.objs.size := by
        have hb2 : b = e ∨ b = it := by simpa using hb
        rcases hb2 with rfl | rfl
        · exact le
        · exact li
      rw [upd_ne (Nat.ne_of_lt lb)]
      exact (hf b hb).1
  done := by
    intro X hP hw hK hc i pins s σ H E I hf st hg
    subst hP hw hK
    obtain ⟨⟨old, he⟩, hit, ne⟩ := st
    obtain ⟨xs, hq, hx⟩ := hg
    obtain ⟨its, rv, p, hz⟩ := I.tuple hq
    have tup : s.heap.IsTuple a its.toArray := p
    have ia : a ≠ it := fun z => by
      obtain ⟨o, ho, hc, _⟩ := p
      obtain ⟨o', ho', hc', _⟩ := hit
      rw [z, ho'] at ho
      cases ho
      rw [hc'] at hc
      exact absurd (Value.type.inj hc) (by decide)
    obtain ⟨f0, f1, f2, f3, f4, f5⟩ := hf it (by simp)
    have sz : i = its.toArray.size := by
      have := rv.length
      simp
      omega
    subst sz
    refine wpAny_pyNext_enum_endD (Draws.tuple (A := X.A.in1) (I.ok.hd hc) it a ia its.toArray) he ⟨hit, tup⟩ fun h' eb => ⟨rfl, I.turned (t' := s.toks) (fun b o hb q => eb b o hb q) f0 f1 f3 f4 f5⟩
  self := fun A i s Q E st h => by
    obtain ⟨⟨_, he⟩, _⟩ := st
    exact wpAny_pyIter_enum he h

/-- enumerate over a list or over a tuple -/
def iEnS (K : W.Frag) (ta : TA) : TI := fun σ H R => ta σ H fun vs H1 => ∃ a, vs = [V.ref a] ∧ ((∃ xs, SqL K H1 a xs ∧ R (Ite K a) H1) ∨ (∃ xs, SqT K H1 a xs ∧ R (Iet K a) H1))
theorem pi_enumS {X : Cx} {e : Expr} {ta : TA} {p pos tpos : Pos} {elts : List Expr} {kk : Nat} (hg : Gl X "enumerate") (hm : X.mg "enumerate" = none) (ha : PA X [e] ta) (hs : starEach [e] X.env = [(false, eval e X.env)] := by rfl) :
    PI X (.Tuple elts kk tpos) (.Call (.Name "enumerate" p) [e] [] pos) (iEnS X.K ta) where
  run := fun pins s σ H R I h =>
    Call_ (ld_blt I hg hm boot_enumerate (PyProof.Rows.callWith_type1 (thn (ha.run pos pins s σ H _ I h) fun us s1 x => by
      obtain ⟨vs, H1, I1, r1, a, rfl, q⟩ := x
      obtain ⟨u, rfl, ra⟩ := vals1 r1
      cases ra
      rcases q with ⟨xs, hq, q⟩ | ⟨xs, hq, q⟩
      · obtain ⟨its, rv, p', hz⟩ := I1.list hq
        refine call_enumerate_list (PlainL.isList p') fun h' he hit hsz hk => ?_
        have I2 := I1.kept (t' := s1.toks) hk
        refine wpAny_pyIter_enum he ⟨_, [s1.heap.objs.size + 1, s1.heap.objs.size], _, Ite X.K a, H1, rfl, I2, turn_enum a _ _, ?_, ?_, q⟩
        · exact ⟨⟨_, he⟩, hit, Nat.succ_ne_self _⟩
        · intro b hb
          have le : s1.heap.objs.size ≤ b := by
           rcases (by simpa using hb : b = s1.heap.objs.size + 1 ∨ b = s1.heap.objs.size) with rfl | rfl <;> omega
          exact I1.fpOk le (I1.hok.fresh le)
      · obtain ⟨its, rv, p', hz⟩ := I1.tuple hq
        have tup : s1.heap.IsTuple a its.toArray := p'
        refine call_one (begins_tuple a its.toArray) tup fun h' he hit hk => ?_
        have I2 := I1.kept (t' := s1.toks) hk
        refine wpAny_pyIter_enum he ⟨_, [s1.heap.objs.size + 1, s1.heap.objs.size], _, Iet X.K a, H1, rfl, I2, turn_et a _ _, ?_, ?_, q⟩
        · exact ⟨⟨_, he⟩, ⟨_, hit, rfl, rfl⟩, Nat.succ_ne_self _⟩
        · intro b hb
          have le : s1.heap.objs.size ≤ b := by
           rcases (by simpa using hb : b = s1.heap.objs.size + 1 ∨ b = s1.heap.objs.size) with rfl | rfl <;> omega
          exact I1.fpOk le (I1.hok.fresh le)) hs rfl) (by decide) (by decide)) rfl
theorem walk_enumT {K : W.Frag} {a : Addr} {xs : List V} : Walk (Iet K a) xs.length (fun H => SqT K H a xs) (YPair (fun i => some (.int (i : Nat))) (fun i => xs[i]?)) where
  goes := fun i H hi hq => ⟨xs, xs[i], hq, by simp [hi]⟩
  stops := fun H hq => ⟨xs, hq, rfl⟩
  yields := fun i H v H' hi hq h => by
    obtain ⟨T, x, rfl, hT, rfl, hx⟩ := h
    exact ⟨T, _, x, rfl, hT, rfl, rfl, hx xs hq⟩

/-- a dict comprehension over what walks -/
theorem dc_it {J : It} {n : Nat} {G : Hp → Prop} {Y : Nat → Hp → V → Hp → Prop} (w : Walk J n G Y) {g : TG} {tt : TT} {tk tv : TE} {vs : List Nat} {σ : L2.St} {H1 : Hp} {D : Addr} {Qd : Hp → Prop} (Pv : Nat → Hp → Prop)
    (h0 : Pv 0 (upd H1 D (.dK []))) (hl : ∀ i H, i ≤ n → Pv i H → G H)
    (hs : ∀ (i : Nat) (x : V) (H H' : Hp), i < n → Pv i H → Y i H x H' → g x (wipe σ vs) H' fun σ2 H2 => wipe σ2 vs = wipe σ vs ∧ tt σ2 H2 fun b H3 => if b = true then tk σ2 H3 fun y H4 => tv σ2 H4 fun z H5 =>
      ∃ kvs k, y = kV k ∧ H5 D = some (.dK kvs) ∧ kvs.length < sizeLine ∧ Pv (i + 1) (upd H5 D (.dK (putK kvs k z))) else Pv (i + 1) H3)
    (hd : ∀ H, Pv n H → Qd H) :
    ∃ W : Nat → Nat → Hp → Prop, (∃ m, W 0 m (upd H1 D (.dK []))) ∧ ∀ i m H, W i m H → (J.stop i H ∧ Qd H) ∨ (J.go i H ∧ ∃ Nx : Hp → Prop, (∀ H', Nx H' → ∃ m', m' < m ∧ W (i + 1) m' H') ∧
      ∀ x H', J.yld i H x H' → g x (wipe σ vs) H' fun σ2 H2 => wipe σ2 vs = wipe σ vs ∧ tt σ2 H2 fun b H3 => if b = true then tk σ2 H3 fun y H4 => tv σ2 H4 fun z H5 =>
        ∃ kvs k, y = kV k ∧ H5 D = some (.dK kvs) ∧ kvs.length < sizeLine ∧ Nx (upd H5 D (.dK (putK kvs k z))) else Nx H3) := by
  refine ⟨fun i m H => i ≤ n ∧ m = n - i ∧ Pv i H, ⟨n, Nat.zero_le _, rfl, h0⟩, ?_⟩
  rintro i m H ⟨hi, rfl, hp⟩
  by_cases h : i < n
  · refine .inr ⟨w.goes i H h (hl i H hi hp), Pv (i + 1), fun H' q => ⟨n - (i + 1), by omega, by omega, rfl, q⟩, fun x H' hy => ?_⟩
    exact hs i x H H' h hp (w.yields i H x H' h (hl i H hi hp) hy)
  · obtain rfl : i = n := by omega
    exact .inl ⟨w.stops H (hl _ H hi hp), hd H hp⟩

/-! ### tuple * 0 and tuple * 1 -/
end EnuT

/-! a def called by keywords alone -/
namespace EnuT
open PySem PySem.Spec PyProof.Rows L2
theorem pe_callK0 {X : Cx} {CX : CXT} {k : Nat} {f : Addr} {fd : FuncData} {ps ks : List Str} {sp : Sp} {E : XK} {x : Str} {p pos : Pos} {kws : List Keyword} {tk : TA} {g : List Value → List Value → List Value} {gV : List V → List V → List V}
    (F : FnOk X.prog X.w X.K X.mg X.base CX k f fd ps sp) (hr : Room k X.A) (hg : Gl X x) (hm : X.mg x = some (.ref f)) (kp : W.keepIn X.K (.ref f) = true) (hb : KBinds X.K fd ps ks g gV) (hx : Passes CX X E) (hk : PK X kws tk)
    (hall : (backToKw pos (keywordEach kws X.env)).all (·.1.isSome) = true := by rfl) (hks : (backToKw pos (keywordEach kws X.env)).filterMap (·.1) = ks := by rfl) (hdb : (x == ("__debug__" : Str)) = false := by decide)
    (hpl : ((backTo pos (starEach [] X.env)).any (·.1) || (backToKw pos (keywordEach kws X.env)).any (·.1.isNone)) = false := by rfl) :
    PE X (.Call (.Name x p) [] kws pos) (tCallK sp gV E tNil tk) := by
  refine ⟨fun pins s σ H Q I h => ?_⟩
  refine wpAny_Call_Name_kw (ld_glob I hg hm ?_ hdb)
  refine W.callWith_KW0 (h₀ := X.base) I.ok.mod.kin kp hall ?_ hpl
  refine thn (hk.run pos pins s σ H (fun zs H2 => sp (gV [] zs) H2 Q E) I h) fun ws s1 ⟨zs, H1, I1, r, q⟩ => ⟨I1.kIn, ?_⟩
  rw [hks]
  exact run_fnk F hr hb hx I1 .nil r q
end EnuT

/-! tuple * 0 and tuple * 1 -/
namespace EnuT
open PySem PySem.Spec PyProof.Rows L2
theorem mul_zero (l : Addr) (items : Array Value) (n : Nat) (dd : Option Addr) (sl : Array (Option Value)) (u : Tok) (ne : items.isEmpty = false) :
    Meets (Builtin.«tuple.__mul__» ⟨[.ref l, .int 0 u], []⟩) (fun _ R s => s.heap.get? l = some { cls := .type "tuple", dict := dd, data := .seq items n, slots := sl } ∧
      R (.ok (.ret (.ref s.heap.objs.size))) { s with heap := s.heap.push { cls := .type "tuple", data := .seq #[] } }) :=
  .of_wp fun prog w A R s h => by
    obtain ⟨hp, g, d, tk, os⟩ := s
    obtain ⟨h1, h⟩ := h
    have e1 : (items.isEmpty || (0 : Int) == 1) = false := by rw [ne]; rfl
    wp_walk using e1
    exact ⟨_, rfl, h⟩
theorem mul_one (l : Addr) (items : Array Value) (n : Nat) (dd : Option Addr) (sl : Array (Option Value)) (u : Tok) (ne : items.isEmpty = false) :
    Meets (Builtin.«tuple.__mul__» ⟨[.ref l, .int 1 u], []⟩) (fun _ R s => s.heap.get? l = some { cls := .type "tuple", dict := dd, data := .seq items n, slots := sl } ∧
      R (.ok (.ret (.ref l))) s) :=
  .of_wp fun prog w A R s h => by
    obtain ⟨hp, g, d, tk, os⟩ := s
    obtain ⟨h1, h⟩ := h
    have e1 : (items.isEmpty || (1 : Int) == 1) = true := by rw [ne]; rfl
    wp_walk using e1
    exact ⟨_, rfl, h⟩
def TupA (H : Hp) (v : V) (xs : List V) : Prop := ∃ a, v = .ref a ∧ H a = some (.tup xs)
/-- tuple * k, from k = 0 on -/
def rRepA : R2 := fun x y H Q => ∃ l k xs, x = .ref l ∧ y = .int k ∧ H l = some (.tup xs) ∧ xs ≠ [] ∧ 0 ≤ k ∧ k ≤ 1000 ∧ xs.length ≤ 1000 ∧
  ∀ v H', Same H H' → TupA H' v (List.replicate k.toNat xs).flatten → Q v H'
theorem same_new {H : Hp} {l : Addr} {o : HO} (n : H l = none) : Same H (upd H l o) := fun b u e => by
  rw [upd_ne (ne_of_none e n)]
  exact e
theorem rep_small {X : Cx} {pins : List (Addr × Obj)} {σ : L2.St} {H : Hp} {s : Shared} {l : Addr} {xs : List V} {Q : VK} {t : Tok} {k : Int} (I : L2.Inv X pins σ H s) (hT : H l = some (.tup xs)) (hne : xs ≠ []) (hk : k = 0 ∨ k = 1)
    (q : ∀ v H', Same H H' → TupA H' v (List.replicate k.toNat xs).flatten → Q v H') : wpAny (model X.prog X.w) X.A (binaryOp .Mult (.ref l) (.int k t)) (EP X pins σ Q) X.xe s := by
  obtain ⟨its, r, ⟨⟨cls, dd, data, sl⟩, ho, hc, n, hd⟩, hz⟩ := I.tuple (SqT.of hT)
  simp only at hc hd
  subst hc hd
  have ty : s.TypeIs (.ref l) "tuple" := ⟨_, ho, rfl⟩
  have emp : its.toArray.isEmpty = false := by
    cases its with
    | nil => cases r; exact (hne rfl).elim
    | cons _ _ => rfl
  refine wpAny_binaryOp_repeat_ref (T := "tuple") (U := "int") (by decide) ty (fun s' => typeIs_int s' _ _) noFill_tuple_mul PySem.F.fills_int_mul PySem.F.slot_int_rmul repeat_tuple PySem.F.slot_int_index.lookup ?_
  refine call_meets PySem.F.slot_int_rmul (typeIs_int _ _ _) PySem.F.entry_int_rmul (PySem.F.args_int_rmul_2 _ _) (int_rmul_tuple k t l its.toArray n dd sl) ⟨ho, ?_⟩
  refine ⟨rfl, ty, ?_⟩
  rcases hk with rfl | rfl
  · refine call_meets PySem.F.slot_tuple_mul ty PySem.F.entry_tuple_mul (PySem.F.args_tuple_mul_2 _ _) (mul_zero l its.toArray n dd sl t emp) ⟨ho, ?_⟩
    have new : ObjOk X.prog X.w (upd H s.heap.objs.size (.tup [])) (s.heap.push { cls := .type "tuple", data := .seq #[] }) s.heap.objs.size (.tup []) := ⟨by show 0 ≤ sizeLine; decide, [], .nil, IsTup.new _ _⟩
    refine ⟨.ref s.heap.objs.size, _, I.laid (fun b u e => Heap.get?_push_of_some _ e) (Nat.le_refl _) new, rfl, q _ _ (same_new (I.hok.fresh (Nat.le_refl _))) ⟨_, rfl, upd_same⟩⟩
  · refine call_meets PySem.F.slot_tuple_mul ty PySem.F.entry_tuple_mul (PySem.F.args_tuple_mul_2 _ _) (mul_one l its.toArray n dd sl t emp) ⟨ho, ?_⟩
    refine ⟨.ref l, H, I, rfl, q _ _ (Same.refl _) ⟨l, rfl, ?_⟩⟩
    rw [hT]
    simp
theorem op_repA {X : Cx} : OpR X (binaryOp .Mult) rRepA := by
  intro pins s σ H x y v u Q I rx ry h
  obtain ⟨l, k, xs, rfl, rfl, hT, hne, k0, k1, lx, q⟩ := h
  obtain rfl : v = Value.ref l := rx
  obtain ⟨t, rfl⟩ := ry
  rcases (by omega : k = 0 ∨ k = 1 ∨ 2 ≤ k) with z | z | z
  · exact rep_small I hT hne (.inl z) q
  · exact rep_small I hT hne (.inr z) q
  · exact op_repT pins s σ H (.ref l) (.int k) _ _ Q I rfl ⟨t, rfl⟩ ⟨l, k, xs, rfl, rfl, SqT.of hT, hne, z, k1, lx, fun p hp => q _ _ (same_new hp) ⟨p, rfl, upd_same⟩⟩
end EnuT

namespace K03
open PySem PySem.Spec PyProof.Rows L2
def top (i : Nat) : Stmt := PySem.Challenge.pw_lightsout_k03_rows_of_houses.main.body.getD i (.Pass ⟨0, 0, 0, 0⟩)
abbrev sIsInt : Stmt := top 2
abbrev sIsSeq : Stmt := top 3
abbrev sIsName : Stmt := top 4
abbrev sChParts : Stmt := top 14
abbrev sIsDoor : Stmt := top 15
abbrev sIsCell : Stmt := top 16
abbrev sChThings : Stmt := top 17
abbrev sNumbers : Stmt := top 18
abbrev sNumOf : Stmt := top 19
abbrev sHouse : Stmt := top 21
abbrev sFirst : Stmt := top 22
abbrev sBools : Stmt := top 23
abbrev sValues : Stmt := top 24
abbrev sIsRow : Stmt := top 25
abbrev sBox : Stmt := top 27
abbrev sTake : Stmt := top 28
abbrev sPick : Stmt := top 29
abbrev sMixed : Stmt := top 30
abbrev sThings : Stmt := top 31
abbrev sDrawn : Stmt := top 32
abbrev sAsRow : Stmt := top 33
abbrev sSpoilt : Stmt := top 34
abbrev sLaw : Stmt := top 35
abbrev sInit : Stmt := inClass sHouse 0
abbrev sNumPart : Stmt := inClass sHouse 4
/-- the box at p -/
def Box (H : Hp) (p : Addr) : Prop := ∃ b0 b1 b2 : Int, H p = some (.lst [.int b0, .int b1, .int b2]) ∧ 0 ≤ b0 ∧ 0 ≤ b1 ∧ 0 ≤ b2
/-- all but the box is as it was -/
def But (p : Addr) (H H' : Hp) : Prop := ∀ b o, b ≠ p → H b = some o → H' b = some o

def spBox (K : W.Frag) : Sp := fun vs H Q _ => ∃ (a : Addr) (ns : List Int) (k : Nat), vs = [.ref a, .int k] ∧ SqL K H a (ns.map V.int) ∧ ns.length ≤ 63 ∧ k ≤ 2 ∧ (k < ns.length ∨ ns = []) ∧
  ∀ H' p, Same H H' → H p = none → Box H' p → Q (.ref p) H'
def spTake : Sp := fun vs H Q _ => ∃ (p : Addr) (m : Int), vs = [.ref p, .int m] ∧ Box H p ∧ 1 ≤ m ∧ m ≤ 1000 ∧
  ∀ (r : Int) H', 0 ≤ r → r < m → But p H H' → Box H' p → Q (.int r) H'
def spPick : Sp := fun vs H Q _ => ∃ (p q : Addr) (xs : List V), vs = [.ref p, .ref q] ∧ p ≠ q ∧ Box H p ∧ H q = some (.lst xs) ∧ 1 ≤ xs.length ∧ xs.length ≤ 1000 ∧
  ∀ x H', x ∈ xs → But p H H' → Box H' p → Q x H'

structure Nums (mg : Str → Option Value) : Prop where
  len : mg "len" = none
  abs : mg "abs" = none
  int : mg "int" = none

section
variable {P : Program} {w : World} {K : W.Frag} {mg : Str → Option Value} {base : Heap}
theorem scB : FnScope ["_law_script", "_law_k", "_law_cell"] ["_law_script", "_law_k"] (defScope sBox) := ⟨rfl, rfl, rfl, by decide +kernel, rfl, by decide +kernel, by decide +kernel⟩
theorem ok_box {f : Addr} {fd : FuncData} (F : Fun K "_law_box" "_law_box" sBox f fd) (N : Nums mg) : FnOk P w K mg base CX0 1 f fd ["_law_script", "_law_k"] (spBox K) := by
  refine F.ok scB (fun vs H Q E h => ?_) (fun cdv A outer s H vs Q E hr h => ?_)
  · obtain ⟨a, ns, k, rfl, _⟩ := h
    rfl
  · obtain ⟨a, ns, k, rfl, hS, hl, hk, hcase, q⟩ := h
    obtain ⟨t, ht, hq⟩ : ∃ t, PSs (cxOf CX0 P w K mg base ["_law_script", "_law_k", "_law_cell"] "_law_box" (defScope sBox) f cdv A outer s H E).nox ((defBody sBox).drop 2) t ∧
        ∀ c : Int, 0 ≤ c → t { nx := fun _ H' => Q .non H', rt := Q } [some (.ref a), some (.int (k : Nat)), some (.int c)] H := by
      refine ⟨_, pss_one (ps_ret (pe_lst (pa_cons (pe_ix ix_list (pe_lst (pa_cons pe_int (pa_cons (pv 2) pa_nil))) (pe_callTy call_int1 (by rfl) N.int (by decide +kernel) (pa_cons (pe_cmpR op_ge (pv 2) (pe_op op_pow pe_int pe_int) (nomark _)) pa_nil)) (fun _ _ => rfl))
        (pa_cons (pe_op op_add (pe_op op_mod (pe_callTy call_int1 (by rfl) N.int (by decide +kernel) (pa_cons (pe_op op_add (pe_op op_add (pe_op op_mul (pe_op op_mod (pe_callTy call_int1 (by rfl) N.int (by decide +kernel) (pa_cons (pv 2) pa_nil)) pe_int) pe_int) (pe_op op_mul pe_int (pv 1))) pe_int) pa_nil)) pe_int) pe_int)
        (pa_cons pe_int pa_nil))))), fun c hc => ?_⟩
      refine ⟨_, rfl, by show 2 ≤ sizeLine; decide, fun l hl => ?_⟩
      refine ⟨_, rfl, _, _, rfl, rfl, ⟨by decide, by decide, by decide⟩, _, _, rfl, rfl, ?_⟩
      refine .inr ⟨_, rfl, l, _, _, if decide ((10 : Int) ^ (18 : Int).toNat ≤ c) = true then .int c else .int 0, rfl, rfl, SqL.of upd_same, ?_, ?_⟩
      · by_cases hb : (10 : Int) ^ (18 : Int).toNat ≤ c
        · rw [decide_eq_true hb]
          rfl
        · rw [decide_eq_false hb]
          rfl
      · refine ⟨_, rfl, .inl ⟨_, rfl, ?_⟩⟩
        refine ⟨_, _, rfl, rfl, by show (0 : Int) < 2147483629; decide, _, _, rfl, rfl, .inr ⟨by decide, by decide⟩, _, rfl, _, _, rfl, rfl, .inl ⟨by decide, by decide⟩, _, _, rfl, rfl, _, _, rfl, rfl, .inl ⟨_, rfl, ?_⟩⟩
        refine ⟨_, _, rfl, rfl, by show (0 : Int) < 2147483629; decide, _, _, rfl, rfl, by show 3 ≤ sizeLine; decide, fun p hp => ?_⟩
        have npl : p ≠ l := fun z => by
          rw [z, upd_same] at hp
          cases hp
        have hp0 : H p = Option.none := by
          rw [upd_ne npl] at hp
          exact hp
        refine q _ p (fun b o e => ?_) hp0 ?_
        · rw [upd_ne (ne_of_none e hp0), upd_ne (ne_of_none e hl)]
          exact e
        · have hm : ∀ z : Int, 0 ≤ z % 2147483629 + 1 := fun z => by omega
          by_cases hb : (10 : Int) ^ (18 : Int).toNat ≤ c
          · rw [decide_eq_true hb]
            exact ⟨c, _, 0, upd_same, hc, hm _, by decide⟩
          · rw [decide_eq_false hb]
            exact ⟨0, _, 0, upd_same, by decide, hm _, by decide⟩
    refine ⟨_, pss_cons (ps_set (i := 2) scB.nd rfl (Or.inl rfl) (pe_op op_add (pe_op op_mul pe_int (pv 1)) pe_int))
      (pss_cons (ps_if (pt_cmpR op_lt (pv 1) (pe_callB call_len_seq (by rfl) N.len PySem.boot_len (pa_cons (pv 0) pa_nil)) (nomark _))
          (pss_one (ps_set (i := 2) scB.nd rfl (Or.inl rfl) (pe_callB call_abs (by rfl) N.abs (by decide +kernel) (pa_cons (pe_ix ix_list (pv 0) (pv 1) (fun _ _ => rfl)) pa_nil))))
          (pss_one (ps_if (pt_cmpR op_gt (pe_callB call_len_seq (by rfl) N.len PySem.boot_len (pa_cons (pv 0) pa_nil)) pe_int (nomark _)) (pss_one ps_never) pss_nil)))
      ht), ?_⟩
    refine ⟨_, rfl, _, _, rfl, rfl, .inl ⟨by decide, by decide⟩, _, _, rfl, rfl, ?_⟩
    refine ⟨_, rfl, _, rfl, a, _, rfl, .inl hS, _, _, rfl, rfl, _, rfl, ?_⟩
    refine ite2 (fun hb => ?_) (fun hb => ?_)
    · have hb2 := of_decide_eq_true hb
      rw [List.length_map] at hb2
      have hb3 : k < ns.length := by omega
      refine ⟨_, rfl, _, rfl, a, _, _, V.int ns[k], rfl, rfl, hS, atI_nat (by simp [hb3]), _, rfl, hq _ ?_⟩
      by_cases hn : ns[k] < 0
      · rw [if_pos hn]
        omega
      · rw [if_neg hn]
        omega
    · have hb2 : ¬ ((k : Int) < ((ns.map V.int).length : Nat)) := fun z => hb (decide_eq_true z)
      rw [List.length_map] at hb2
      have hn : ns = [] := by
        rcases hcase with z | z
        · omega
        · exact z
      subst hn
      refine ⟨_, rfl, a, _, rfl, .inl hS, _, _, rfl, rfl, _, rfl, ?_⟩
      refine iteF (hq _ ?_)
      show 0 ≤ 6947 * (k : Int) + 52361
      omega
theorem scT : FnScope ["_law_box_here", "_law_many", "_law_digit", "_law_raw"] ["_law_box_here", "_law_many"] (defScope sTake) := ⟨rfl, rfl, rfl, by decide +kernel, rfl, by decide +kernel, by decide +kernel⟩
theorem ok_take {f : Addr} {fd : FuncData} (F : Fun K "_law_take" "_law_take" sTake f fd) (N : Nums mg) : FnOk P w K mg base CX0 1 f fd ["_law_box_here", "_law_many"] spTake := by
  refine F.ok scT (fun vs H Q E h => ?_) (fun cdv A outer s H vs Q E hr h => ?_)
  · obtain ⟨p, m, rfl, _⟩ := h
    rfl
  · obtain ⟨p, m, rfl, ⟨b0, b1, b2, hB, n0, n1, n2⟩, m1, m2, q⟩ := h
    refine ⟨_, pss_cons (ps_if (pt_cmpR op_gt (pe_ix ix_list (pv 0) pe_int (fun _ _ => rfl)) pe_int (nomark _))
        (pss_cons (ps_set (i := 2) scT.nd rfl (Or.inl rfl) (pe_op op_mod (pe_callTy call_int1 (by rfl) N.int (by decide +kernel) (pa_cons (pe_ix ix_list (pv 0) pe_int (fun _ _ => rfl)) pa_nil)) (pv 1)))
        (pss_cons (ps_asg (pe_op op_fdiv (pe_ix ix_list (pv 0) pe_int (fun _ _ => rfl)) (pv 1)) (pg_sub (pv 0) pe_int set_list))
        (pss_one (ps_ret (pv 2))))) pss_nil)
      (pss_cons (ps_asg (pe_op op_add (pe_ix ix_list (pv 0) pe_int (fun _ _ => rfl)) pe_int) (pg_sub (pv 0) pe_int set_list))
      (pss_cons (ps_set (i := 3) scT.nd rfl (Or.inl rfl) (pe_op op_mod (pe_callTy call_int1 (by rfl) N.int (by decide +kernel) (pa_cons (pe_op op_add (pe_op op_mul (pe_op op_add (pe_ix ix_list (pv 0) pe_int (fun _ _ => rfl)) (pe_op op_mul pe_int (pe_ix ix_list (pv 0) pe_int (fun _ _ => rfl)))) pe_int) pe_int) pa_nil)) pe_int))
      (pss_cons (ps_asg (pe_op op_add (pe_op op_mod (pe_callTy call_int1 (by rfl) N.int (by decide +kernel) (pa_cons (pe_op op_add (pe_op op_mul (pv 3) pe_int) pe_int) pa_nil)) pe_int) pe_int) (pg_sub (pv 0) pe_int set_list))
      (pss_one (ps_ret (pe_op op_mod (pe_callTy call_int1 (by rfl) N.int (by decide +kernel) (pa_cons (pe_op op_fdiv (pe_op op_add (pe_op op_mul (pv 3) pe_int) (pe_ix ix_list (pv 0) pe_int (fun _ _ => rfl))) pe_int) pa_nil)) (pv 1)))))))
      , ?_⟩
    refine ⟨_, rfl, p, _, _, V.int b0, rfl, rfl, SqL.of hB, atI_nat (j := 0) rfl, _, _, rfl, rfl, _, rfl, ?_⟩
    refine ite2 (fun hb => ?_) (fun hb => ?_)
    · refine ⟨_, rfl, p, _, _, V.int b0, rfl, rfl, SqL.of hB, atI_nat (j := 0) rfl, .inl ⟨_, rfl, _, rfl, _, _, rfl, rfl, by show 0 < m; omega, ?_⟩⟩
      refine ⟨_, rfl, p, _, _, V.int b0, rfl, rfl, SqL.of hB, atI_nat (j := 0) rfl, _, rfl, _, _, rfl, rfl, ⟨by show 0 < m; omega, by show m < 1073741824; omega⟩, ?_⟩
      refine ⟨_, rfl, p, _, _, 0, rfl, rfl, hB, rfl, ?_⟩
      refine ⟨_, rfl, q (b0 % m) _ (Int.emod_nonneg _ (by omega)) (Int.emod_lt_of_pos _ (by omega)) (fun b o ne e => ?_) ⟨b0 / m, b1, b2, upd_same, Int.ediv_nonneg n0 (by omega), n1, n2⟩⟩
      rw [upd_ne ne]
      exact e
    · refine ⟨_, rfl, p, _, _, V.int b2, rfl, rfl, SqL.of hB, atI_nat (j := 2) rfl, _, _, rfl, rfl, _, rfl, p, _, _, 2, rfl, rfl, hB, rfl, ?_⟩
      refine ⟨_, rfl, p, _, _, V.int b1, rfl, rfl, SqL.of upd_same, atI_nat (j := 1) rfl, _, rfl, p, _, _, V.int (b2 + 1), rfl, rfl, SqL.of upd_same, atI_nat (j := 2) rfl, _, _, rfl, rfl, .inl ⟨by decide, by decide⟩, _, _, rfl, rfl,
        _, _, rfl, rfl, .inr ⟨by decide, by decide⟩, _, _, rfl, rfl, .inl ⟨_, rfl, _, _, rfl, rfl, by show (0 : Int) < 2147483563; decide, ?_⟩⟩
      refine ⟨_, rfl, _, _, rfl, rfl, .inr ⟨by decide, by decide⟩, _, _, rfl, rfl, .inl ⟨_, rfl, _, _, rfl, rfl, by show (0 : Int) < 2147483629; decide, _, _, rfl, rfl, _, rfl, p, _, _, 1, rfl, rfl, upd_same, rfl, ?_⟩⟩
      refine ⟨_, rfl, _, _, rfl, rfl, .inr ⟨by decide, by decide⟩, _, rfl, p, _, _, V.int _, rfl, rfl, SqL.of upd_same, atI_nat (j := 1) rfl, _, _, rfl, rfl, _, _, rfl, rfl, ⟨by decide, by decide⟩, .inl ⟨_, rfl, _, rfl, _, _, rfl, rfl, by show 0 < m; omega, ?_⟩⟩
      refine q _ _ (Int.emod_nonneg _ (by omega)) (Int.emod_lt_of_pos _ (by omega)) (fun b o ne e => ?_) ⟨b0, _, b2 + 1, upd_same, n0, ?_, by omega⟩
      · rw [upd_ne ne, upd_ne ne]
        exact e
      · have hm : ∀ z : Int, 0 ≤ z % 2147483629 + 1 := fun z => by omega
        exact hm _
theorem scP : FnScope ["_law_box_here", "_law_some"] ["_law_box_here", "_law_some"] (defScope sPick) := ⟨rfl, rfl, rfl, by decide +kernel, rfl, by decide +kernel, by decide +kernel⟩
theorem ok_pick {f fT : Addr} {fd fdT : FuncData} (F : Fun K "_law_pick" "_law_pick" sPick f fd) (N : Nums mg) (FT : Fun K "_law_take" "_law_take" sTake fT fdT) (bT : Binds K fdT ["_law_box_here", "_law_many"] []) (mT : mg "_law_take" = some (.ref fT)) :
    FnOk P w K mg base CX0 2 f fd ["_law_box_here", "_law_some"] spPick := by
  have GT : FnOk P w K mg base CX0 1 fT fdT ["_law_box_here", "_law_many"] spTake := ok_take FT N
  refine F.ok scP (fun vs H Q E h => ?_) (fun cdv A outer s H vs Q E hr h => ?_)
  · obtain ⟨p, q, xs, rfl, _⟩ := h
    rfl
  · obtain ⟨p, l, xs, rfl, ne, hB, hL, l1, l2, q⟩ := h
    refine ⟨_, pss_one (ps_ret (pe_ix ix_list (pv 1) (pe_call GT hr rfl mT FT.kp bT .nil pass0 (pa_cons (pv 0) (pa_cons (pe_callB call_len_seq (by rfl) N.len PySem.boot_len (pa_cons (pv 1) pa_nil)) pa_nil))) (fun _ _ => rfl))), ?_⟩
    refine ⟨_, rfl, _, rfl, _, rfl, l, _, rfl, .inl (SqL.of hL), p, _, rfl, hB, by omega, by omega, fun r H' r0 r1 but hB' => ?_⟩
    obtain ⟨j, rfl⟩ : ∃ j : Nat, r = (j : Int) := ⟨r.toNat, by omega⟩
    have hj : j < xs.length := by omega
    refine ⟨l, xs, _, xs[j], rfl, rfl, SqL.of (but _ _ (Ne.symm ne) hL), atI_nat (by simp [hj]), ?_⟩
    exact q _ _ (List.getElem_mem hj) but hB'
end
end K03

namespace K03
open PySem PySem.Spec PyProof.Rows L2
open Cal EnuT

/-- a def by its name in the module -/
def Callee (P : Program) (w : World) (K : W.Frag) (mg : Str → Option Value) (base : Heap) (x : Str) (k : Nat) (ps : List Str) (sp : Sp) : Prop :=
  ∃ f fd, mg x = some (.ref f) ∧ W.keepIn K (.ref f) = true ∧ Binds K fd ps [] ∧ FnOk P w K mg base CX0 k f fd ps sp
theorem pe_callee {X : Cx} {x : Str} {k : Nat} {ps : List Str} {sp : Sp} {p pos : Pos} {e : Expr} {es : List Expr} {t : TA} (c : Callee X.prog X.w X.K X.mg X.base x k ps sp) (hr : Room k X.A) (hg : Gl X x) (ha : PA X (e :: es) t)
    (hdb : (x == ("__debug__" : Str)) = false := by decide) (he : starEach (e :: es) X.env = (false, eval e X.env) :: starEach es X.env := by rfl) (hpl : (backTo pos (starEach es X.env)).any (·.1) = false := by rfl) :
    PE X (.Call (.Name x p) (e :: es) [] pos) (tCall sp [] E0 t) := by
  obtain ⟨f, fd, m, kp, b, F⟩ := c
  exact pe_call F hr hg m kp b .nil pass0 ha hdb he hpl
theorem But.of_same {p : Addr} {H H' : Hp} (s : Same H H') : But p H H' := fun b o _ e => s b o e
theorem But.same {p : Addr} {H0 H H' : Hp} (b : But p H H') (s : Same H0 H) (n : H0 p = none) : Same H0 H' := fun c o e => b c o (fun z => by
  rw [z, n] at e
  cases e) (s c o e)
theorem But.trans {p : Addr} {H H1 H2 : Hp} (a : But p H H1) (b : But p H1 H2) : But p H H2 := fun c o ne e => b c o ne (a c o ne e)
theorem Box.same {p : Addr} {H H' : Hp} (b : Box H p) (s : Same H H') : Box H' p := by
  obtain ⟨b0, b1, b2, e, h⟩ := b
  exact ⟨b0, b1, b2, s _ _ e, h⟩
theorem Box.ne {p b : Addr} {H : Hp} {o : HO} (x : Box H p) (e : H b = some o) (h : ∀ b0 b1 b2 : Int, o ≠ .lst [.int b0, .int b1, .int b2]) : b ≠ p := by
  obtain ⟨b0, b1, b2, at_p, _⟩ := x
  exact ne_of e at_p (h b0 b1 b2)
theorem Box.same' {p a b : Addr} {H : Hp} {o u : HO} (x : Box H p) (hb : b ≠ p) (ha : a ≠ p) : Box (upd (upd H a o) b u) p := by
  obtain ⟨b0, b1, b2, e, h⟩ := x
  exact ⟨b0, b1, b2, by rw [upd_ne (Ne.symm hb), upd_ne (Ne.symm ha)]; exact e, h⟩
theorem map_eraseIdx {α β : Type} (f : α → β) : ∀ (xs : List α) (j : Nat), (xs.map f).eraseIdx j = (xs.eraseIdx j).map f
  | [], _ => rfl
  | _ :: _, 0 => rfl
  | x :: xs, j + 1 => by simp [map_eraseIdx f xs j]
theorem erase_perm {α : Type} : ∀ (l : List α) (j : Nat) (h : j < l.length), (l[j] :: l.eraseIdx j).Perm l
  | x :: xs, 0, _ => .refl _
  | x :: xs, j + 1, h => by
    have h1 : j < xs.length := by simpa using h
    show (xs[j] :: x :: xs.eraseIdx j).Perm (x :: xs)
    exact (List.Perm.swap x xs[j] _).trans ((erase_perm xs j h1).cons x)
theorem same_upd {H : Hp} {l : Addr} {o : HO} (n : H l = none) : Same H (upd H l o) := fun b u e => by
  rw [upd_ne (ne_of_none e n)]
  exact e
theorem none_of_upd {H : Hp} {a b : Addr} {o : HO} (h : upd H a o b = none) : H b = none ∧ a ≠ b := by
  by_cases z : b = a
  · rw [z, upd_same] at h
    cases h
  · rw [upd_ne z] at h
    exact ⟨h, Ne.symm z⟩

/-! ### what the module has of none -/
structure Bl (mg : Str → Option Value) : Prop where
  nums : Nums mg
  range : mg "range" = none
  list : mg "list" = none
  tuple : mg "tuple" = none
  isi : mg "isinstance" = none
  enu : mg "enumerate" = none
  str : mg "str" = none
  bool : mg "bool" = none
  all : mg "all" = none
  repr : mg "repr" = none
  max : mg "max" = none
  min : mg "min" = none

/-! ### mixed -/
def spMixed : Sp := fun vs H Q _ => ∃ (p q : Addr) (xs : List Str), vs = [.ref p, .ref q] ∧ Box H p ∧ H q = some (.lst (xs.map V.str)) ∧ xs.length ≤ 100 ∧ (∀ x, x ∈ xs → PyData.strOk x = true) ∧
  ∀ (ys : List Str) H' l, ys.Perm xs → But p H H' → Box H' p → H l = none → H' l = some (.lst (ys.map V.str)) → Q (.ref l) H'
theorem dps_str {K : W.Frag} {H : Hp} : ∀ xs : List Str, DpAll K H (xs.map V.str) (xs.map PyData.str)
  | [] => .nil
  | _ :: xs => .cons (.str _) (dps_str xs)
theorem canLay_strs : ∀ xs : List Str, (∀ x, x ∈ xs → PyData.strOk x = true) → PyData.canLayAll0 (xs.map PyData.str) = true
  | [], _ => by simp [PyData.canLayAll0]
  | x :: xs, h => by
    have h1 := canLay_strs xs fun y hy => h y (List.mem_cons_of_mem _ hy)
    have h2 := h x (List.mem_cons_self ..)
    simp [PyData.canLayAll0, PyData.canLay0, h1, h2]
theorem depth_strs : ∀ xs : List Str, PyData.depthAll (xs.map PyData.str) ≤ 1
  | [] => by simp [PyData.depthAll]
  | x :: xs => by
    have := depth_strs xs
    simp [PyData.depthAll, PyData.depth]
    omega
theorem shaped_strs (xs : List Str) (h : ∀ x, x ∈ xs → PyData.strOk x = true) : SeqAt.shaped (.list (xs.map PyData.str)) = true := by
  have := depth_strs xs
  simp [SeqAt.shaped, PyData.canLay0, canLay_strs xs h, PyData.depth]
  omega
def lenAt (a : Addr) (H : Hp) : Nat := match H a with
  | some (.lst xs) => xs.length
  | _ => 0
section
variable {P : Program} {w : World} {K : W.Frag} {mg : Str → Option Value} {base : Heap}
theorem scM : FnScope ["_law_box_here", "_law_some", "_law_left", "_law_found"] ["_law_box_here", "_law_some"] (defScope sMixed) := ⟨rfl, rfl, rfl, by decide +kernel, rfl, by decide +kernel, by decide +kernel⟩
theorem ok_mixed {f : Addr} {fd : FuncData} (F : Fun K "_law_mixed" "_law_mixed" sMixed f fd) (B : Bl mg) (T : Callee P w K mg base "_law_take" 1 ["_law_box_here", "_law_many"] spTake) :
    FnOk P w K mg base CX0 2 f fd ["_law_box_here", "_law_some"] spMixed := by
  refine F.ok scM (fun vs H Q E h => ?_) (fun cdv A outer s H vs Q E hr h => ?_)
  · obtain ⟨p, q, xs, rfl, _⟩ := h
    rfl
  · obtain ⟨p, q, xs, rfl, hB, hq, few, ok, k⟩ := h
    have un := hr.units
    refine ⟨_, pss_cons (ps_par (i := 2) (j := 3) (by rfl) scM.nd rfl rfl (by decide) rfl rfl (pa_cons (pe_callTy call_list_of (by rfl) B.list (by decide +kernel) (pa_cons (pv 1) pa_nil)) (pa_cons (pe_lst pa_nil) pa_nil)) (by rfl))
      (pss_cons (ps_while PassesOwn.never (pt_cmpR (op_neD un) (pv 2) (pe_lst pa_nil) (nomark _))
        (pss_one (ps_expr (pe_bm PySem.F.plainAttrs_list PySem.F.slot_list_append PySem.F.type_list_append mt_append (pv 3)
          (pa_cons (pe_bm PySem.F.plainAttrs_list PySem.F.slot_list_pop PySem.F.type_list_pop mt_popAt (pv 2) (pa_cons (pe_callee T (hr.mono (by decide)) rfl (pa_cons (pv 0) (pa_cons (pe_callB call_len_seq (by rfl) B.nums.len PySem.boot_len (pa_cons (pv 2) pa_nil)) pa_nil))) pa_nil)) pa_nil)))))
      (pss_one (ps_ret (pv 3)))), ?_⟩
    refine ⟨_, rfl, q, _, rfl, .inl (SqL.of hq), fun a na => ⟨Nat.zero_le _, fun b nb => ⟨_, _, rfl, ?_⟩⟩⟩
    obtain ⟨nb0, ab⟩ := none_of_upd nb
    have ap : a ≠ p := fun z => by
      obtain ⟨b0, b1, b2, e, _⟩ := hB
      rw [z, e] at na
      cases na
    have bp : b ≠ p := fun z => by
      obtain ⟨b0, b1, b2, e, _⟩ := hB
      rw [z, e] at nb0
      cases nb0
    have s0 : Same H (upd (upd H a (.lst (xs.map V.str))) b (.lst [])) := (same_upd na).trans (same_upd nb)
    refine while_by (fun σ H' => ∃ ls fs : List Str, σ = [some (.ref p), some (.ref q), some (.ref a), some (.ref b)] ∧ (∀ c o, c ≠ p → H c = some o → H' c = some o) ∧ Box H' p ∧ H' a = some (.lst (ls.map V.str)) ∧
      H' b = some (.lst (fs.map V.str)) ∧ (ls ++ fs).Perm xs) (fun _ H' => lenAt a H') ⟨xs, [], rfl, fun c o _ e => s0 _ _ e, hB.same s0, by rw [upd_ne ab]; exact upd_same, upd_same, by rw [List.append_nil]⟩ ?_ ?_
    · rintro σ H1 ⟨ls, fs, rfl, keep, x1, at_a, at_b, perm⟩
      refine ⟨_, rfl, Nat.zero_le _, fun l nl => ?_⟩
      have s1 : Same H1 (upd H1 l (.lst [])) := same_upd nl
      refine ⟨.list (ls.map PyData.str), .list [], .lst (SqL.of (s1 _ _ at_a)) (dps_str ls), .lst (SqL.of upd_same) .nil, shaped_strs ls (fun x hx => ok x (perm.subset (List.mem_append_left _ hx))), rfl, _, rfl, ?_⟩
      cases ls with
      | nil =>
        refine iteF ?_
        refine ⟨_, rfl, k fs _ b (by simpa using perm) (fun c o ne e => s1 _ _ (keep c o ne e)) (x1.same s1) nb0 (s1 _ _ at_b)⟩
      | cons y ls =>
        refine iteT ?_
        have len : (y :: ls).length + fs.length = xs.length := by rw [← List.length_append]; exact perm.length_eq
        refine ⟨_, rfl, .inl ⟨rfl, _, SqL.of (s1 _ _ at_b)⟩, ?_⟩
        refine ⟨_, rfl, .inl ⟨rfl, _, SqL.of (s1 _ _ at_a)⟩, ?_⟩
        refine ⟨_, rfl, _, rfl, a, _, rfl, .inl (SqL.of (s1 _ _ at_a)), ?_⟩
        refine ⟨p, _, rfl, x1.same s1, by simp; omega, by simp at len ⊢; omega, fun r H3 r0 r1 but3 x3 => ?_⟩
        obtain ⟨j, rfl⟩ : ∃ j : Nat, r = (j : Int) := ⟨r.toNat, by omega⟩
        have hj : j < (y :: ls).length := by simp at r1 ⊢; omega
        have at_a3 : H3 a = some (.lst ((y :: ls).map V.str)) := but3 _ _ ap (s1 _ _ at_a)
        have at_b3 : H3 b = some (.lst (fs.map V.str)) := but3 _ _ bp (s1 _ _ at_b)
        refine ⟨a, _, _, j, V.str (y :: ls)[j], rfl, rfl, at_a3, by omega, by simp at hj len; omega, ?_, ?_, ?_⟩
        · have z := seqIndex_of (k := (j : Int)) (n := ((y :: ls).map V.str).length) (by omega) (by simp at hj ⊢; omega)
          simpa using z
        · rw [List.getElem?_map, List.getElem?_eq_getElem hj]
          rfl
        · refine ⟨b, _, _, rfl, rfl, (upd_ne (Ne.symm ab)).trans at_b3, ?_, ?_⟩
          · have : (100 : Nat) ≤ sizeLine := by decide
            rw [List.length_map]
            simp at len
            omega
          · refine ⟨⟨(y :: ls).eraseIdx j, fs ++ [(y :: ls)[j]], rfl, fun c o ne e => ?_, x3.same' ?_ ?_, ?_, ?_, ?_⟩, ?_⟩
            · have e3 := but3 c o ne (s1 _ _ (keep c o ne e))
              rw [upd_ne (fun z => by rw [z] at e; rw [nb0] at e; cases e), upd_ne (fun z => by rw [z] at e; rw [na] at e; cases e)]
              exact e3
            · exact bp
            · exact ap
            · rw [upd_ne ab, upd_same, map_eraseIdx]
            · rw [upd_same]
              simp
            · have e1 : ((y :: ls).eraseIdx j ++ (fs ++ [(y :: ls)[j]])).Perm ((y :: ls)[j] :: ((y :: ls).eraseIdx j ++ fs)) := by
                rw [← List.append_assoc]
                exact List.perm_append_singleton _ _
              have e2 : ((y :: ls)[j] :: ((y :: ls).eraseIdx j ++ fs)).Perm ((y :: ls) ++ fs) := (erase_perm (y :: ls) j hj).append_right fs
              exact (e1.trans e2).trans perm
            · have e1 : lenAt a (upd (upd H3 a (.lst ((List.map V.str (y :: ls)).eraseIdx j))) b (.lst (List.map V.str fs ++ [V.str (y :: ls)[j]]))) = ((List.map V.str (y :: ls)).eraseIdx j).length := by
                unfold lenAt
                rw [upd_ne ab, upd_same]
              have e2 : lenAt a H1 = (y :: ls).length := by
                unfold lenAt
                rw [at_a]
                simp
              show lenAt a _ < lenAt a H1
              rw [e1, e2, List.length_eraseIdx, List.length_map, if_pos hj]
              simp
    · rintro σ H1 Q1 Q2 m ⟨v, hv, h1, h2⟩
      refine ⟨v, hv, h1, fun l hl => ?_⟩
      obtain ⟨d, e, a1, a2, a3, a4, c, hc, q⟩ := h2 l hl
      exact ⟨d, e, a1, a2, a3, a4, c, hc, m _ _ q⟩
end
end K03

namespace K03
open PySem PySem.Spec PyProof.Rows L2
open Cal EnuT

def N16 : List Str := ["a", "hall", "loft", "b", "cellar", "yard", "c", "d", "gate", "e", "stair", "pad", "f", "g", "slot", "hh"]
structure Door where
  n : Str
  one : Str
  two : Str
  op : Bool
structure Cell where
  n : Str
  p : Str
  k : Bool
structure Hs where
  parts : List Str
  doors : List Door
  cells : List Cell
def Hs.names (h : Hs) : List Str := h.parts ++ (h.doors.map (·.n) ++ h.cells.map (·.n))
def EndIn (ps : List Str) (x : Str) : Prop := x = "out" ∨ x ∈ ps
structure Good (h : Hs) : Prop where
  p1 : 1 ≤ h.parts.length
  p4 : h.parts.length ≤ 4
  d5 : h.doors.length ≤ 5
  c3 : h.cells.length ≤ 3
  nodup : h.names.Nodup
  sub : ∀ x, x ∈ h.names → x ∈ N16
  ends : ∀ d, d ∈ h.doors → EndIn h.parts d.one ∧ EndIn h.parts d.two ∧ d.one ≠ d.two
  cin : ∀ c, c ∈ h.cells → c.p ∈ h.parts
def dvs (d : Door) : List V := [.str d.n, .str d.one, .str d.two, .bl d.op]
def cvs (c : Cell) : List V := [.str c.n, .str c.p, .bl c.k]
def DoorAt (H : Hp) (v : V) (d : Door) : Prop := ∃ t, v = .ref t ∧ H t = some (.tup (dvs d))
def CellAt (H : Hp) (v : V) (c : Cell) : Prop := ∃ t, v = .ref t ∧ H t = some (.tup (cvs c))
structure HsAt (H : Hp) (h : Hs) (a b c : Addr) : Prop where
  pa : H a = some (.lst (h.parts.map V.str))
  da : ∃ vs, H b = some (.lst vs) ∧ Paired (DoorAt H) vs h.doors
  ca : ∃ vs, H c = some (.lst vs) ∧ Paired (CellAt H) vs h.cells
theorem DoorAt.mono {H H' : Hp} {v : V} {d : Door} (x : DoorAt H v d) (f : ∀ t, H t = some (.tup (dvs d)) → H' t = some (.tup (dvs d))) : DoorAt H' v d := by
  obtain ⟨t, rfl, e⟩ := x
  exact ⟨t, rfl, f t e⟩
theorem CellAt.mono {H H' : Hp} {v : V} {d : Cell} (x : CellAt H v d) (f : ∀ t, H t = some (.tup (cvs d)) → H' t = some (.tup (cvs d))) : CellAt H' v d := by
  obtain ⟨t, rfl, e⟩ := x
  exact ⟨t, rfl, f t e⟩
theorem paired_mono {α β : Type} {R S : α → β → Prop} (f : ∀ a b, R a b → S a b) : ∀ {xs : List α} {ys : List β}, Paired R xs ys → Paired S xs ys
  | _, _, .nil => .nil
  | _, _, .cons r t => .cons (f _ _ r) (paired_mono f t)
theorem paired_snoc {α β : Type} {R : α → β → Prop} : ∀ {xs : List α} {ys : List β} {a : α} {b : β}, Paired R xs ys → R a b → Paired R (xs ++ [a]) (ys ++ [b])
  | _, _, _, _, .nil, h => .cons h .nil
  | _, _, _, _, .cons r t, h => .cons r (paired_snoc t h)
theorem paired_len {α β : Type} {R : α → β → Prop} : ∀ {xs : List α} {ys : List β}, Paired R xs ys → xs.length = ys.length
  | _, _, .nil => rfl
  | _, _, .cons _ t => by simp [paired_len t]

theorem But.free {p a : Addr} {H H' : Hp} (b : But p H H') (x : Box H' p) (n : H' a = none) : H a = none := by
  cases e : H a with
  | none => rfl
  | some o =>
    have ne : a ≠ p := fun z => by
      obtain ⟨b0, b1, b2, eb, _⟩ := x
      rw [← z, n] at eb
      cases eb
    have := b _ _ ne e
    rw [n] at this
    cases this
theorem cut_take (xs : List Str) (k : Nat) (h : k ≤ xs.length) : cutV (xs.map V.str) none (some ((k : Nat) : Int)) = (xs.take k).map V.str := by
  unfold cutV HT.sIx
  simp only [List.length_map]
  rw [if_neg (by omega)]
  simp [Nat.min_eq_left h, List.map_take]
theorem cut_drop (xs : List Str) (k : Nat) (h : k ≤ xs.length) : cutV (xs.map V.str) (some ((k : Nat) : Int)) none = (xs.drop k).map V.str := by
  unfold cutV HT.sIx
  simp only [List.length_map]
  rw [if_neg (by omega)]
  rw [Int.toNat_natCast, Nat.min_eq_left h, List.map_drop, List.take_of_length_le]
  simp
theorem strs_box (xs : List Str) (b0 b1 b2 : Int) : HO.lst (xs.map V.str) ≠ .lst [.int b0, .int b1, .int b2] := by
  intro z
  injection z with z
  match xs, z with
  | [], z => cases z
  | _ :: _, z =>
    simp only [List.map_cons, List.cons.injEq] at z
    exact nomatch z.1
theorem doors_box {H : Hp} {vs : List V} {ds : List Door} (h : Paired (DoorAt H) vs ds) (b0 b1 b2 : Int) : HO.lst vs ≠ .lst [.int b0, .int b1, .int b2] := by
  intro z
  injection z with z
  match vs, ds, h, z with
  | [], _, _, z => cases z
  | v :: _, _, .cons r _, z =>
    obtain ⟨t, rfl, _⟩ := r
    simp only [List.cons.injEq] at z
    exact nomatch z.1
theorem cells_box {H : Hp} {vs : List V} {ds : List Cell} (h : Paired (CellAt H) vs ds) (b0 b1 b2 : Int) : HO.lst vs ≠ .lst [.int b0, .int b1, .int b2] := by
  intro z
  injection z with z
  match vs, ds, h, z with
  | [], _, _, z => cases z
  | v :: _, _, .cons r _, z =>
    obtain ⟨t, rfl, _⟩ := r
    simp only [List.cons.injEq] at z
    exact nomatch z.1
/-- what _law_things has made so far -/
structure Th (H0 H : Hp) (p m q e dd : Addr) (ps R : List Str) (i : Nat) (ds : List Door) : Prop where
  but : But p H0 H
  box : Box H p
  at_m : H m = some (.lst ((R.drop i).reverse.map V.str))
  at_q : H q = some (.lst (ps.map V.str))
  at_e : H e = some (.lst (.str "out" :: .str "out" :: ps.map V.str))
  at_d : ∃ vs, H dd = some (.lst vs) ∧ Paired (DoorAt H) vs ds
  mq : m ≠ q
  me : m ≠ e
  md : m ≠ dd
  qd : q ≠ dd
  ed : e ≠ dd
section
variable {H0 H H' : Hp} {p m q e dd : Addr} {ps R : List Str} {i : Nat} {ds : List Door}
theorem Th.go (t : Th H0 H p m q e dd ps R i ds) (b : But p H H') (x : Box H' p) : Th H0 H' p m q e dd ps R i ds := by
  obtain ⟨vs, hv, pv⟩ := t.at_d
  exact { t with
    but := t.but.trans b
    box := x
    at_m := b _ _ (t.box.ne t.at_m (strs_box _)) t.at_m
    at_q := b _ _ (t.box.ne t.at_q (strs_box _)) t.at_q
    at_e := b _ _ (t.box.ne t.at_e (fun _ _ _ z => by cases z)) t.at_e
    at_d := ⟨vs, b _ _ (t.box.ne hv (doors_box pv)) hv, paired_mono (fun _ _ r => r.mono fun c ec => b _ _ (t.box.ne ec (fun _ _ _ z => by cases z)) ec) pv⟩ }
theorem Th.same (t : Th H0 H p m q e dd ps R i ds) (b : Same H H') : Th H0 H' p m q e dd ps R i ds := t.go (But.of_same b) (t.box.same b)
end
def Chosen (ps : List Str) (d : Door) : Prop := EndIn ps d.one ∧ EndIn ps d.two ∧ d.one ≠ d.two
theorem out_not : ("out" : Str) ∉ N16 := by decide +kernel
theorem of_ends {ps : List Str} {v : V} (h : v ∈ V.str "out" :: V.str "out" :: ps.map V.str) : ∃ x, v = .str x ∧ EndIn ps x := by
  rcases List.mem_cons.mp h with z | z
  · exact ⟨_, z, .inl rfl⟩
  · rcases List.mem_cons.mp z with z | z
    · exact ⟨_, z, .inl rfl⟩
    · obtain ⟨x, hx, rfl⟩ := List.mem_map.mp z
      exact ⟨x, rfl, .inr hx⟩
theorem pop_last {R : List Str} {i : Nat} (h : i < R.length) : ((R.drop i).reverse.map V.str)[((R.drop i).reverse.map V.str).length - 1]? = some (.str R[i]) ∧ ((R.drop i).reverse.map V.str).dropLast = (R.drop (i + 1)).reverse.map V.str := by
  have e : (R.drop i).reverse.map V.str = ((R.drop (i + 1)).reverse.map V.str) ++ [.str R[i]] := by
    rw [List.drop_eq_getElem_cons h, List.reverse_cons, List.map_append]
    rfl
  rw [e]
  generalize (R.drop (i + 1)).reverse.map V.str = L
  refine ⟨?_, List.dropLast_concat⟩
  rw [List.length_append]
  simp

section
variable {H0 H H' : Hp} {p m q e dd : Addr} {ps R : List Str} {i : Nat} {ds : List Door}
theorem Th.mp (t : Th H0 H p m q e dd ps R i ds) : m ≠ p := t.box.ne t.at_m (strs_box _)
theorem Th.dp (t : Th H0 H p m q e dd ps R i ds) : dd ≠ p := by
  obtain ⟨vs, hv, pv⟩ := t.at_d
  exact t.box.ne hv (doors_box pv)
theorem Th.pop (t : Th H0 H p m q e dd ps R i ds) (n0 : H0 m = none) : Th H0 (upd H m (.lst ((R.drop (i + 1)).reverse.map V.str))) p m q e dd ps R (i + 1) ds := by
  obtain ⟨vs, hv, pv⟩ := t.at_d
  obtain ⟨b0, b1, b2, eb, hb⟩ := t.box
  exact { t with
    but := fun c o ne e => by
      rw [upd_ne (fun z => by rw [z, n0] at e; cases e)]
      exact t.but c o ne e
    box := ⟨b0, b1, b2, by rw [upd_ne (Ne.symm t.mp)]; exact eb, hb⟩
    at_m := upd_same
    at_q := by rw [upd_ne (Ne.symm t.mq)]; exact t.at_q
    at_e := by rw [upd_ne (Ne.symm t.me)]; exact t.at_e
    at_d := ⟨vs, by rw [upd_ne (Ne.symm t.md)]; exact hv, paired_mono (fun _ _ r => r.mono fun c ec => by rw [upd_ne (ne_of ec t.at_m (fun z => by cases z))]; exact ec) pv⟩ }
theorem Th.add (t : Th H0 H p m q e dd ps R i ds) (n0 : H0 dd = none) {vs : List V} {v : V} {d : Door} (hv : H dd = some (.lst vs)) (pv : Paired (DoorAt H) vs ds) (hd : DoorAt H v d) : Th H0 (upd H dd (.lst (vs ++ [v]))) p m q e dd ps R i (ds ++ [d]) := by
  obtain ⟨b0, b1, b2, eb, hb⟩ := t.box
  exact { t with
    but := fun c o ne e => by
      rw [upd_ne (fun z => by rw [z, n0] at e; cases e)]
      exact t.but c o ne e
    box := ⟨b0, b1, b2, by rw [upd_ne (Ne.symm t.dp)]; exact eb, hb⟩
    at_m := by rw [upd_ne t.md]; exact t.at_m
    at_q := by rw [upd_ne t.qd]; exact t.at_q
    at_e := by rw [upd_ne t.ed]; exact t.at_e
    at_d := ⟨vs ++ [v], upd_same, paired_snoc (paired_mono (fun _ _ r => r.mono fun c ec => by rw [upd_ne (ne_of ec hv (fun z => by cases z))]; exact ec) pv) (hd.mono fun c ec => by rw [upd_ne (ne_of ec hv (fun z => by cases z))]; exact ec)⟩ }
theorem door_tail {K : W.Frag} {D : Ends} {x6 : Option V} {s1 s2 : Str} (t : Th H0 H p m q e dd ps R i ds) (n0 : H0 m = none) (d0 : H0 dd = none) (iR : i < R.length) (i5 : ds.length ≤ 5) (nm : ds.map (·.n) = R.take i) (ch : ∀ d, d ∈ ds → Chosen ps d)
    (in1 : EndIn ps s1) (in2 : EndIn ps s2) (ne12 : s1 ≠ s2)
    (h : ∀ H' ds', Th H0 H' p m q e dd ps R (i + 1) ds' → ds'.map (·.n) = R.take (i + 1) → (∀ d, d ∈ ds' → Chosen ps d) → D.nx [some (.ref p), some (.int 4), some (.ref m), some (.ref q), some (.ref e), some (.ref dd), x6, some (.str s1), some (.str s2)] H') :
    tDrop (tBM K "list" rAppend (tVar 5) (tCons (tTup (tCons (tBM0 K "list" rPop (tVar 2)) (tCons (tVar 7) (tCons (tVar 8) (tCons (tOp (rI0 fun i j => V.bl (decide (j < i))) (tCall spTake [] E0 (tCons (tVar 0) (tCons (tC (V.int 3)) tNil))) (tC (V.int 0))) tNil))))) tNil))
      D [some (.ref p), some (.int 4), some (.ref m), some (.ref q), some (.ref e), some (.ref dd), x6, some (.str s1), some (.str s2)] H := by
  obtain ⟨vs, hv, pv⟩ := t.at_d
  refine ⟨_, rfl, .inl ⟨rfl, _, SqL.of hv⟩, ?_⟩
  refine ⟨_, rfl, .inl ⟨rfl, _, SqL.of t.at_m⟩, m, _, _, rfl, rfl, t.at_m, (pop_last iR).1, ?_⟩
  rw [(pop_last iR).2]
  have t1 := t.pop n0
  refine ⟨_, rfl, _, rfl, _, rfl, p, _, rfl, t1.box, by decide, by decide, fun r H2 r0 r3 but2 x2 => ⟨_, _, rfl, rfl, by show 4 ≤ sizeLine; decide, fun a na => ?_⟩⟩
  have t2 := t1.go but2 x2
  have t3 := t2.same (same_upd (o := .tup [.str R[i], .str s1, .str s2, .bl (decide (0 < r))]) na)
  obtain ⟨ws, hw, pw⟩ := t3.at_d
  have lw := paired_len pw
  have at_a : DoorAt (upd H2 a (.tup [.str R[i], .str s1, .str s2, .bl (decide (0 < r))])) (.ref a) ⟨R[i], s1, s2, decide (0 < r)⟩ := ⟨a, rfl, upd_same⟩
  refine ⟨dd, _, _, rfl, rfl, hw, ?_, h _ _ (t3.add d0 hw pw at_a) ?_ ?_⟩
  · have : (100 : Nat) ≤ sizeLine := by decide
    omega
  · rw [List.map_append, nm, List.take_succ_eq_append_getElem iR]
    rfl
  · intro d hd
    rcases List.mem_append.mp hd with z | z
    · exact ch d z
    · obtain rfl := List.mem_singleton.mp z
      exact ⟨in1, in2, ne12⟩
end

def spThings : Sp := fun vs H Q _ => ∃ p : Addr, vs = [.ref p, .int 4] ∧ Box H p ∧
  ∀ (h : Hs) H' t a b c, Good h → But p H H' → Box H' p → H t = none → H' t = some (.tup [.ref a, .ref b, .ref c]) → HsAt H' h a b c → Q (.ref t) H'

section
variable {P : Program} {w : World} {K : W.Frag} {mg : Str → Option Value} {base : Heap}
theorem scTh : FnScope ["_law_box_here", "_law_most", "_law_names", "_law_parts", "_law_ends", "_law_doors", "_law_turn", "_law_one", "_law_other"] ["_law_box_here", "_law_most"] (defScope sThings) := ⟨rfl, rfl, rfl, by decide +kernel, rfl, by decide +kernel, by decide +kernel⟩
theorem ok_things {f : Addr} {fd : FuncData} (F : Fun K "_law_things" "_law_things" sThings f fd) (B : Bl mg) (T : Callee P w K mg base "_law_take" 1 ["_law_box_here", "_law_many"] spTake)
    (M : Callee P w K mg base "_law_mixed" 2 ["_law_box_here", "_law_some"] spMixed) (Pk : Callee P w K mg base "_law_pick" 2 ["_law_box_here", "_law_some"] spPick) :
    FnOk P w K mg base CX0 3 f fd ["_law_box_here", "_law_most"] spThings := by
  refine F.ok scTh (fun vs H Q E h => ?_) (fun cdv A outer s H vs Q E hr h => ?_)
  · obtain ⟨p, rfl, _⟩ := h
    rfl
  · obtain ⟨p, rfl, hB, k⟩ := h
    have hr1 := hr.mono (show 1 ≤ 2 by decide)
    refine ⟨_, pss_cons (ps_set (i := 2) scTh.nd rfl (Or.inr rfl) (pe_callee M hr rfl (pa_cons (pv 0) (pa_cons (pe_lst (pa_cons pe_str (pa_cons pe_str (pa_cons pe_str (pa_cons pe_str (pa_cons pe_str (pa_cons pe_str (pa_cons pe_str (pa_cons pe_str
        (pa_cons pe_str (pa_cons pe_str (pa_cons pe_str (pa_cons pe_str (pa_cons pe_str (pa_cons pe_str (pa_cons pe_str (pa_cons pe_str pa_nil))))))))))))))))) pa_nil))))
      (pss_cons (ps_set (i := 3) scTh.nd rfl (Or.inr rfl) (pe_slice sl_list (pv 2) po_none (po_some (pe_op op_add pe_int (pe_callee T hr1 rfl (pa_cons (pv 0) (pa_cons (pv 1) pa_nil)))))))
      (pss_cons (ps_asg (pe_tup (pa_cons (pe_slice sl_list (pv 2) (po_some (pe_callB call_len_seq (by rfl) B.nums.len PySem.boot_len (pa_cons (pv 3) pa_nil))) po_none) (pa_cons (pe_op op_cat (pe_lst (pa_cons pe_str (pa_cons pe_str pa_nil))) (pv 3)) pa_nil)))
        (pg_tup rfl (pgs_cons (pg_name (i := 2) scTh.nd rfl (Or.inr rfl)) (pgs_cons (pg_name (i := 4) scTh.nd rfl (Or.inl rfl)) pgs_nil))))
      (pss_cons (ps_set (i := 5) scTh.nd rfl (Or.inl rfl) (pe_lst pa_nil))
      (pss_cons (ps_for PassesOwn.never rfl (pi_range1 rfl B.range (pa_cons (pe_callee T hr1 rfl (pa_cons (pv 0) (pa_cons (pe_op op_add pe_int (pv 1)) pa_nil))) pa_nil)) (pg_name (i := 6) scTh.nd rfl (Or.inl rfl))
        (pss_cons (ps_par (i := 7) (j := 8) (by rfl) scTh.nd rfl rfl (by decide) rfl rfl (pa_cons (pe_callee Pk hr rfl (pa_cons (pv 0) (pa_cons (pv 4) pa_nil))) (pa_cons (pe_callee Pk hr rfl (pa_cons (pv 0) (pa_cons (pv 4) pa_nil))) pa_nil)) (by rfl))
        (pss_cons (ps_if (pt_cmpR op_eq (pv 7) (pv 8) (nomark _)) (pss_one (ps_set (i := 8) scTh.nd rfl (Or.inl rfl) (pe_ifExp (pt_cmpR op_eq (pv 7) pe_str (nomark _)) (pe_callee Pk hr rfl (pa_cons (pv 0) (pa_cons (pv 3) pa_nil))) pe_str))) pss_nil)
        (pss_one (ps_expr (pe_bm PySem.F.plainAttrs_list PySem.F.slot_list_append PySem.F.type_list_append mt_append (pv 5)
          (pa_cons (pe_tup (pa_cons (pe_bm0 PySem.F.plainAttrs_list PySem.F.slot_list_pop PySem.F.type_list_pop mt_pop (pv 2)) (pa_cons (pv 7) (pa_cons (pv 8) (pa_cons (pe_cmpR op_gt (pe_callee T hr1 rfl (pa_cons (pv 0) (pa_cons pe_int pa_nil))) pe_int (nomark _)) pa_nil))))) pa_nil)))))))
      (pss_one (ps_ret (pe_tup (pa_cons (pv 3) (pa_cons (pv 5) (pa_cons (pe_lc (own := [("_law_turn", 6)]) (g := gName 6) (tt := tYes) (by rfl) scTh.nd (pi_range1 rfl B.range (pa_cons (pe_callee T hr1 rfl (pa_cons (pv 0) (pa_cons pe_int pa_nil))) pa_nil))
        (blkOk_by (own := [("_law_turn", 6)]) (N := ["_law_box_here", "_law_most", "_law_names", "_law_parts", "_law_ends", "_law_doors", "_law_turn", "_law_one", "_law_other"]) (sc := defScope sThings) (by decide +kernel))
        (fun _ _ _ _ _ => pg_name (i := 6) scTh.nd rfl (Or.inl rfl)) (fun _ _ _ _ _ => pts_nil)
        (fun _ _ _ _ _ => pe_tup (pa_cons (show PE _ _ (tBM0 K "list" rPop (tVar 2)) from pe_bm0 PySem.F.plainAttrs_list PySem.F.slot_list_pop PySem.F.type_list_pop mt_pop (pv 2))
          (pa_cons (pe_callee Pk hr rfl (pa_cons (pv 0) (pa_cons (pv 3) pa_nil))) (pa_cons (pe_cmpR op_eq (pe_callee T hr1 rfl (pa_cons (pv 0) (pa_cons pe_int pa_nil))) pe_int (nomark _)) pa_nil))))) pa_nil)))))))))), ?_⟩
    refine ⟨_, rfl, by show 16 ≤ sizeLine; decide, fun l nl => ⟨p, l, N16, rfl, hB.same (same_upd nl), upd_same, by decide, by decide +kernel, fun ys H1 m perm but1 x1 nm at_m => ?_⟩⟩
    have nm0 := (none_of_upd nm).1
    have b1 : But p H H1 := (But.of_same (same_upd nl)).trans but1
    have l16 : ys.length = 16 := perm.length_eq
    refine ⟨_, rfl, _, rfl, _, rfl, p, _, rfl, x1, by decide, by decide, fun r H2 r0 r4 but2 x2 => ?_⟩
    have mp : m ≠ p := fun z => by
      obtain ⟨b0, b1, b2, e, _⟩ := hB
      rw [z, e] at nm0
      cases nm0
    have at_m2 := but2 _ _ mp at_m
    refine ⟨_, _, rfl, rfl, _, rfl, m, _, rfl, SqL.of at_m2, fun q nq => ?_⟩
    obtain ⟨j, rfl⟩ : ∃ j : Nat, r = (j : Int) := ⟨r.toNat, by omega⟩
    have hj : 1 + j ≤ ys.length := by omega
    have c1 : cutV (List.map V.str ys) none (some (1 + (j : Int))) = (ys.take (1 + j)).map V.str := by
      have := cut_take ys (1 + j) hj
      rw [← this]
      congr 2
    have lp : (ys.take (1 + j)).length = 1 + j := by rw [List.length_take]; omega
    rw [c1]
    have at_q3 : upd H2 q (.lst ((ys.take (1 + j)).map V.str)) q = some (.lst ((ys.take (1 + j)).map V.str)) := upd_same
    have s3 : Same H2 (upd H2 q (.lst ((ys.take (1 + j)).map V.str))) := same_upd nq
    revert at_q3 s3
    generalize upd H2 q (.lst ((ys.take (1 + j)).map V.str)) = H3
    intro at_q3 s3
    refine ⟨_, rfl, _, rfl, q, _, rfl, .inl (SqL.of at_q3), _, rfl, m, _, rfl, SqL.of (s3 _ _ at_m2), fun n nn => ?_⟩
    have c2 : cutV (List.map V.str ys) (some ((((ys.take (1 + j)).map V.str).length : Nat) : Int)) none = (ys.drop (1 + j)).map V.str := by
      rw [List.length_map, lp]
      exact cut_drop ys (1 + j) hj
    rw [c2]
    have at_n4 : upd H3 n (.lst ((ys.drop (1 + j)).map V.str)) n = some (.lst ((ys.drop (1 + j)).map V.str)) := upd_same
    have s4 : Same H3 (upd H3 n (.lst ((ys.drop (1 + j)).map V.str))) := same_upd nn
    revert at_n4 s4
    generalize upd H3 n (.lst ((ys.drop (1 + j)).map V.str)) = H4
    intro at_n4 s4
    refine ⟨by show 2 ≤ sizeLine; decide, fun u nu => ⟨_, rfl, u, q, _, _, rfl, rfl, upd_same, same_upd nu _ _ (s4 _ _ at_q3), ?_, fun e ne => ⟨by show 2 ≤ sizeLine; decide, fun t nt => ?_⟩⟩⟩
    · have : (20 : Nat) ≤ sizeLine := by decide
      rw [List.length_map, lp]
      show 2 + _ ≤ sizeLine
      omega
    obtain ⟨nu3, ue⟩ := none_of_upd ne
    have ne0 : H4 e = none := nu3
    obtain ⟨nt1, et⟩ := none_of_upd nt
    have s5 : Same H4 (upd (upd (upd H4 u (.lst [.str "out", .str "out"])) e (.lst ([V.str "out", V.str "out"] ++ (ys.take (1 + j)).map V.str))) t (.tup [.ref n, .ref e])) :=
      ((same_upd nu).trans (same_upd ne)).trans (same_upd nt)
    refine ⟨t, _, rfl, SqT.of upd_same, rfl, _, _, rfl, _, _, rfl, ⟨rfl, Nat.zero_le _, fun dd nd => ?_⟩⟩
    obtain ⟨nd1, td⟩ := none_of_upd nd
    obtain ⟨nd2, ed⟩ := none_of_upd nd1
    obtain ⟨nd3, ud⟩ := none_of_upd nd2
    have s6 : Same H4 (upd (upd (upd (upd H4 u (.lst [.str "out", .str "out"])) e (.lst ([V.str "out", V.str "out"] ++ (ys.take (1 + j)).map V.str))) t (.tup [.ref n, .ref e])) dd (.lst [])) := s5.trans (same_upd nd)
    have at_e7 : upd (upd (upd (upd H4 u (.lst [.str "out", .str "out"])) e (.lst ([V.str "out", V.str "out"] ++ (ys.take (1 + j)).map V.str))) t (.tup [.ref n, .ref e])) dd (.lst []) e = some (.lst (.str "out" :: .str "out" :: (ys.take (1 + j)).map V.str)) := by
      rw [upd_ne ed, upd_ne et, upd_same]
      rfl
    have at_d7 : upd (upd (upd (upd H4 u (.lst [.str "out", .str "out"])) e (.lst ([V.str "out", V.str "out"] ++ (ys.take (1 + j)).map V.str))) t (.tup [.ref n, .ref e])) dd (.lst []) dd = some (.lst []) := upd_same
    revert s6 at_e7 at_d7
    generalize upd (upd (upd (upd H4 u (.lst [.str "out", .str "out"])) e (.lst ([V.str "out", V.str "out"] ++ (ys.take (1 + j)).map V.str))) t (.tup [.ref n, .ref e])) dd (.lst []) = H7
    intro s6 at_e7 at_d7
    have th : Th H H7 p n q e dd (ys.take (1 + j)) (ys.drop (1 + j)).reverse 0 [] := {
      but := (((b1.trans but2).trans (But.of_same s3)).trans (But.of_same s4)).trans (But.of_same s6)
      box := ((x2.same s3).same s4).same s6
      at_m := by
        rw [List.drop_zero, List.reverse_reverse]
        exact s6 _ _ at_n4
      at_q := s6 _ _ (s4 _ _ at_q3)
      at_e := at_e7
      at_d := ⟨[], at_d7, .nil⟩
      mq := Ne.symm (ne_of_none at_q3 nn)
      me := ne_of_none at_n4 ne0
      md := ne_of_none at_n4 nd3
      qd := ne_of_none (s4 _ _ at_q3) nd3
      ed := ed }
    have b2 : But p H H2 := b1.trans but2
    have n00 : H n = none := b2.free x2 (s3.free nn)
    have d00 : H dd = none := b2.free x2 (s3.free (s4.free nd3))
    have lR : (ys.drop (1 + j)).reverse.length = 15 - j := by
      rw [List.length_reverse, List.length_drop]
      omega
    have fin : ∀ (h : Hs), h.parts = ys.take (1 + j) → (h.doors.map (·.n) ++ h.cells.map (·.n)) <+: (ys.drop (1 + j)).reverse → h.doors.length ≤ 5 → h.cells.length ≤ 3 → (∀ d, d ∈ h.doors → Chosen (ys.take (1 + j)) d) → (∀ c, c ∈ h.cells → c.p ∈ ys.take (1 + j)) → Good h := by
      intro h hp pre d5 c3 ends cin
      have pm : (ys.take (1 + j) ++ (ys.drop (1 + j)).reverse).Perm ys := by
        have := (List.reverse_perm (ys.drop (1 + j))).append_left (ys.take (1 + j))
        rwa [List.take_append_drop] at this
      have sub : h.names.Sublist (ys.take (1 + j) ++ (ys.drop (1 + j)).reverse) := by
        unfold Hs.names
        rw [hp]
        exact (List.Sublist.refl _).append pre.sublist
      have nd : (ys.take (1 + j) ++ (ys.drop (1 + j)).reverse).Nodup := (pm.trans perm).nodup_iff.mpr (by decide +kernel)
      exact {
        p1 := by rw [hp, lp]; omega
        p4 := by rw [hp, lp]; omega
        d5 := d5
        c3 := c3
        nodup := sub.nodup nd
        sub := fun x hx => (pm.trans perm).subset (sub.subset hx)
        ends := fun d hd => by rw [hp]; exact ends d hd
        cin := fun c hc => by rw [hp]; exact cin c hc }
    have no_out : ∀ x, x ∈ ys.take (1 + j) → x ≠ "out" := fun x hx z => out_not (z ▸ perm.subset (List.mem_of_mem_take hx))
    generalize (ys.drop (1 + j)).reverse = R at th lR fin
    generalize ys.take (1 + j) = ps at th lp fin no_out
    refine ⟨_, rfl, _, rfl, _, _, rfl, rfl, p, _, rfl, th.box, by decide, by decide, fun r8 H8 r80 r86 but8 x8 => ?_⟩
    have th8 := th.go but8 x8
    obtain ⟨nd8, rfl⟩ : ∃ j : Nat, r8 = (j : Int) := ⟨r8.toNat, by omega⟩
    have lt6 : nd8 < 6 := by
      have : (nd8 : Int) < 6 := r86
      omega
    refine ⟨_, rfl, by omega, by omega, for_range (n := nd8) (fun i σ H' => ∃ (ds : List Door) (v6 v7 v8 : Option V), σ = [some (.ref p), some (.int 4), some (.ref n), some (.ref q), some (.ref e), some (.ref dd), v6, v7, v8] ∧ Th H H' p n q e dd ps R i ds ∧
      ds.map (·.n) = R.take i ∧ ∀ d, d ∈ ds → Chosen ps d) ⟨[], _, _, _, rfl, th8, by simp, fun d hd => nomatch hd⟩ ?_ ?_⟩
    · rintro i σ H9 hi ⟨ds, v6, v7, v8, rfl, t9, nm, ch⟩
      have iR : i < R.length := by omega
      have ep : ∀ {H' : Hp}, Th H H' p n q e dd ps R i ds → p ≠ e := fun {H'} t => (t.box.ne t.at_e (fun _ _ _ z => by cases z)).symm
      have ds5 : ds.length = i := by
        have := congrArg List.length nm
        rw [List.length_map, List.length_take] at this
        omega
      refine ⟨_, rfl, _, rfl, p, e, _, rfl, ep t9, t9.box, t9.at_e, by simp, by simp; omega, fun v1 Ha hv1 buta xa => ?_⟩
      have ta := t9.go buta xa
      refine ⟨_, rfl, _, rfl, p, e, _, rfl, ep ta, ta.box, ta.at_e, by simp, by simp; omega, fun v2 Hb hv2 butb xb => ?_⟩
      have tb := ta.go butb xb
      obtain ⟨s1, rfl, in1⟩ := of_ends hv1
      obtain ⟨s2, rfl, in2⟩ := of_ends hv2
      refine ⟨_, _, rfl, ?_⟩
      refine ⟨_, rfl, _, rfl, rfl, _, rfl, ?_⟩
      have d0 : H dd = none := d00
      have n0 : H n = none := n00
      refine ite2 (fun hb => ?_) (fun hb => ?_)
      · have e12 : s1 = s2 := by simpa using hb
        subst e12
        refine ⟨_, rfl, rfl, _, rfl, ?_⟩
        refine ite2 (fun hc => ?_) (fun hc => ?_)
        · obtain rfl : s1 = "out" := by simpa using hc
          refine ⟨_, rfl, _, rfl, p, q, _, rfl, ?_, tb.box, tb.at_q, ?_, ?_, fun v3 Hc hv3 butc xc => ?_⟩
          · exact (tb.box.ne tb.at_q (strs_box _)).symm
          · rw [List.length_map, lp]; omega
          · rw [List.length_map, lp]; omega
          · have tc := tb.go butc xc
            obtain ⟨y, hy, rfl⟩ := List.mem_map.mp hv3
            exact door_tail tc n0 d0 iR (by omega) nm ch (.inl rfl) (.inr hy) (fun z => no_out y hy z.symm) fun H' ds' t' nm' ch' => ⟨ds', _, _, _, rfl, t', nm', ch'⟩
        · exact door_tail tb n0 d0 iR (by omega) nm ch in1 (.inl rfl) (fun z => hc (by simp [z])) fun H' ds' t' nm' ch' => ⟨ds', _, _, _, rfl, t', nm', ch'⟩
      · exact door_tail tb n0 d0 iR (by omega) nm ch in1 in2 (fun z => hb (by simp [z])) fun H' ds' t' nm' ch' => ⟨ds', _, _, _, rfl, t', nm', ch'⟩
    · rintro σ H9 ⟨ds, v6, v7, v8, rfl, t9, nm, ch⟩
      have ds5 : ds.length = nd8 := by
        have := congrArg List.length nm
        rw [List.length_map, List.length_take] at this
        omega
      refine ⟨_, rfl, _, rfl, _, rfl, p, _, rfl, t9.box, by decide, by decide, fun r9 H10 r90 r94 but10 x10 => ?_⟩
      have t10 := t9.go but10 x10
      obtain ⟨nc, rfl⟩ : ∃ j : Nat, r9 = (j : Int) := ⟨r9.toNat, by omega⟩
      have lt4 : nc < 4 := by
        have : (nc : Int) < 4 := r94
        omega
      refine ⟨_, rfl, by omega, by omega, fun D nD => ?_⟩
      have Dn : n ≠ D := ne_of_none t10.at_m nD
      have Dp : D ≠ p := fun z => by
        obtain ⟨b0, b1, b2, eb, _⟩ := t10.box
        rw [← z, nD] at eb
        cases eb
      have hD : H D = none := t10.but.free t10.box nD
      refine lc_range (lo := 0) (n := nc) (fun i H' => ∃ (cs : List Cell) (ws : List V), Th H H' p n q e dd ps R (nd8 + i) ds ∧ H' D = some (.lst ws) ∧ Paired (CellAt H') ws cs ∧ cs.map (·.n) = (R.drop nd8).take i ∧ ∀ c, c ∈ cs → c.p ∈ ps)
        ⟨[], [], t10.same (same_upd nD), upd_same, .nil, by simp, fun c hc => nomatch hc⟩ ?_ ?_
      · rintro i H11 hi ⟨cs, ws, t11, at_D, pw, cn, ci⟩
        have iR : nd8 + i < R.length := by omega
        have lw := paired_len pw
        have lc : cs.length = i := by
          have := congrArg List.length cn
          rw [List.length_map, List.length_take, List.length_drop] at this
          omega
        refine ⟨rfl, ?_⟩
        refine ⟨_, rfl, .inl ⟨rfl, _, SqL.of t11.at_m⟩, n, _, _, rfl, rfl, t11.at_m, (pop_last iR).1, ?_⟩
        rw [(pop_last iR).2]
        have t12 := t11.pop n00
        have at_D12 : upd H11 n (.lst ((R.drop (nd8 + i + 1)).reverse.map V.str)) D = some (.lst ws) := by
          rw [upd_ne (Ne.symm Dn)]
          exact at_D
        have pw12 : Paired (CellAt (upd H11 n (.lst ((R.drop (nd8 + i + 1)).reverse.map V.str)))) ws cs := paired_mono (fun _ _ r => r.mono fun c ec => by rw [upd_ne (ne_of ec t11.at_m (fun z => by cases z))]; exact ec) pw
        revert t12 at_D12 pw12
        generalize upd H11 n (.lst ((R.drop (nd8 + i + 1)).reverse.map V.str)) = H12
        intro t12 at_D12 pw12
        refine ⟨_, rfl, _, rfl, p, q, _, rfl, (t12.box.ne t12.at_q (strs_box _)).symm, t12.box, t12.at_q, by rw [List.length_map, lp]; omega, by rw [List.length_map, lp]; omega, fun v3 H13 hv3 but13 x13 => ?_⟩
        obtain ⟨y, hy, rfl⟩ := List.mem_map.mp hv3
        have t13 := t12.go but13 x13
        have stay : ∀ {H1 H2 : Hp}, Box H1 p → But p H1 H2 → Paired (CellAt H1) ws cs → Paired (CellAt H2) ws cs := fun {H1 H2} x b pw => paired_mono (fun _ _ r => r.mono fun c ec => b _ _ (x.ne ec (fun _ _ _ z => by cases z)) ec) pw
        have pw13 := stay t12.box but13 pw12
        have at_D13 := but13 _ _ Dp at_D12
        refine ⟨_, rfl, p, _, rfl, t13.box, by decide, by decide, fun r14 H14 r140 r142 but14 x14 => ⟨rfl, by show 3 ≤ sizeLine; decide, fun a na => ?_⟩⟩
        have t14 := t13.go but14 x14
        have pw14 := stay t13.box but14 pw13
        have at_D14 := but14 _ _ Dp at_D13
        have s15 : Same H14 (upd H14 a (.tup [.str R[nd8 + i], .str y, .bl (decide (V.int r14 = V.int 0))])) := same_upd na
        have t15 := t14.same s15
        have at_D15 := s15 _ _ at_D14
        have pw15 := stay t14.box (But.of_same s15) pw14
        have new : CellAt (upd H14 a (.tup [.str R[nd8 + i], .str y, .bl (decide (V.int r14 = V.int 0))])) (.ref a) ⟨R[nd8 + i], y, decide (V.int r14 = V.int 0)⟩ := ⟨a, rfl, upd_same⟩
        obtain ⟨vs, hv, pv⟩ := t15.at_d
        have Dd : dd ≠ D := fun z => by
          obtain ⟨vs', hv', _⟩ := t10.at_d
          rw [z, nD] at hv'
          cases hv'
        obtain ⟨c0, c1, c2, ec, hc⟩ := t15.box
        refine ⟨_, at_D15, ?_, cs ++ [⟨R[nd8 + i], y, decide (V.int r14 = V.int 0)⟩], ws ++ [.ref a], ?_, upd_same, ?_, ?_, ?_⟩
        · have : (100 : Nat) ≤ sizeLine := by decide
          omega
        · exact { t15 with
            but := fun c o ne e => by
              rw [upd_ne (fun z => by rw [z, hD] at e; cases e)]
              exact t15.but c o ne e
            box := ⟨c0, c1, c2, by rw [upd_ne (Ne.symm Dp)]; exact ec, hc⟩
            at_m := by rw [upd_ne Dn]; exact t15.at_m
            at_q := by
              rw [upd_ne (fun z => by rw [← z] at nD; rw [t10.at_q] at nD; cases nD)]
              exact t15.at_q
            at_e := by
              rw [upd_ne (fun z => by rw [← z] at nD; rw [t10.at_e] at nD; cases nD)]
              exact t15.at_e
            at_d := ⟨vs, by rw [upd_ne Dd]; exact hv, paired_mono (fun _ _ r => r.mono fun c ec => by rw [upd_ne (ne_of ec at_D15 (fun z => by cases z))]; exact ec) pv⟩ }
        · exact paired_snoc (paired_mono (fun _ _ r => r.mono fun c ec => by rw [upd_ne (ne_of ec at_D15 (fun z => by cases z))]; exact ec) pw15) (new.mono fun c ec => by rw [upd_ne (ne_of ec at_D15 (fun z => by cases z))]; exact ec)
        · rw [List.map_append, cn, List.take_succ_eq_append_getElem (by rw [List.length_drop]; omega)]
          simp
        · intro c hc
          rcases List.mem_append.mp hc with z | z
          · exact ci c z
          · obtain rfl := List.mem_singleton.mp z
            exact hy
      · rintro H11 ⟨cs, ws, t11, at_D, pw, cn, ci⟩
        have lc : cs.length = nc := by
          have := congrArg List.length cn
          rw [List.length_map, List.length_take, List.length_drop] at this
          omega
        refine ⟨by show 3 ≤ sizeLine; decide, fun t nt => ?_⟩
        have s12 : Same H11 (upd H11 t (.tup [.ref q, .ref dd, .ref D])) := same_upd nt
        have t12 := t11.same s12
        refine k ⟨ps, ds, cs⟩ _ t q dd D (fin _ rfl ?_ (by show ds.length ≤ 5; omega) (by show cs.length ≤ 3; omega) ch ci) t12.but t12.box (t11.but.free t11.box nt) upd_same ⟨t12.at_q, t12.at_d, ws, s12 _ _ at_D, paired_mono (fun _ _ r => r.mono fun c ec => s12 _ _ ec) pw⟩
        show ds.map (·.n) ++ cs.map (·.n) <+: R
        rw [nm, cn, ← List.take_add]
        exact List.take_prefix _ _
end
end K03

namespace K03
open PySem PySem.Spec PyProof.Rows L2
open Cal EnuT

structure Row where
  d : List Bool
  p : List Bool
  w : List Int
  s : List Int
  t : List Int
def Upto (n : Int) (xs : List Int) : Prop := ∀ i, i ∈ xs → 0 ≤ i ∧ i < n
structure GoodRow (h : Hs) (r : Row) : Prop where
  ld : r.d.length = h.doors.length
  lp : r.p.length = h.parts.length
  lw : r.w.length = h.cells.length
  ls : r.s.length = h.cells.length
  lt : r.t.length = h.cells.length
  uw : Upto 3 r.w
  us : Upto 3 r.s
  ut : Upto 5 r.t
def Row.vals (r : Row) : List (List V) := [r.d.map V.bl, r.p.map V.bl, r.w.map V.int, r.s.map V.int, r.t.map V.int]
/-- a list, at none of these addresses -/
def LstAt (bad : List Addr) (H : Hp) (v : V) (xs : List V) : Prop := ∃ a, v = .ref a ∧ a ∉ bad ∧ H a = some (.lst xs)
def TupAt (H : Hp) (v : V) (xs : List V) : Prop := ∃ a, v = .ref a ∧ H a = some (.tup xs)
def RowL (p : Addr) (H : Hp) (a : Addr) (r : Row) : Prop := a ≠ p ∧ ∃ vs, H a = some (.lst vs) ∧ Paired (LstAt [p] H) vs r.vals
def spDrawn : Sp := fun vs H Q _ => ∃ (h : Hs) (p a b c : Addr), vs = [.ref p, .ref a, .ref b, .ref c] ∧ Box H p ∧ Good h ∧ HsAt H h a b c ∧
  ∀ (r : Row) H' l, GoodRow h r → But p H H' → Box H' p → H l = none → RowL p H' l r → Q (.ref l) H'
theorem LstAt.mono {bad bad' : List Addr} {H H' : Hp} {v : V} {xs : List V} (x : LstAt bad H v xs) (f : ∀ t, t ∉ bad → H t = some (.lst xs) → H' t = some (.lst xs)) (g : ∀ t, t ∈ bad' → t ∈ bad) : LstAt bad' H' v xs := by
  obtain ⟨t, rfl, n, e⟩ := x
  exact ⟨t, rfl, fun z => n (g _ z), f t n e⟩
theorem paired_app {α β : Type} {R : α → β → Prop} : ∀ {xs xs' : List α} {ys ys' : List β}, Paired R xs ys → Paired R xs' ys' → Paired R (xs ++ xs') (ys ++ ys')
  | _, _, _, _, .nil, h => h
  | _, _, _, _, .cons r t, h => .cons r (paired_app t h)
theorem TupAt.mono {H H' : Hp} {v : V} {xs : List V} (x : TupAt H v xs) (f : ∀ t, H t = some (.tup xs) → H' t = some (.tup xs)) : TupAt H' v xs := by
  obtain ⟨t, rfl, e⟩ := x
  exact ⟨t, rfl, f t e⟩
theorem kept {σ : L2.St} {H : Hp} {A B : Hp → Prop} (h : A H) : tYes σ H (fun b H3 => if b = true then A H3 else B H3) := by
  show (if true = true then A H else B H)
  rw [if_pos rfl]
  exact h
theorem flags_in {K : W.Frag} {H : Hp} {Q : VK} {p a : Addr} {xs : List V} {v1 v2 v3 v4 v6 v7 v8 : Option V} (hB : Box H p) (ha : H a = some (.lst xs)) (ne : a ≠ p) (few : xs.length ≤ 20)
    (k : ∀ (bs : List Bool) H' D, bs.length = xs.length → But p H H' → Box H' p → H D = none → H' D = some (.lst (bs.map V.bl)) → Q (.ref D) H') :
    tLc (iList K (tVar 5)) (gName 6) tYes (tOp rEq (tCall spTake [] E0 (tCons (tVar 0) (tCons (tC (.int 2)) tNil))) (tC (.int 0))) (List.map (fun x => x.2) [(("_law_one" : Str), 6)]) [some (.ref p), v1, v2, v3, v4, some (.ref a), v6, v7, v8] H Q := by
  refine ⟨_, rfl, a, rfl, ⟨_, SqL.of ha⟩, fun D nD => ?_⟩
  have Dp : D ≠ p := fun z => by
    obtain ⟨b0, b1, b2, eb, _⟩ := hB
    rw [← z, nD] at eb
    cases eb
  refine lc_list (xs := xs) (fun i H' => ∃ bs : List Bool, bs.length = i ∧ But p H H' ∧ Box H' p ∧ H' D = some (.lst (bs.map V.bl))) ⟨[], rfl, But.of_same (same_upd nD), hB.same (same_upd nD), upd_same⟩
    (fun i H' _ z => by
      obtain ⟨_, _, b, _⟩ := z
      exact SqL.of (b _ _ ne ha)) ?_ ?_
  · rintro i x H1 hx ⟨bs, lb, b1, x1, at_D⟩
    have hi : i < xs.length := (List.getElem?_eq_some_iff.mp hx).1
    refine ⟨rfl, _, rfl, p, _, rfl, x1, by decide, by decide, fun r H2 _ _ but2 x2 => ⟨rfl, _, but2 _ _ Dp at_D, ?_, bs ++ [decide (V.int r = V.int 0)], ?_, ?_, ?_, ?_⟩⟩
    · have : (100 : Nat) ≤ sizeLine := by decide
      rw [List.length_map]
      omega
    · rw [List.length_append, lb]
      rfl
    · intro c o nc e
      rw [upd_ne (fun z => by rw [z, nD] at e; cases e)]
      exact but2 _ _ nc (b1 _ _ nc e)
    · obtain ⟨c0, c1, c2, ec, hc⟩ := x2
      exact ⟨c0, c1, c2, by rw [upd_ne (Ne.symm Dp)]; exact ec, hc⟩
    · rw [upd_same, List.map_append]
      rfl
  · rintro H1 ⟨bs, lb, b1, x1, at_D⟩
    exact k bs H1 D lb b1 x1 nD at_D
theorem nums_in {K : W.Frag} {H : Hp} {Q : VK} {p a : Addr} {m : Int} {xs : List V} {v1 v2 v4 v5 v6 v8 : Option V} (hB : Box H p) (ha : H a = some (.lst xs)) (ne : a ≠ p) (few : xs.length ≤ 20) (m1 : 1 ≤ m) (m2 : m ≤ 1000)
    (k : ∀ (ns : List Int) H' D, ns.length = xs.length → Upto m ns → But p H H' → Box H' p → H D = none → H' D = some (.lst (ns.map V.int)) → Q (.ref D) H') :
    tLc (iList K (tVar 3)) (gName 8) tYes (tCall spTake [] E0 (tCons (tVar 0) (tCons (tVar 7) tNil))) (List.map (fun x => x.2) [(("_law_cell" : Str), 8)]) [some (.ref p), v1, v2, some (.ref a), v4, v5, v6, some (.int m), v8] H Q := by
  refine ⟨_, rfl, a, rfl, ⟨_, SqL.of ha⟩, fun D nD => ?_⟩
  have Dp : D ≠ p := fun z => by
    obtain ⟨b0, b1, b2, eb, _⟩ := hB
    rw [← z, nD] at eb
    cases eb
  refine lc_list (xs := xs) (fun i H' => ∃ ns : List Int, ns.length = i ∧ Upto m ns ∧ But p H H' ∧ Box H' p ∧ H' D = some (.lst (ns.map V.int))) ⟨[], rfl, fun _ z => (nomatch z), But.of_same (same_upd nD), hB.same (same_upd nD), upd_same⟩
    (fun i H' _ z => by
      obtain ⟨_, _, _, b, _⟩ := z
      exact SqL.of (b _ _ ne ha)) ?_ ?_
  · rintro i x H1 hx ⟨ns, lb, up, b1, x1, at_D⟩
    have hi : i < xs.length := (List.getElem?_eq_some_iff.mp hx).1
    refine ⟨rfl, _, rfl, _, rfl, p, _, rfl, x1, m1, m2, fun r H2 r0 rm but2 x2 => ⟨_, but2 _ _ Dp at_D, ?_, ns ++ [r], ?_, ?_, ?_, ?_, ?_⟩⟩
    · have : (100 : Nat) ≤ sizeLine := by decide
      rw [List.length_map]
      omega
    · rw [List.length_append, lb]
      rfl
    · intro z hz
      rcases List.mem_append.mp hz with y | y
      · exact up z y
      · obtain rfl := List.mem_singleton.mp y
        exact ⟨r0, rm⟩
    · intro c o nc e
      rw [upd_ne (fun z => by rw [z, nD] at e; cases e)]
      exact but2 _ _ nc (b1 _ _ nc e)
    · obtain ⟨c0, c1, c2, ec, hc⟩ := x2
      exact ⟨c0, c1, c2, by rw [upd_ne (Ne.symm Dp)]; exact ec, hc⟩
    · rw [upd_same, List.map_append]
      rfl
  · rintro H1 ⟨ns, lb, up, b1, x1, at_D⟩
    exact k ns H1 D lb up b1 x1 nD at_D
section
variable {P : Program} {w : World} {K : W.Frag} {mg : Str → Option Value} {base : Heap}
theorem scD : FnScope ["_law_box_here", "_law_parts", "_law_doors", "_law_cells", "_law_flags", "_law_some", "_law_one", "_law_most", "_law_cell"] ["_law_box_here", "_law_parts", "_law_doors", "_law_cells"] (defScope sDrawn) := ⟨rfl, rfl, rfl, by decide +kernel, rfl, by decide +kernel, by decide +kernel⟩
theorem ok_drawn {f : Addr} {fd : FuncData} (F : Fun K "_law_drawn_row" "_law_drawn_row" sDrawn f fd) (B : Bl mg) (T : Callee P w K mg base "_law_take" 1 ["_law_box_here", "_law_many"] spTake) :
    FnOk P w K mg base CX0 2 f fd ["_law_box_here", "_law_parts", "_law_doors", "_law_cells"] spDrawn := by
  refine F.ok scD (fun vs H Q E h => ?_) (fun cdv A outer s H vs Q E hr h => ?_)
  · obtain ⟨h, p, a, b, c, rfl, _⟩ := h
    rfl
  · obtain ⟨h, p, a, b, c, rfl, hB, good, at_h, k⟩ := h
    refine ⟨_, pss_cons (ps_setLc (i := 4) (own := [("_law_some", 5)]) (g := gName 5) (tt := tYes) (by rfl) scD.nd rfl rfl (sw_true rfl rfl rfl (by decide +kernel)) (pi_tup (pe_tup (pa_cons (pv 2) (pa_cons (pv 1) pa_nil))))
        (blkOk_by (own := [("_law_some", 5)]) (N := ["_law_box_here", "_law_parts", "_law_doors", "_law_cells", "_law_flags", "_law_some", "_law_one", "_law_most", "_law_cell"]) (sc := defScope sDrawn) (by decide +kernel))
        (fun _ _ _ _ _ => pg_name (i := 5) scD.nd rfl (Or.inl rfl)) (fun _ _ _ _ _ => pts_nil)
        (fun _ _ _ _ _ => pe_lc (own := [("_law_one", 6)]) (g := gName 6) (tt := tYes) (by rfl) scD.nd (show PI _ _ _ (iList K (tVar 5)) from pi_list (pv 5))
          (blkOk_by (own := [("_law_one", 6)]) (N := ["_law_box_here", "_law_parts", "_law_doors", "_law_cells", "_law_flags", "_law_some", "_law_one", "_law_most", "_law_cell"]) (by rfl))
          (fun _ _ _ _ _ => pg_name (i := 6) scD.nd rfl (Or.inl rfl)) (fun _ _ _ _ _ => pts_nil)
          (fun _ _ _ _ _ => pe_cmpR op_eq (pe_callee T hr rfl (pa_cons (pv 0) (pa_cons pe_int pa_nil))) pe_int (nomark _))))
      (pss_one (ps_ret (pe_op op_cat (pv 4) (pe_lc (own := [("_law_most", 7)]) (g := gName 7) (tt := tYes) (by rfl) scD.nd (pi_tup (pe_tup (pa_cons pe_int (pa_cons pe_int (pa_cons pe_int pa_nil)))))
        (blkOk_by (own := [("_law_most", 7)]) (N := ["_law_box_here", "_law_parts", "_law_doors", "_law_cells", "_law_flags", "_law_some", "_law_one", "_law_most", "_law_cell"]) (sc := defScope sDrawn) (by decide +kernel))
        (fun _ _ _ _ _ => pg_name (i := 7) scD.nd rfl (Or.inr rfl)) (fun _ _ _ _ _ => pts_nil)
        (fun _ _ _ _ _ => pe_lc (own := [("_law_cell", 8)]) (g := gName 8) (tt := tYes) (by rfl) scD.nd (show PI _ _ _ (iList K (tVar 3)) from pi_list (pv 3))
          (blkOk_by (own := [("_law_cell", 8)]) (N := ["_law_box_here", "_law_parts", "_law_doors", "_law_cells", "_law_flags", "_law_some", "_law_one", "_law_most", "_law_cell"]) (by rfl))
          (fun _ _ _ _ _ => pg_name (i := 8) scD.nd rfl (Or.inl rfl)) (fun _ _ _ _ _ => pts_nil)
          (fun _ _ _ _ _ => pe_callee T hr rfl (pa_cons (pv 0) (pa_cons (pv 7) pa_nil)))))))), ?_⟩
    have ap : a ≠ p := hB.ne at_h.pa (strs_box _)
    obtain ⟨vd, hd, pd⟩ := at_h.da
    obtain ⟨vc, hc, pc⟩ := at_h.ca
    have bp : b ≠ p := hB.ne hd (doors_box pd)
    have cp : c ≠ p := hB.ne hc (cells_box pc)
    have ld := paired_len pd
    have lc := paired_len pc
    have d5 := good.d5
    have c3 := good.c3
    have p4 := good.p4
    refine ⟨_, rfl, _, rfl, by show 2 ≤ sizeLine; decide, fun t nt => ⟨_, rfl, ⟨_, SqT.of upd_same⟩, fun D nD => ?_⟩⟩
    obtain ⟨nD0, tD⟩ := none_of_upd nD
    have nt0 : H D = none := nD0
    have tp : t ≠ p := fun z => by
      obtain ⟨b0, b1, b2, eb, _⟩ := hB
      rw [← z, nt] at eb
      cases eb
    have Dp : D ≠ p := fun z => by
      obtain ⟨b0, b1, b2, eb, _⟩ := hB
      rw [← z, nD0] at eb
      cases eb
    have s0 : Same H (upd (upd H t (.tup [.ref b, .ref a])) D (.lst [])) := (same_upd nt).trans (same_upd nD)
    refine lc_tup (xs := [.ref b, .ref a]) (fun i H' => ∃ (rs : List (List Bool)) (vs : List V), But p H H' ∧ Box H' p ∧ H' t = some (.tup [.ref b, .ref a]) ∧ H' D = some (.lst vs) ∧ Paired (LstAt [D, p] H') vs (rs.map (·.map V.bl)) ∧ rs.map List.length = [h.doors.length, h.parts.length].take i)
      ⟨[], [], But.of_same s0, hB.same s0, (upd_ne tD).trans upd_same, upd_same, .nil, rfl⟩ (fun i H' _ z => by
        obtain ⟨_, _, _, _, z, _⟩ := z
        exact SqT.of z) ?_ ?_
    · rintro i x H1 hx ⟨rs, vs, b1, x1, at_t, at_D, pr, lr⟩
      have hi : i < 2 := (List.getElem?_eq_some_iff.mp hx).1
      obtain ⟨s, xs, rfl, ns, hs, few, len⟩ : ∃ s xs, x = .ref s ∧ s ≠ p ∧ H s = some (.lst xs) ∧ xs.length ≤ 20 ∧ [h.doors.length, h.parts.length][i]? = some xs.length := by
        match i, hi, hx with
        | 0, _, hx =>
          cases hx
          exact ⟨b, vd, rfl, bp, hd, by omega, by rw [ld]; rfl⟩
        | 1, _, hx =>
          cases hx
          exact ⟨a, _, rfl, ap, at_h.pa, by rw [List.length_map]; omega, by rw [List.length_map]; rfl⟩
      have all20 : rs.length = i := by
        have := congrArg List.length lr
        rw [List.length_map, List.length_take] at this
        simp at this
        omega
      have lv := paired_len pr
      rw [List.length_map] at lv
      refine ⟨rfl, kept ?_⟩
      refine flags_in x1 (b1 _ _ ns hs) ns few fun bs H2 D2 lb b2 x2 nD2 at_D2 => ?_
      have D2p : D2 ≠ p := fun z => by
        obtain ⟨b0, b1, b2, eb, _⟩ := x1
        rw [← z, nD2] at eb
        cases eb
      have D2D : D2 ≠ D := Ne.symm (ne_of_none at_D nD2)
      refine ⟨vs, b2 _ _ Dp at_D, ?_, rs ++ [bs], vs ++ [.ref D2], ?_, ?_, ?_, upd_same, ?_, ?_⟩
      · have : (100 : Nat) ≤ sizeLine := by decide
        omega
      · intro c o nc e
        rw [upd_ne (fun z => by rw [z, (show H D = none from nt0)] at e; cases e)]
        exact b2 _ _ nc (b1 _ _ nc e)
      · obtain ⟨c0, c1, c2, ec, hc⟩ := x2
        exact ⟨c0, c1, c2, by rw [upd_ne (Ne.symm Dp)]; exact ec, hc⟩
      · rw [upd_ne tD]
        exact b2 _ _ tp at_t
      · rw [List.map_append]
        refine paired_snoc (paired_mono (fun _ _ r => r.mono (fun c nc ec => by
          simp only [List.mem_cons, List.not_mem_nil, or_false, not_or] at nc
          rw [upd_ne nc.1]
          exact b2 _ _ nc.2 ec) fun _ z => z) pr) ⟨D2, rfl, by simp [D2p, D2D], ?_⟩
        rw [upd_ne D2D]
        exact at_D2
      · rw [List.map_append, lr]
        match i, hi, len with
        | 0, _, len =>
          have len := Option.some.inj len
          simp [lb, ← len]
        | 1, _, len =>
          have len := Option.some.inj len
          simp [lb, ← len]
    · rintro H1 ⟨rs, vs, b1, x1, at_t, at_D, pr, lr⟩
      obtain ⟨rd, rp, rfl⟩ : ∃ rd rp, rs = [rd, rp] := by
        have l2 : rs.length = 2 := by
          have := congrArg List.length lr
          simpa using this
        match rs, l2 with
        | [x, y], _ => exact ⟨x, y, rfl⟩
      have lrd : rd.length = h.doors.length := by
        have := congrArg List.head? lr
        exact Option.some.inj this
      have lrp : rp.length = h.parts.length := by
        have := congrArg (fun l => l[1]?) lr
        exact Option.some.inj this
      refine ⟨_, rfl, by show 3 ≤ sizeLine; decide, fun t2 nt2 => ⟨_, rfl, ⟨_, SqT.of upd_same⟩, fun D2 nD2 => ?_⟩⟩
      obtain ⟨nD20, t2D2⟩ := none_of_upd nD2
      have no_p : ∀ {u : Addr}, H1 u = none → u ≠ p := fun {u} n z => by
        obtain ⟨b0, b1, b2, eb, _⟩ := x1
        rw [← z, n] at eb
        cases eb
      have t2p := no_p nt2
      have D2p := no_p nD20
      have hD2 : H D2 = none := b1.free x1 nD20
      have s1 : Same H1 (upd (upd H1 t2 (.tup [.int 3, .int 3, .int 5])) D2 (.lst [])) := (same_upd nt2).trans (same_upd nD2)
      have DD2 : D ≠ D2 := ne_of_none at_D nD20
      refine lc_tup (xs := [.int 3, .int 3, .int 5]) (fun i H' => ∃ (rs : List (List Int)) (ws : List V), But p H H' ∧ Box H' p ∧ H' t2 = some (.tup [.int 3, .int 3, .int 5]) ∧ H' D = some (.lst vs) ∧ Paired (LstAt [D2, p] H') vs ([rd, rp].map (·.map V.bl)) ∧
          H' D2 = some (.lst ws) ∧ Paired (LstAt [D2, p] H') ws (rs.map (·.map V.int)) ∧ rs.length = i ∧ Paired (fun r (m : Int) => Upto m r ∧ r.length = h.cells.length) rs (([3, 3, 5] : List Int).take i))
        ⟨[], [], b1.trans (But.of_same s1), x1.same s1, (upd_ne t2D2).trans upd_same, s1 _ _ at_D, paired_mono (fun _ _ r => ?_) pr, upd_same, .nil, rfl, .nil⟩ (fun i H' _ z => by
          obtain ⟨_, _, _, _, z, _⟩ := z
          exact SqT.of z) ?_ ?_
      · obtain ⟨u, rfl, nu, eu⟩ := r
        simp only [List.mem_cons, List.not_mem_nil, or_false, not_or] at nu
        refine ⟨u, rfl, ?_, s1 _ _ eu⟩
        simp only [List.mem_cons, List.not_mem_nil, or_false, not_or]
        exact ⟨ne_of_none eu nD20, nu.2⟩
      · rintro i x H2 hx ⟨rs, ws, b2, x2, at_t2, at_D3, pr3, at_D2, pw, lrs, ups⟩
        have hi : i < 3 := (List.getElem?_eq_some_iff.mp hx).1
        obtain ⟨m, rfl, m1, m2, tk⟩ : ∃ m : Int, x = .int m ∧ 1 ≤ m ∧ m ≤ 1000 ∧ ([3, 3, 5] : List Int).take (i + 1) = ([3, 3, 5] : List Int).take i ++ [m] := by
          match i, hi, hx with
          | 0, _, hx => cases hx; exact ⟨3, rfl, by decide, by decide, rfl⟩
          | 1, _, hx => cases hx; exact ⟨3, rfl, by decide, by decide, rfl⟩
          | 2, _, hx => cases hx; exact ⟨5, rfl, by decide, by decide, rfl⟩
        have lw := paired_len pw
        rw [List.length_map] at lw
        refine ⟨rfl, kept ?_⟩
        refine nums_in x2 (b2 _ _ cp hc) cp (by omega) m1 m2 fun bs H4 D4 lb ub b4 x4 nD4 at_D4 => ?_
        have D4p : D4 ≠ p := fun z => by
          obtain ⟨b0, b1, b2, eb, _⟩ := x2
          rw [← z, nD4] at eb
          cases eb
        have D4D2 : D4 ≠ D2 := Ne.symm (ne_of_none at_D2 nD4)
        have stay : ∀ {zs : List V} {es : List (List V)} {o : HO}, Paired (LstAt [D2, p] H2) zs es → Paired (LstAt [D2, p] (upd H4 D2 o)) zs es := fun {zs es o} pr => paired_mono (fun _ _ r => r.mono (fun c nc ec => by
            simp only [List.mem_cons, List.not_mem_nil, or_false, not_or] at nc
            rw [upd_ne nc.1]
            exact b4 _ _ nc.2 ec) fun _ z => z) pr
        refine ⟨ws, b4 _ _ D2p at_D2, ?_, rs ++ [bs], ws ++ [.ref D4], ?_, ?_, ?_, ?_, stay pr3, upd_same, ?_, ?_, ?_⟩
        · have : (100 : Nat) ≤ sizeLine := by decide
          omega
        · intro c o nc e
          rw [upd_ne (fun z => by rw [z, hD2] at e; cases e)]
          exact b4 _ _ nc (b2 _ _ nc e)
        · obtain ⟨c0, c1, c2, ec, hc⟩ := x4
          exact ⟨c0, c1, c2, by rw [upd_ne (Ne.symm D2p)]; exact ec, hc⟩
        · rw [upd_ne t2D2]
          exact b4 _ _ t2p at_t2
        · rw [upd_ne DD2]
          exact b4 _ _ Dp at_D3
        · rw [List.map_append]
          refine paired_snoc (stay pw) ⟨D4, rfl, by simp [D4p, D4D2], ?_⟩
          rw [upd_ne D4D2]
          exact at_D4
        · rw [List.length_append, lrs]
          rfl
        · rw [tk]
          exact paired_snoc ups ⟨ub, by omega⟩
      · rintro H2 ⟨rs, ws, b2, x2, at_t2, at_D3, pr3, at_D2, pw, lrs, ups⟩
        obtain ⟨rw', rs', rt', rfl⟩ : ∃ x y z, rs = [x, y, z] := by
          match rs, lrs with
          | [x, y, z], _ => exact ⟨x, y, z, rfl⟩
        refine ⟨D, D2, _, _, rfl, rfl, at_D3, at_D2, ?_, fun l nl => ?_⟩
        · have : (100 : Nat) ≤ sizeLine := by decide
          have := paired_len pr3
          have := paired_len pw
          simp at *
          omega
        · have lp : l ≠ p := fun z => by
            obtain ⟨b0, b1, b2, eb, _⟩ := x2
            rw [← z, nl] at eb
            cases eb
          have s3 : Same H2 (upd H2 l (.lst (vs ++ ws))) := same_upd nl
          have ups3 : Paired (fun r (m : Int) => Upto m r ∧ r.length = h.cells.length) [rw', rs', rt'] [3, 3, 5] := ups
          obtain ⟨uw, us, ut⟩ : (Upto 3 rw' ∧ rw'.length = h.cells.length) ∧ (Upto 3 rs' ∧ rs'.length = h.cells.length) ∧ (Upto 5 rt' ∧ rt'.length = h.cells.length) := by
            cases ups3 with
            | cons u1 t1 =>
              cases t1 with
              | cons u2 t2 =>
                cases t2 with
                | cons u3 t3 => exact ⟨u1, u2, u3⟩
          refine k ⟨rd, rp, rw', rs', rt'⟩ _ l ⟨lrd, lrp, uw.2, us.2, ut.2, uw.1, us.1, ut.1⟩ (b2.trans (But.of_same s3)) (x2.same s3) (b2.free x2 nl) ⟨lp, _, upd_same, ?_⟩
          have down : ∀ {zs : List V} {es : List (List V)}, Paired (LstAt [D2, p] H2) zs es → Paired (LstAt [p] (upd H2 l (.lst (vs ++ ws)))) zs es := fun {zs es} pr => paired_mono (fun _ _ r => r.mono (fun c nc ec => s3 _ _ ec) fun _ z => by simp at z; simp [z]) pr
          exact paired_app (down pr3) (down pw)
end
end K03

namespace K03
open PySem PySem.Spec PyProof.Rows L2
open Cal EnuT

/-! ### what a value is -/
def tupOf (H : Hp) : V → Option (List V)
  | .ref a => match H a with
    | some (.tup xs) => some xs
    | _ => none
  | _ => none
def isBl : V → Bool
  | .bl _ => true
  | _ => false
def isIn (m : Int) : V → Bool
  | .int i => decide (0 ≤ i) && decide (i ≤ m)
  | _ => false
def isI : V → Bool
  | .int _ => true
  | _ => false
inductive OkV (H : Hp) : V → Prop
  | non : OkV H .non
  | bl (b : Bool) : OkV H (.bl b)
  | int (i : Int) : OkV H (.int i)
  | str (s : Str) : OkV H (.str s)
  | lst {a : Addr} {xs : List V} (h : H a = some (.lst xs)) : OkV H (.ref a)
  | tup {a : Addr} {xs : List V} (h : H a = some (.tup xs)) : OkV H (.ref a)
theorem tupOf_tup {H : Hp} {a : Addr} {xs : List V} (h : H a = some (.tup xs)) : tupOf H (.ref a) = some xs := by
  simp only [tupOf, h]
theorem tupOf_lst {H : Hp} {a : Addr} {xs : List V} (h : H a = some (.lst xs)) : tupOf H (.ref a) = none := by
  simp only [tupOf, h]
theorem OkV.same {H H' : Hp} (s : Same H H') {v : V} (o : OkV H v) : OkV H' v := by
  cases o with
  | non => exact .non
  | bl b => exact .bl b
  | int i => exact .int i
  | str x => exact .str x
  | lst h => exact .lst (s _ _ h)
  | tup h => exact .tup (s _ _ h)
theorem OkV.tupOf_same {H H' : Hp} (s : Same H H') {v : V} (o : OkV H v) : tupOf H' v = tupOf H v := by
  cases o with
  | non => rfl
  | bl b => rfl
  | int i => rfl
  | str x => rfl
  | lst h => rw [tupOf_lst h, tupOf_lst (s _ _ h)]
  | tup h => rw [tupOf_tup h, tupOf_tup (s _ _ h)]
theorem OkV.ty {K : W.Frag} {H : Hp} {v : V} (o : OkV H v) : ∃ t, TyX K H v t ∧ W.kitOne K t (.type "tuple") = some (tupOf H v).isSome ∧ W.kitOne K t (.type "bool") = some (isBl v) ∧ W.kitOne K t (.type "int") = some (isBl v || isI v) := by
  cases o with
  | non => exact ⟨_, .base .non, kit_ty (show kitB "NoneType" "tuple" = some false by decide +kernel), kit_ty (show kitB "NoneType" "bool" = some false by decide +kernel), kit_ty (show kitB "NoneType" "int" = some false by decide +kernel)⟩
  | bl b => exact ⟨_, .base (.bl b), kit_ty (show kitB "bool" "tuple" = some false by decide +kernel), kit_ty (show kitB "bool" "bool" = some true by decide +kernel), kit_ty (show kitB "bool" "int" = some true by decide +kernel)⟩
  | int i => exact ⟨_, .base (.int i), kit_ty (show kitB "int" "tuple" = some false by decide +kernel), kit_ty (show kitB "int" "bool" = some false by decide +kernel), kit_ty (show kitB "int" "int" = some true by decide +kernel)⟩
  | str x => exact ⟨_, .base (.str x), kit_ty (show kitB "str" "tuple" = some false by decide +kernel), kit_ty (show kitB "str" "bool" = some false by decide +kernel), kit_ty (show kitB "str" "int" = some false by decide +kernel)⟩
  | lst h => exact ⟨_, .base (.lst h), by rw [tupOf_lst h]; exact kit_ty (show kitB "list" "tuple" = some false by decide +kernel), kit_ty (show kitB "list" "bool" = some false by decide +kernel), kit_ty (show kitB "list" "int" = some false by decide +kernel)⟩
  | tup h => exact ⟨_, .base (.tup h), by rw [tupOf_tup h]; exact kit_ty (show kitB "tuple" "tuple" = some true by decide +kernel), kit_ty (show kitB "tuple" "bool" = some false by decide +kernel), kit_ty (show kitB "tuple" "int" = some false by decide +kernel)⟩
/-- a value whose items are told, too -/
def Ok2 (H : Hp) (v : V) : Prop := OkV H v ∧ ∀ ys, tupOf H v = some ys → ∀ y, y ∈ ys → OkV H y
def Ok3 (H : Hp) (v : V) : Prop := ∀ xs, tupOf H v = some xs → ∀ x, x ∈ xs → Ok2 H x
theorem Ok2.same {H H' : Hp} (s : Same H H') {v : V} (o : Ok2 H v) : Ok2 H' v := ⟨o.1.same s, fun ys h y hy => (o.2 ys (by rw [← o.1.tupOf_same s]; exact h) y hy).same s⟩

/-- what an item of a row must be: its place, then its items -/
def chk (h : Hs) (i : Nat) (xs : List V) : Bool :=
  match i with
  | 0 => decide (xs.length = h.doors.length) && xs.all isBl
  | 1 => decide (xs.length = h.parts.length) && xs.all isBl
  | 2 => decide (xs.length = h.cells.length) && xs.all (isIn 2)
  | 3 => decide (xs.length = h.cells.length) && xs.all (isIn 2)
  | _ => decide (xs.length = h.cells.length) && xs.all (isIn 4)
def item (H : Hp) (h : Hs) (i : Nat) (v : V) : Bool := match tupOf H v with
  | some xs => chk h i xs
  | none => false
def isRowB (H : Hp) (h : Hs) (v : V) : Bool := match tupOf H v with
  | some [a, b, c, d, e] => item H h 0 a && item H h 1 b && item H h 2 c && item H h 3 d && item H h 4 e
  | _ => false
/-- the row's tuples stand in a tuple -/
def RowT (H : Hp) (a : Addr) (r : Row) : Prop := ∃ vs, H a = some (.tup vs) ∧ Paired (TupAt H) vs r.vals
theorem TupAt.tupOf {H : Hp} {v : V} {xs : List V} (t : TupAt H v xs) : tupOf H v = some xs := by
  obtain ⟨a, rfl, e⟩ := t
  exact tupOf_tup e
theorem TupAt.item {H : Hp} {h : Hs} {i : Nat} {v : V} {xs : List V} (t : TupAt H v xs) : item H h i v = chk h i xs := by
  unfold K03.item
  rw [t.tupOf]
theorem TupAt.ok2 {H : Hp} {v : V} {xs : List V} (t : TupAt H v xs) (o : ∀ x, x ∈ xs → OkV H x) : Ok2 H v := by
  refine ⟨?_, fun ys h y hy => ?_⟩
  · obtain ⟨a, rfl, e⟩ := t
    exact .tup e
  · rw [t.tupOf] at h
    obtain rfl := Option.some.inj h
    exact o y hy
theorem ok_bls {H : Hp} (xs : List Bool) : ∀ x, x ∈ xs.map V.bl → OkV H x := fun x hx => by
  obtain ⟨b, _, rfl⟩ := List.mem_map.mp hx
  exact .bl b
theorem ok_ints {H : Hp} (xs : List Int) : ∀ x, x ∈ xs.map V.int → OkV H x := fun x hx => by
  obtain ⟨b, _, rfl⟩ := List.mem_map.mp hx
  exact .int b
theorem all_bls (xs : List Bool) : (xs.map V.bl).all isBl = true := by
  rw [List.all_map]
  exact List.all_eq_true.mpr fun _ _ => rfl
theorem all_ints {m : Int} {xs : List Int} (u : Upto (m + 1) xs) : (xs.map V.int).all (isIn m) = true := by
  rw [List.all_map]
  refine List.all_eq_true.mpr fun i hi => ?_
  have := u i hi
  show (decide (0 ≤ i) && decide (i ≤ m)) = true
  rw [decide_eq_true this.1, decide_eq_true (by omega)]
  rfl
theorem vals_ok {H : Hp} (r : Row) : ∀ xs, xs ∈ r.vals → ∀ x, x ∈ xs → OkV H x := by
  intro xs h
  simp only [Row.vals, List.mem_cons, List.not_mem_nil, or_false] at h
  rcases h with rfl | rfl | rfl | rfl | rfl
  · exact ok_bls _
  · exact ok_bls _
  · exact ok_ints _
  · exact ok_ints _
  · exact ok_ints _
theorem vals_chk {h : Hs} {r : Row} (g : GoodRow h r) : ∀ (i : Nat) (xs : List V), r.vals[i]? = some xs → chk h i xs = true := by
  intro i xs e
  match i, e with
  | 0, e =>
    cases e
    simp only [chk, List.length_map, g.ld, all_bls]
    simp
  | 1, e =>
    cases e
    simp only [chk, List.length_map, g.lp, all_bls]
    simp
  | 2, e =>
    cases e
    simp only [chk, List.length_map, g.lw, all_ints (m := 2) g.uw]
    simp
  | 3, e =>
    cases e
    simp only [chk, List.length_map, g.ls, all_ints (m := 2) g.us]
    simp
  | 4, e =>
    cases e
    simp only [chk, List.length_map, g.lt, all_ints (m := 4) g.ut]
    simp
  | n + 5, e => cases e
theorem RowT.isRow {H : Hp} {h : Hs} {r : Row} {a : Addr} (g : GoodRow h r) (t : RowT H a r) : isRowB H h (.ref a) = true ∧ Ok3 H (.ref a) := by
  obtain ⟨vs, hv, pv⟩ := t
  have pv' : Paired (TupAt H) vs [r.d.map V.bl, r.p.map V.bl, r.w.map V.int, r.s.map V.int, r.t.map V.int] := pv
  cases pv' with
  | cons t0 pv =>
  cases pv with
  | cons t1 pv =>
  cases pv with
  | cons t2 pv =>
  cases pv with
  | cons t3 pv =>
  cases pv with
  | cons t4 pv =>
  cases pv
  refine ⟨?_, ?_⟩
  · unfold isRowB
    rw [tupOf_tup hv]
    show (K03.item H h 0 _ && K03.item H h 1 _ && K03.item H h 2 _ && K03.item H h 3 _ && K03.item H h 4 _) = true
    rw [t0.item, t1.item, t2.item, t3.item, t4.item, vals_chk g 0 _ rfl, vals_chk g 1 _ rfl, vals_chk g 2 _ rfl, vals_chk g 3 _ rfl, vals_chk g 4 _ rfl]
    rfl
  · intro xs e x hx
    rw [tupOf_tup hv] at e
    obtain rfl := Option.some.inj e
    simp only [List.mem_cons, List.not_mem_nil, or_false] at hx
    rcases hx with rfl | rfl | rfl | rfl | rfl
    · exact t0.ok2 (ok_bls _)
    · exact t1.ok2 (ok_bls _)
    · exact t2.ok2 (ok_ints _)
    · exact t3.ok2 (ok_ints _)
    · exact t4.ok2 (ok_ints _)
/-- no row, by one of its items -/
theorem not_row {H : Hp} {h : Hs} {a : Addr} {xs : List V} (ha : H a = some (.tup xs)) {i : Nat} {v : V} (hi : xs[i]? = some v) (lt : i < 5) (no : K03.item H h i v = false) : isRowB H h (.ref a) = false := by
  unfold isRowB
  rw [tupOf_tup ha]
  match xs, i, hi, lt with
  | [x0, x1, x2, x3, x4], 0, hi, _ => cases hi; simp [no]
  | [x0, x1, x2, x3, x4], 1, hi, _ => cases hi; simp [no]
  | [x0, x1, x2, x3, x4], 2, hi, _ => cases hi; simp [no]
  | [x0, x1, x2, x3, x4], 3, hi, _ => cases hi; simp [no]
  | [x0, x1, x2, x3, x4], 4, hi, _ => cases hi; simp [no]
  | [], _, _, _ => rfl
  | [_], _, _, _ => rfl
  | [_, _], _, _, _ => rfl
  | [_, _, _], _, _, _ => rfl
  | [_, _, _, _], _, _, _ => rfl
  | _ :: _ :: _ :: _ :: _ :: _ :: _, _, _, _ => rfl
theorem not_row_len {H : Hp} {h : Hs} {a : Addr} {xs : List V} (ha : H a = some (.tup xs)) (l : xs.length ≠ 5) : isRowB H h (.ref a) = false := by
  unfold isRowB
  rw [tupOf_tup ha]
  match xs, l with
  | [x0, x1, x2, x3, x4], l => exact (l rfl).elim
  | [], _ => rfl
  | [_], _ => rfl
  | [_, _], _ => rfl
  | [_, _, _], _ => rfl
  | [_, _, _, _], _ => rfl
  | _ :: _ :: _ :: _ :: _ :: _ :: _, _ => rfl

/-! ### tuples joined and cut, whatever they hold -/
theorem catA_go {K : W.Frag} {H : Hp} {Q : VK} {a b : Addr} {xs ys : List V} (ha : H a = some (.tup xs)) (hb : H b = some (.tup ys)) (l : xs.length + ys.length ≤ 100)
    (k : ∀ v H', Same H H' → TupAt H' v (xs ++ ys) → Q v H') : rCatA K (.ref a) (.ref b) H Q := by
  refine ⟨a, b, xs, ys, rfl, rfl, SqT.of ha, SqT.of hb, Nat.le_trans l (by decide), fun z => ?_, fun _ z => ?_, fun _ _ p hp => ?_⟩
  · subst z
    exact k _ _ (Same.refl _) ⟨b, rfl, hb⟩
  · subst z
    exact k _ _ (Same.refl _) ⟨a, rfl, by rw [List.append_nil]; exact ha⟩
  · exact k _ _ (same_upd hp) ⟨p, rfl, upd_same⟩
theorem slA_go {K : W.Frag} {H : Hp} {Q : VK} {a : Addr} {xs : List V} {lo hi : Option Int} (ha : H a = some (.tup xs))
    (k : ∀ v H', Same H H' → TupAt H' v (cutV xs lo hi) → Q v H') : rSlA K (.ref a) lo hi H Q := by
  refine ⟨a, xs, rfl, SqT.of ha, fun z => ?_, fun _ p hp => ?_⟩
  · refine k _ _ (Same.refl _) ⟨a, rfl, ?_⟩
    unfold cutV
    rw [z.1, z.2]
    simpa using ha
  · exact k _ _ (same_upd hp) ⟨p, rfl, upd_same⟩

/-! ### the lists as tuples -/
abbrev TupCall (K : W.Frag) (i : Nat) : TE := tCB (fun xs H Q => ∃ p ys, xs = [V.ref p] ∧ ((SqL K H p ys ∧ ∀ (l : Addr), H l = none → Q (.ref l) (upd H l (.tup ys))) ∨ SqT K H p ys ∧ Q (.ref p) H)) (tCons (tVar i) tNil)
def spAsRow : Sp := fun vs H Q _ => ∃ (p a : Addr) (r : Row), vs = [.ref a] ∧ RowL p H a r ∧ ∀ H' t, Same H H' → RowT H' t r → Q (.ref t) H'
section
variable {P : Program} {w : World} {K : W.Frag} {mg : Str → Option Value} {base : Heap}
theorem paired_get {α β : Type} {R : α → β → Prop} : ∀ {xs : List α} {ys : List β} {i : Nat} {x : α}, Paired R xs ys → xs[i]? = some x → ∃ y, ys[i]? = some y ∧ R x y
  | _, _, 0, _, .cons r _, h => ⟨_, rfl, by cases h; exact r⟩
  | _, _, i + 1, _, .cons _ t, h => paired_get (i := i) t h
  | _, _, _, _, .nil, h => nomatch h
theorem tups_in {H : Hp} {Q : VK} {i j : Nat} {σ : L2.St} {p a : Addr} {r : Row} (hs : σ[j]? = some (some (.ref a))) (t : RowL p H a r)
    (hw : ∀ v, wipe ((wipe σ [i]).set i (some v)) [i] = wipe σ [i]) (hg : ∀ v : V, ((wipe σ [i]).set i (some v))[i]? = some (some v))
    (k : ∀ H' D vs, Same H H' → H D = none → H' D = some (.lst vs) → Paired (TupAt H') vs r.vals → Q (.ref D) H') :
    tLc (iList K (tVar j)) (gName i) tYes (TupCall K i) [i] σ H Q := by
  obtain ⟨_, ls, hl, pl⟩ := t
  refine ⟨_, hs, a, rfl, ⟨_, SqL.of hl⟩, fun D nD => ?_⟩
  refine lc_list (xs := ls) (fun n H' => ∃ vs, (∀ b o, b ≠ D → H b = some o → H' b = some o) ∧ H' D = some (.lst vs) ∧ Paired (TupAt H') vs (r.vals.take n)) ⟨[], fun b o ne e => by rw [upd_ne ne]; exact e, upd_same, .nil⟩
    (fun n H' _ z => by
      obtain ⟨_, keep, _⟩ := z
      exact SqL.of (keep _ _ (ne_of_none hl nD) hl)) ?_ ?_
  · rintro n x H1 hx ⟨vs, keep, at_D, pv⟩
    have hn : n < ls.length := (List.getElem?_eq_some_iff.mp hx).1
    have len := paired_len pl
    have l5 : r.vals.length = 5 := rfl
    have lv := paired_len pv
    rw [List.length_take] at lv
    obtain ⟨xs, hxs, c, rfl, nc, ec⟩ := paired_get pl hx
    have hc : H1 c = some (.lst xs) := keep _ _ (ne_of_none ec nD) ec
    refine ⟨hw _, kept ?_⟩
    refine ⟨_, hg _, c, xs, rfl, .inl ⟨SqL.of hc, fun u nu => ⟨vs, ?_, ?_, vs ++ [.ref u], ?_, upd_same, ?_⟩⟩⟩
    · rw [upd_ne (ne_of_none at_D nu)]
      exact at_D
    · have : (100 : Nat) ≤ sizeLine := by decide
      omega
    · intro b o ne e
      rw [upd_ne ne]
      exact same_upd nu _ _ (keep b o ne e)
    · have tk : r.vals.take (n + 1) = r.vals.take n ++ [xs] := by
        obtain ⟨lt, rfl⟩ := List.getElem?_eq_some_iff.mp hxs
        rw [List.take_succ_eq_append_getElem lt]
      rw [tk]
      have up : ∀ {v ys}, TupAt (upd H1 u (.tup xs)) v ys → TupAt (upd (upd H1 u (.tup xs)) D (.lst (vs ++ [.ref u]))) v ys := fun {v ys} t => t.mono fun c ec => by
        rw [upd_ne (ne_of ec ((upd_ne (ne_of_none at_D nu)).trans at_D) (fun z => by cases z))]
        exact ec
      refine paired_snoc (paired_mono (fun _ _ r => up (r.mono fun c ec => same_upd nu _ _ ec)) pv) (up ⟨u, rfl, upd_same⟩)
  · rintro H1 ⟨vs, keep, at_D, pv⟩
    have len := paired_len pl
    rw [len, List.take_length] at pv
    exact k H1 D vs (fun b o e => keep b o (ne_of_none e nD) e) nD at_D pv
theorem scA : FnScope ["_law_lists", "_law_one"] ["_law_lists"] (defScope sAsRow) := ⟨rfl, rfl, rfl, by decide +kernel, rfl, by decide +kernel, by decide +kernel⟩
theorem ok_asrow {f : Addr} {fd : FuncData} (F : Fun K "_law_as_row" "_law_as_row" sAsRow f fd) (B : Bl mg) : FnOk P w K mg base CX0 1 f fd ["_law_lists"] spAsRow := by
  refine F.ok scA (fun vs H Q E h => ?_) (fun cdv A outer s H vs Q E hr h => ?_)
  · obtain ⟨p, a, r, rfl, _⟩ := h
    rfl
  · obtain ⟨p, a, r, rfl, t, k⟩ := h
    refine ⟨_, pss_one (ps_ret (pe_callTy call_tuple_of (by rfl) B.tuple (by decide +kernel) (pa_cons (pe_lc (own := [("_law_one", 1)]) (g := gName 1) (tt := tYes) (by rfl) scA.nd (pi_list (pv 0))
      (blkOk_by (own := [("_law_one", 1)]) (N := ["_law_lists", "_law_one"]) (sc := defScope sAsRow) (by decide +kernel))
      (fun _ _ _ _ _ => pg_name (i := 1) scA.nd rfl (Or.inl rfl)) (fun _ _ _ _ _ => pts_nil)
      (fun _ _ _ _ _ => (show PE _ _ (TupCall K 1) from pe_callTy call_tuple_of (by rfl) B.tuple (by decide +kernel) (pa_cons (pv 1) pa_nil)))) pa_nil))), ?_⟩
    unfold tRet tCB tCons
    show tLc _ _ _ _ _ _ _ _
    have e1 : (cxOf CX0 P w K mg base ["_law_lists", "_law_one"] "_law_as_row" (defScope sAsRow) f cdv A outer s H E).nox.K = K := rfl
    have e2 : L2.start ["_law_lists", "_law_one"] [V.ref a] = [some (.ref a), none] := rfl
    rw [e1, e2]
    refine tups_in (i := 1) (j := 0) (σ := [some (.ref a), none]) rfl t (by intro; rfl) (by intro; rfl) fun H1 D vs s1 nD at_D pv => ?_
    refine ⟨D, vs, rfl, .inl ⟨SqL.of at_D, fun u nu => k _ u (s1.trans (same_upd nu)) ⟨vs, upd_same, paired_mono (fun _ _ r => r.mono fun c ec => same_upd nu _ _ ec) pv⟩⟩⟩
end
end K03

namespace K03
open PySem PySem.Spec PyProof.Rows L2
open Cal EnuT

/-- a value that is no row of the house -/
def NoRow (H : Hp) (h : Hs) (v : V) : Prop := OkV H v ∧ Ok3 H v ∧ isRowB H h v = false
def spSpoilt : Sp := fun vs H Q _ => ∃ (h : Hs) (p a : Addr) (r : Row), vs = [.ref p, .ref a] ∧ Box H p ∧ RowL p H a r ∧ Good h ∧ GoodRow h r ∧
  ∀ H' v, But p H H' → Box H' p → (v = .non ∨ NoRow H' h v) → Q v H'
theorem item_same {H H' : Hp} (s : Same H H') {h : Hs} {i : Nat} {v : V} (o : OkV H v) : item H' h i v = item H h i v := by
  unfold item
  rw [o.tupOf_same s]
theorem paired_mem {α β : Type} {R : α → β → Prop} : ∀ {xs : List α} {ys : List β} {x : α}, Paired R xs ys → x ∈ xs → ∃ y, y ∈ ys ∧ R x y
  | _, _, _, .cons r t, h => by
    rcases List.mem_cons.mp h with rfl | h
    · exact ⟨_, List.mem_cons_self .., r⟩
    · obtain ⟨y, hy, r⟩ := paired_mem t h
      exact ⟨y, List.mem_cons_of_mem _ hy, r⟩
theorem row_ok2 {H : Hp} {r : Row} {vs : List V} (pv : Paired (TupAt H) vs r.vals) {x : V} (hx : x ∈ vs) : Ok2 H x := by
  obtain ⟨xs, hxs, t⟩ := paired_mem pv hx
  exact t.ok2 (vals_ok r xs hxs)
theorem fin_set {H : Hp} {h : Hs} {r : Row} {vs : List V} {x : V} {i : Nat} {u : Addr} (pv : Paired (TupAt H) vs r.vals) (lt : i < 5) (ox : Ok2 H x) (no : item H h i x = false) (nu : H u = none) : NoRow (upd H u (.tup (vs.set i x))) h (.ref u) := by
  have s : Same H (upd H u (.tup (vs.set i x))) := same_upd nu
  have l5 : vs.length = 5 := paired_len pv
  refine ⟨.tup upd_same, fun xs e y hy => ?_, ?_⟩
  · rw [tupOf_tup upd_same] at e
    obtain rfl := Option.some.inj e
    rcases List.mem_or_eq_of_mem_set hy with z | rfl
    · exact (row_ok2 pv z).same s
    · exact ox.same s
  · refine not_row (i := i) (v := x) upd_same ?_ lt ?_
    · rw [List.getElem?_set_self (by omega)]
    · rw [item_same s ox.1]
      exact no
theorem OkV.updl {H : Hp} {D : Addr} {xs ys : List V} (at_D : H D = some (.lst xs)) {v : V} (o : OkV H v) : OkV (upd H D (.lst ys)) v ∧ tupOf (upd H D (.lst ys)) v = tupOf H v := by
  cases o with
  | non => exact ⟨.non, rfl⟩
  | bl b => exact ⟨.bl b, rfl⟩
  | int i => exact ⟨.int i, rfl⟩
  | str x => exact ⟨.str x, rfl⟩
  | @lst a zs e =>
    by_cases z : a = D
    · subst z
      exact ⟨.lst upd_same, by rw [tupOf_lst upd_same, tupOf_lst e]⟩
    · have e' : upd H D (.lst ys) a = some (.lst zs) := by
        rw [upd_ne z]
        exact e
      exact ⟨.lst e', by rw [tupOf_lst e', tupOf_lst e]⟩
  | @tup a zs e =>
    have z : a ≠ D := ne_of e at_D (fun z => by cases z)
    have e' : upd H D (.lst ys) a = some (.tup zs) := by
      rw [upd_ne z]
      exact e
    exact ⟨.tup e', by rw [tupOf_tup e', tupOf_tup e]⟩
theorem Ok2.updl {H : Hp} {D : Addr} {xs ys : List V} (at_D : H D = some (.lst xs)) {v : V} (o : Ok2 H v) : Ok2 (upd H D (.lst ys)) v :=
  ⟨(o.1.updl at_D).1, fun zs h y hy => ((o.2 zs (by rw [← (o.1.updl (ys := ys) at_D).2]; exact h) y hy).updl at_D).1⟩
theorem close_set {H : Hp} {D : Addr} {vs : List V} {h : Hs} {r : Row} {i : Nat} {z : V} (at_D : H D = some (.lst vs)) (pv : Paired (TupAt H) vs r.vals) (lt : i < 5) (oz : Ok2 H z) (no : item H h i z = false) {u : Addr}
    (nu : upd H D (.lst (vs.set i z)) u = none) : NoRow (upd (upd H D (.lst (vs.set i z))) u (.tup (vs.set i z))) h (.ref u) := by
  refine fin_set (r := r) (paired_mono (fun _ _ t => t.mono fun c ec => by
    rw [upd_ne (ne_of ec at_D (fun z => by cases z))]
    exact ec) pv) lt (oz.updl at_D) ?_ nu
  unfold item
  rw [(oz.1.updl at_D).2]
  exact no
theorem cut_len (vs : List V) (n : Nat) (h : n < vs.length) : (cutV vs none (some (n : Int)) ++ cutV vs (some ((n : Int) + 1)) none).length + 1 = vs.length := by
  unfold cutV HT.sIx
  simp only []
  rw [if_neg (by omega), if_neg (by omega)]
  simp only [List.length_append, List.length_take, List.length_drop]
  omega
theorem cut_mem {vs : List V} {lo hi : Option Int} {y : V} (h : y ∈ cutV vs lo hi) : y ∈ vs := List.mem_of_mem_drop (List.mem_of_mem_take h)
theorem chk_length {h : Hs} {i : Nat} {xs ys : List V} (a : chk h i xs = true) (b : chk h i ys = true) : xs.length = ys.length := by
  unfold chk at a b
  split at a <;> simp at a b <;> omega
theorem chk_mem {h : Hs} {i : Nat} {ys : List V} (b : chk h i ys = true) {y : V} (hy : y ∈ ys) : (i < 2 → isBl y = true) ∧ (i = 2 → isIn 2 y = true) ∧ (i = 3 → isIn 2 y = true) ∧ (4 ≤ i → isIn 4 y = true) := by
  match i, b with
  | 0, b =>
    simp only [chk, Bool.and_eq_true] at b
    exact ⟨fun _ => List.all_eq_true.mp b.2 y hy, fun z => (nomatch z), fun z => (nomatch z), fun z => absurd z (by decide)⟩
  | 1, b =>
    simp only [chk, Bool.and_eq_true] at b
    exact ⟨fun _ => List.all_eq_true.mp b.2 y hy, fun z => (nomatch z), fun z => (nomatch z), fun z => absurd z (by decide)⟩
  | 2, b =>
    simp only [chk, Bool.and_eq_true] at b
    exact ⟨fun z => absurd z (by decide), fun _ => List.all_eq_true.mp b.2 y hy, fun z => (nomatch z), fun z => absurd z (by decide)⟩
  | 3, b =>
    simp only [chk, Bool.and_eq_true] at b
    exact ⟨fun z => absurd z (by decide), fun z => (nomatch z), fun _ => List.all_eq_true.mp b.2 y hy, fun z => absurd z (by decide)⟩
  | n + 4, b =>
    simp only [chk, Bool.and_eq_true] at b
    exact ⟨fun z => absurd z (by omega), fun z => absurd z (by omega), fun z => absurd z (by omega), fun _ => List.all_eq_true.mp b.2 y hy⟩
theorem chk_few {h : Hs} (g : Good h) {i : Nat} {xs : List V} (a : chk h i xs = true) : xs.length ≤ 5 := by
  have := g.p4
  have := g.d5
  have := g.c3
  unfold chk at a
  split at a <;> simp at a <;> omega
theorem not_tup {H : Hp} {h : Hs} {v : V} (o : OkV H v) (n : tupOf H v = none) : NoRow H h v := by
  refine ⟨o, fun xs e => ?_, ?_⟩
  · rw [n] at e
    cases e
  · unfold isRowB
    rw [n]
theorem few_items {H : Hp} {h : Hs} {a : Addr} {xs : List V} (e : H a = some (.tup xs)) (l : xs.length ≠ 5) (o : ∀ x, x ∈ xs → Ok2 H x) : NoRow H h (.ref a) := by
  refine ⟨.tup e, fun ys ey y hy => ?_, not_row_len e l⟩
  rw [tupOf_tup e] at ey
  obtain rfl := Option.some.inj ey
  exact o y hy
theorem ok2_flat {H : Hp} {v : V} (o : OkV H v) (n : tupOf H v = none) : Ok2 H v := ⟨o, fun ys e => by rw [n] at e; cases e⟩
theorem item_none {H : Hp} {h : Hs} {i : Nat} {v : V} (n : tupOf H v = none) : item H h i v = false := by
  unfold item
  rw [n]
theorem ix_nat {n : Nat} {i : Nat} (h : i < n) : ixN n (i : Int) = some i := by
  unfold ixN
  rw [if_pos (by omega), if_pos (by omega)]
  rfl
def toD : V → PyData
  | .bl b => .bool b
  | .int i => .int i
  | _ => .none
def flatX : V → Bool
  | .bl _ => true
  | .int _ => true
  | _ => false
theorem vals_flat (r : Row) : ∀ xs, xs ∈ r.vals → ∀ x, x ∈ xs → flatX x = true := by
  intro xs h x hx
  simp only [Row.vals, List.mem_cons, List.not_mem_nil, or_false] at h
  rcases h with rfl | rfl | rfl | rfl | rfl <;> (obtain ⟨b, _, rfl⟩ := List.mem_map.mp hx; rfl)
theorem flat_data {K : W.Frag} {H : Hp} {xs : List V} (h : ∀ x, x ∈ xs → flatX x = true) : ∃ ds : List PyData, (∀ H', DpAll K H' xs ds) ∧ SeqAt.shaped (.list ds) = true ∧ PyData.eqv (.list ds) (.list []) = xs.isEmpty := by
  refine ⟨xs.map toD, fun H' => ?_, ?_, ?_⟩
  · induction xs with
    | nil => exact .nil
    | cons x xs ih =>
      refine .cons ?_ (ih fun y hy => h y (List.mem_cons_of_mem _ hy))
      have := h x (List.mem_cons_self ..)
      match x, this with
      | .bl b, _ => exact .bl b
      | .int i, _ => exact .int i
  · have : PyData.canLayAll0 (xs.map toD) = true ∧ PyData.depthAll (xs.map toD) ≤ 1 := by
      induction xs with
      | nil => simp [PyData.canLayAll0, PyData.depthAll]
      | cons x xs ih =>
        have ih := ih fun y hy => h y (List.mem_cons_of_mem _ hy)
        have hx := h x (List.mem_cons_self ..)
        match x, hx with
        | .bl b, _ => simp [toD, PyData.canLayAll0, PyData.canLay0, PyData.depthAll, PyData.depth, ih.1]; omega
        | .int i, _ => simp [toD, PyData.canLayAll0, PyData.canLay0, PyData.depthAll, PyData.depth, ih.1]; omega
    simp [SeqAt.shaped, PyData.canLay0, PyData.depth, this.1]
    omega
  · cases xs with
    | nil => rfl
    | cons x xs => rfl
/-- what can't stand at place i of a row -/
def Odd (i : Nat) (z : V) : Prop := (i < 2 → isBl z = false) ∧ (i = 2 → isIn 2 z = false) ∧ (i = 3 → isIn 2 z = false) ∧ (4 ≤ i → isIn 4 z = false)
theorem odd_no {h : Hs} {i : Nat} {ys : List V} {z : V} (o : Odd i z) (hz : z ∈ ys) : chk h i ys = false := by
  cases e : chk h i ys with
  | false => rfl
  | true =>
    obtain ⟨c1, c2, c3, c4⟩ := chk_mem e hz
    obtain ⟨o1, o2, o3, o4⟩ := o
    rcases (by omega : i < 2 ∨ i = 2 ∨ i = 3 ∨ 4 ≤ i) with q | q | q | q
    · rw [o1 q] at c1; exact absurd (c1 q) (by decide)
    · rw [o2 q] at c2; exact absurd (c2 q) (by decide)
    · rw [o3 q] at c3; exact absurd (c3 q) (by decide)
    · rw [o4 q] at c4; exact absurd (c4 q) (by decide)
def OddV (H : Hp) (z : V) : Prop := (∃ a ys, z = .ref a ∧ H a = some (.tup ys) ∧ ∀ y, y ∈ ys → flatX y = true) ∨ (∀ H', OkV H' z ∧ tupOf H' z = none)
theorem odd_list {K : W.Frag} {σ : L2.St} {H : Hp} {Q : VK} {i : Nat} (hs : σ[2]? = some (some (.int (i : Int)))) (i5 : i < 5)
    (k : ∀ H' m zs, Same H H' → H m = none → H' m = some (.lst zs) → 1 ≤ zs.length → zs.length ≤ 10 → (∀ z, z ∈ zs → OddV H' z ∧ Odd i z) → Q (.ref m) H') :
    tIf (tTest (tOp (rI0 fun i j => V.bl (decide (i < j))) (tVar 2) (tC (V.int 2))))
      (tLst (tCons (tC (V.int 0)) (tCons (tC (V.int 1)) (tCons (tC V.non) (tCons (tC (V.str "x")) (tCons (tTup (tCons (tC (V.bl true)) tNil)) tNil))))))
      (tLst (tCons (tC (V.bl true)) (tCons (tC (V.bl false)) (tCons (tC V.non) (tCons (tOp (rI0 fun i j => V.int (i - j)) (tC (V.int 0)) (tC (V.int 1)))
        (tCons (tOp (rIxL K) (tLst (tCons (tC (V.int 3)) (tCons (tC (V.int 3)) (tCons (tC (V.int 5)) tNil)))) (tOp (rI0 fun i j => V.int (i - j)) (tVar 2) (tC (V.int 2))))
        (tCons (tC (V.str "0")) (tCons (tTup (tCons (tC (V.int 0)) tNil)) (tCons (tOp (rI CPow fun i j => V.int (i ^ j.toNat)) (tC (V.int 10)) (tC (V.int 9))) tNil))))))))) σ H Q := by
  refine ⟨_, hs, _, _, rfl, rfl, _, rfl, ?_⟩
  refine ite2 (fun hb => ?_) (fun hb => ?_)
  · have lt : i < 2 := by
      have := of_decide_eq_true hb
      omega
    refine ⟨by show 1 ≤ sizeLine; decide, fun t nt => ⟨by show 5 ≤ sizeLine; decide, fun m nm => ?_⟩⟩
    have s1 := same_upd (o := .lst [.int 0, .int 1, .non, .str "x", .ref t]) nm
    refine k _ m _ ((same_upd nt).trans s1) (none_of_upd nm).1 upd_same (by show 1 ≤ 5; decide) (by show 5 ≤ 10; decide) fun z hz => ?_
    have et := s1 t _ upd_same
    have od : isBl z = false → Odd i z := fun e => ⟨fun _ => e, fun q => by omega, fun q => by omega, fun q => by omega⟩
    simp only [List.mem_cons, List.not_mem_nil, or_false] at hz
    rcases hz with rfl | rfl | rfl | rfl | rfl
    · exact ⟨.inr fun _ => ⟨.int _, rfl⟩, od rfl⟩
    · exact ⟨.inr fun _ => ⟨.int _, rfl⟩, od rfl⟩
    · exact ⟨.inr fun _ => ⟨.non, rfl⟩, od rfl⟩
    · exact ⟨.inr fun _ => ⟨.str _, rfl⟩, od rfl⟩
    · refine ⟨.inl ⟨t, _, rfl, et, fun y hy => ?_⟩, od rfl⟩
      obtain rfl := List.mem_singleton.mp hy
      rfl
  · have lt : 2 ≤ i := by
      have : ¬ ((i : Int) < 2) := fun z => hb (decide_eq_true z)
      omega
    obtain ⟨v, hv, v2, v3, v4⟩ : ∃ v : Int, atI [V.int 3, V.int 3, V.int 5] ((i : Int) - 2) = some (V.int v) ∧ (i = 2 → v = 3) ∧ (i = 3 → v = 3) ∧ (i = 4 → v = 5) := by
      match i, lt, i5 with
      | 2, _, _ => exact ⟨3, rfl, fun _ => rfl, fun _ => rfl, fun z => (nomatch z)⟩
      | 3, _, _ => exact ⟨3, rfl, fun _ => rfl, fun _ => rfl, fun z => (nomatch z)⟩
      | 4, _, _ => exact ⟨5, rfl, fun z => (nomatch z), fun z => (nomatch z), fun _ => rfl⟩
    refine ⟨_, _, rfl, rfl, by show 3 ≤ sizeLine; decide, fun q nq => ⟨_, hs, _, _, rfl, rfl, q, _, _, _, rfl, rfl, SqL.of upd_same, hv, ?_⟩⟩
    refine ⟨by show 1 ≤ sizeLine; decide, fun t nt => ⟨_, _, rfl, rfl, ⟨by decide, by decide, by decide⟩, by show 8 ≤ sizeLine; decide, fun m nm => ?_⟩⟩
    have s1 := same_upd (o := .lst [.bl true, .bl false, .non, .int (0 - 1), .int v, .str "0", .ref t, .int (10 ^ (9 : Int).toNat)]) nm
    refine k _ m _ (((same_upd nq).trans (same_upd nt)).trans s1) (none_of_upd (none_of_upd nm).1).1 upd_same (by show 1 ≤ 8; decide) (by show 8 ≤ 10; decide) fun z hz => ?_
    have et := s1 t _ upd_same
    have od : isIn 2 z = false → isIn 4 z = false → Odd i z := fun e e' => ⟨fun q => by omega, fun _ => e, fun _ => e, fun _ => e'⟩
    simp only [List.mem_cons, List.not_mem_nil, or_false] at hz
    rcases hz with rfl | rfl | rfl | rfl | rfl | rfl | rfl | rfl
    · exact ⟨.inr fun _ => ⟨.bl _, rfl⟩, od rfl rfl⟩
    · exact ⟨.inr fun _ => ⟨.bl _, rfl⟩, od rfl rfl⟩
    · exact ⟨.inr fun _ => ⟨.non, rfl⟩, od rfl rfl⟩
    · exact ⟨.inr fun _ => ⟨.int _, rfl⟩, od rfl rfl⟩
    · refine ⟨.inr fun _ => ⟨.int _, rfl⟩, fun q => by omega, fun q => ?_, fun q => ?_, fun q => ?_⟩
      · rw [v2 q]; rfl
      · rw [v3 q]; rfl
      · rw [v4 (by omega)]; rfl
    · exact ⟨.inr fun _ => ⟨.str _, rfl⟩, od rfl rfl⟩
    · refine ⟨.inl ⟨t, _, rfl, et, fun y hy => ?_⟩, od rfl rfl⟩
      obtain rfl := List.mem_singleton.mp hy
      rfl
    · exact ⟨.inr fun _ => ⟨.int _, rfl⟩, od (by decide) (by decide)⟩
theorem ok_flatX {H : Hp} {y : V} (h : flatX y = true) : OkV H y := by
  match y, h with
  | .bl b, _ => exact .bl b
  | .int i, _ => exact .int i
theorem RowL.but {p a : Addr} {H H' : Hp} {r : Row} (t : RowL p H a r) (b : But p H H') : RowL p H' a r := by
  obtain ⟨n, vs, hv, pv⟩ := t
  exact ⟨n, vs, b _ _ n hv, paired_mono (fun _ _ r => r.mono (fun c nc ec => b _ _ (by simpa using nc) ec) fun _ z => z) pv⟩
theorem rows_but {p : Addr} {H H' : Hp} {vs : List V} {ls : List (List V)} (x : Box H p) (b : But p H H') (pv : Paired (TupAt H) vs ls) : Paired (TupAt H') vs ls :=
  paired_mono (fun _ _ r => r.mono fun c ec => b _ _ (x.ne ec (fun _ _ _ z => by cases z)) ec) pv
section
variable {P : Program} {w : World} {K : W.Frag} {mg : Str → Option Value} {base : Heap}
theorem scS : FnScope ["_law_box_here", "_law_lists", "_law_at", "_law_form", "_law_row", "_law_spot", "_law_odd", "_law_one"] ["_law_box_here", "_law_lists"] (defScope sSpoilt) := ⟨rfl, rfl, rfl, by decide +kernel, rfl, by decide +kernel, by decide +kernel⟩
theorem ok_spoilt {f : Addr} {fd : FuncData} (F : Fun K "_law_spoilt" "_law_spoilt" sSpoilt f fd) (B : Bl mg) (T : Callee P w K mg base "_law_take" 1 ["_law_box_here", "_law_many"] spTake)
    (Pk : Callee P w K mg base "_law_pick" 2 ["_law_box_here", "_law_some"] spPick) : FnOk P w K mg base CX0 3 f fd ["_law_box_here", "_law_lists"] spSpoilt := by
  refine F.ok scS (fun vs H Q E h => ?_) (fun cdv A outer s H vs Q E hr h => ?_)
  · obtain ⟨h, p, a, r, rfl, _⟩ := h
    rfl
  · obtain ⟨h, p, a, r, rfl, hB, hl, good, gr, k⟩ := h
    have hr1 := hr.mono (show 1 ≤ 2 by decide)
    have un := hr.units
    refine ⟨_, pss_cons (ps_par (i := 2) (j := 3) (by rfl) scS.nd rfl rfl (by decide) rfl rfl (pa_cons (pe_callee T hr1 rfl (pa_cons (pv 0) (pa_cons pe_int pa_nil))) (pa_cons (pe_callee T hr1 rfl (pa_cons (pv 0) (pa_cons pe_int pa_nil))) pa_nil)) (by rfl))
      (pss_cons (ps_setLc (i := 4) (own := [("_law_one", 7)]) (g := gName 7) (tt := tYes) (by rfl) scS.nd rfl rfl (sw_true rfl rfl rfl (by decide +kernel)) (pi_list (pv 1))
        (blkOk_by (own := [("_law_one", 7)]) (N := ["_law_box_here", "_law_lists", "_law_at", "_law_form", "_law_row", "_law_spot", "_law_odd", "_law_one"]) (sc := defScope sSpoilt) (by decide +kernel))
        (fun _ _ _ _ _ => pg_name (i := 7) scS.nd rfl (Or.inl rfl)) (fun _ _ _ _ _ => pts_nil)
        (fun _ _ _ _ _ => (show PE _ _ (TupCall K 7) from pe_callTy call_tuple_of (by rfl) B.tuple (by decide +kernel) (pa_cons (pv 7) pa_nil))))
      (pss_cons (ps_if (pt_cmpR op_eq (pv 3) pe_int (nomark _))
        (pss_one (ps_ret (pe_callTy call_tuple_of (by rfl) B.tuple (by decide +kernel) (pa_cons (pe_op op_cat (pe_slice sl_list (pv 4) po_none (po_some (pv 2))) (pe_slice sl_list (pv 4) (po_some (pe_op op_add (pv 2) pe_int)) po_none)) pa_nil)))) pss_nil)
      (pss_cons (ps_if (pt_cmpR op_eq (pv 3) pe_int (nomark _))
        (pss_cons (ps_asg (pe_op op_catA (pe_ix ix_list (pv 4) (pv 2) (fun _ _ => rfl)) (pe_tup (pa_cons (pe_callee Pk hr rfl (pa_cons (pv 0) (pa_cons (pe_lst (pa_cons pe_bl (pa_cons pe_int (pa_cons pe_non pa_nil)))) pa_nil))) pa_nil))) (pg_sub (pv 4) (pv 2) set_list))
        (pss_one (ps_ret (pe_callTy call_tuple_of (by rfl) B.tuple (by decide +kernel) (pa_cons (pv 4) pa_nil))))) pss_nil)
      (pss_cons (ps_if (pt_cmpR op_eq (pv 3) pe_int (nomark _))
        (pss_cons (ps_asg (pe_callee Pk hr rfl (pa_cons (pv 0) (pa_cons (pe_lst (pa_cons (pe_callTy call_list_of (by rfl) B.list (by decide +kernel) (pa_cons (pe_ix ix_list (pv 4) (pv 2) (fun _ _ => rfl)) pa_nil)) (pa_cons pe_non (pa_cons pe_int (pa_cons pe_str (pa_cons pe_bl pa_nil)))))) pa_nil))) (pg_sub (pv 4) (pv 2) set_list))
        (pss_one (ps_ret (pe_callTy call_tuple_of (by rfl) B.tuple (by decide +kernel) (pa_cons (pv 4) pa_nil))))) pss_nil)
      (pss_cons (ps_if (pt_cmpR op_eq (pv 3) pe_int (nomark _))
        (pss_one (ps_ret (pe_callee Pk hr rfl (pa_cons (pv 0) (pa_cons (pe_lst (pa_cons (pv 4) (pa_cons pe_non (pa_cons (pe_tup pa_nil) (pa_cons pe_int (pa_cons pe_str
          (pa_cons (pe_callTy call_tuple_of (by rfl) B.tuple (by decide +kernel) (pa_cons (pe_op op_cat (pv 4) (pe_lst (pa_cons (pe_tup pa_nil) pa_nil))) pa_nil)) (pa_cons (pe_tup (pa_cons (pv 4) pa_nil)) pa_nil)))))))) pa_nil))))) pss_nil)
      (pss_cons (ps_if (pt_cmpR (op_eqD un) (pe_ix ix_list (pv 1) (pv 2) (fun _ _ => rfl)) (pe_lst pa_nil) (nomark _)) (pss_one (ps_ret pe_non)) pss_nil)
      (pss_cons (ps_set (i := 5) scS.nd rfl (Or.inl rfl) (pe_callee T hr1 rfl (pa_cons (pv 0) (pa_cons (pe_callB call_len_seq (by rfl) B.nums.len PySem.boot_len (pa_cons (pe_ix ix_list (pv 1) (pv 2) (fun _ _ => rfl)) pa_nil)) pa_nil))))
      (pss_cons (ps_set (i := 6) scS.nd rfl (Or.inl rfl) (pe_callee Pk hr rfl (pa_cons (pv 0) (pa_cons (pe_ifExp (pt_cmpR op_lt (pv 2) pe_int (nomark _))
          (pe_lst (pa_cons pe_int (pa_cons pe_int (pa_cons pe_non (pa_cons pe_str (pa_cons (pe_tup (pa_cons pe_bl pa_nil)) pa_nil))))))
          (pe_lst (pa_cons pe_bl (pa_cons pe_bl (pa_cons pe_non (pa_cons (pe_op op_sub pe_int pe_int) (pa_cons (pe_ix ix_list (pe_lst (pa_cons pe_int (pa_cons pe_int (pa_cons pe_int pa_nil)))) (pe_op op_sub (pv 2) pe_int) (fun _ _ => rfl))
            (pa_cons pe_str (pa_cons (pe_tup (pa_cons pe_int pa_nil)) (pa_cons (pe_op op_pow pe_int pe_int) pa_nil)))))))))) pa_nil))))
      (pss_cons (ps_asg (pe_op op_catA (pe_op op_catA (pe_slice sl_tupA (pe_ix ix_list (pv 4) (pv 2) (fun _ _ => rfl)) po_none (po_some (pv 5))) (pe_tup (pa_cons (pv 6) pa_nil)))
          (pe_slice sl_tupA (pe_ix ix_list (pv 4) (pv 2) (fun _ _ => rfl)) (po_some (pe_op op_add (pv 5) pe_int)) po_none)) (pg_sub (pv 4) (pv 2) set_list))
      (pss_one (ps_ret (pe_callTy call_tuple_of (by rfl) B.tuple (by decide +kernel) (pa_cons (pv 4) pa_nil))))))))))))), ?_⟩
    refine ⟨_, rfl, p, _, rfl, hB, by decide, by decide, fun r1 H1 r10 r15 but1 x1 => ⟨_, rfl, p, _, rfl, x1, by decide, by decide, fun r2 H2 r20 r26 but2 x2 => ⟨_, _, rfl, ?_⟩⟩⟩
    have t2 := (hl.but but1).but but2
    have b2 := but1.trans but2
    have e1 : (cxOf CX0 P w K mg base ["_law_box_here", "_law_lists", "_law_at", "_law_form", "_law_row", "_law_spot", "_law_odd", "_law_one"] "_law_spoilt" (defScope sSpoilt) f cdv A outer s H E).nox.K = K := rfl
    unfold tSeq tAsg
    dsimp only
    rw [e1]
    refine tups_in (i := 7) (j := 1) rfl t2 (by intro; rfl) (by intro; rfl) fun H3 D vs s3 nD at_D pv => ?_
    obtain ⟨i, rfl⟩ : ∃ j : Nat, r1 = (j : Int) := ⟨r1.toNat, by omega⟩
    have i5 : i < 5 := by
      have : (i : Int) < 5 := r15
      omega
    have b3 : But p H H3 := b2.trans (But.of_same s3)
    have x3 : Box H3 p := x2.same s3
    have t3 : RowL p H3 a r := t2.but (But.of_same s3)
    have l5 : vs.length = 5 := paired_len pv
    have Dp : D ≠ p := fun z => by
      obtain ⟨c0, c1, c2, ec, _⟩ := x2
      rw [← z, nD] at ec
      cases ec
    have hD0 : H D = none := b2.free x2 nD
    obtain ⟨v, hv⟩ : ∃ v, vs[i]? = some v := ⟨vs[i], List.getElem?_eq_getElem (by omega)⟩
    obtain ⟨xs, hxs, tv⟩ := paired_get pv hv
    have cx := vals_chk gr i xs hxs
    -- what is put into the row at last
    have close : ∀ {H4 : Hp} {z : V}, But p H H4 → Box H4 p → H4 D = some (.lst vs) → Paired (TupAt H4) vs r.vals → Ok2 H4 z → item H4 h i z = false → ∀ u, upd H4 D (.lst (vs.set i z)) u = none → Q (.ref u) (upd (upd H4 D (.lst (vs.set i z))) u (.tup (vs.set i z))) := by
      intro H4 z b4 x4 at_D4 pv4 oz no u nu
      refine k _ _ (fun c o ne e => ?_) ?_ (.inr (close_set at_D4 pv4 i5 oz no nu))
      · have e4 := b4 c o ne e
        have e5 : upd H4 D (.lst (vs.set i z)) c = some o := by
          rw [upd_ne (fun y => by rw [y, hD0] at e; cases e)]
          exact e4
        exact same_upd nu _ _ e5
      · obtain ⟨c0, c1, c2, ec, hc⟩ := x4
        refine ⟨c0, c1, c2, same_upd nu _ _ ?_, hc⟩
        rw [upd_ne (Ne.symm Dp)]
        exact ec
    refine ⟨_, rfl, rfl, _, rfl, ?_⟩
    refine ite2 (fun f0 => ?_) (fun f0 => ?_)
    · refine ⟨_, rfl, _, rfl, _, rfl, D, vs, rfl, SqL.of at_D, fun q nq => ⟨_, rfl, _, rfl, _, _, rfl, rfl, _, rfl, D, vs, rfl, SqL.of (same_upd nq _ _ at_D), fun q2 nq2 => ?_⟩⟩
      have e1 := same_upd (o := .lst (cutV vs (some ((i : Int) + 1)) none)) nq2 q _ upd_same
      have cl := cut_len vs i (by omega)
      have ll : (cutV vs none (some (i : Int))).length + (cutV vs (some ((i : Int) + 1)) none).length = 4 := by
        rw [List.length_append] at cl
        omega
      refine ⟨q, q2, _, _, rfl, rfl, e1, upd_same, ?_, fun q3 nq3 => ⟨q3, _, rfl, .inl ⟨SqL.of upd_same, fun u nu => ?_⟩⟩⟩
      · have : (100 : Nat) ≤ sizeLine := by decide
        omega
      · have s4 := (((same_upd nq).trans (same_upd nq2)).trans (same_upd nq3)).trans (same_upd (o := .tup (cutV vs none (some (i : Int)) ++ cutV vs (some ((i : Int) + 1)) none)) nu)
        refine k _ _ (b3.trans (But.of_same s4)) (x3.same s4) (.inr (few_items upd_same (by rw [List.length_append]; omega) fun x hx => Ok2.same s4 (row_ok2 pv ?_)))
        rcases List.mem_append.mp hx with z | z
        · exact cut_mem z
        · exact cut_mem z
    refine ⟨_, rfl, rfl, _, rfl, ?_⟩
    refine ite2 (fun f1 => ?_) (fun f1 => ?_)
    · refine ⟨_, rfl, _, rfl, D, vs, _, v, rfl, rfl, SqL.of at_D, atI_nat hv, _, rfl, by show 3 ≤ sizeLine; decide, fun l nl => ?_⟩
      refine ⟨p, l, _, rfl, ?_, x3.same (same_upd nl), upd_same, by show 1 ≤ 3; decide, by show 3 ≤ 1000; decide, fun x H4 hx but4 x4 => ⟨by show 1 ≤ sizeLine; decide, fun t nt => ?_⟩⟩
      · intro z
        obtain ⟨c0, c1, c2, ec, _⟩ := x3
        rw [z, nl] at ec
        cases ec
      have b4 : But p H3 H4 := (But.of_same (same_upd nl)).trans but4
      have ox : ∀ H', OkV H' x := by
        intro H'
        simp only [List.mem_cons, List.not_mem_nil, or_false] at hx
        rcases hx with rfl | rfl | rfl
        · exact .bl _
        · exact .int _
        · exact .non
      have pv4 := rows_but x3 b4 pv
      obtain ⟨c, rfl, ec⟩ := tv
      have ec4 : H4 c = some (.tup xs) := b4 _ _ (x3.ne ec (fun _ _ _ z => by cases z)) ec
      have few : xs.length ≤ 5 := chk_few good cx
      refine catA_go (same_upd nt _ _ ec4) upd_same (by show xs.length + 1 ≤ 100; omega) fun z H5 s5 tz => ?_
      have s6 : Same H4 H5 := (same_upd nt).trans s5
      have at_D5 : H5 D = some (.lst vs) := s6 _ _ (b4 _ _ Dp at_D)
      refine ⟨_, rfl, _, rfl, D, vs, _, i, rfl, rfl, at_D5, ix_nat (by omega), _, rfl, D, _, rfl, .inl ⟨SqL.of upd_same, fun u nu => ?_⟩⟩
      refine close ((b3.trans b4).trans (But.of_same s6)) (x4.same s6) at_D5 (paired_mono (fun _ _ t => t.mono fun c ec => s6 _ _ ec) pv4) (tz.ok2 fun y hy => ?_) ?_ u nu
      · rcases List.mem_append.mp hy with z | z
        · exact vals_ok r xs (List.mem_of_getElem? hxs) y z
        · obtain rfl := List.mem_singleton.mp z
          exact ox _
      · rw [tz.item]
        cases e : chk h i (xs ++ [x]) with
        | false => rfl
        | true =>
          have := chk_length cx e
          rw [List.length_append] at this
          simp at this
    have np : ∀ {l : Addr}, H3 l = none → l ≠ p := fun {l} nl z => by
      obtain ⟨c0, c1, c2, ec, _⟩ := x3
      rw [← z, nl] at ec
      cases ec
    refine ⟨_, rfl, rfl, _, rfl, ?_⟩
    refine ite2 (fun f2 => ?_) (fun f2 => ?_)
    · obtain ⟨c, rfl, ec⟩ := tv
      refine ⟨_, rfl, _, rfl, _, rfl, D, vs, _, .ref c, rfl, rfl, SqL.of at_D, atI_nat hv, c, xs, rfl, .inr (SqT.of ec), fun l nl => ⟨by show 5 ≤ sizeLine; decide, fun m nm => ?_⟩⟩
      obtain ⟨nm0, lm⟩ := none_of_upd nm
      have s4 : Same H3 (upd (upd H3 l (.lst xs)) m (.lst [.ref l, .non, .int 0, .str "", .bl true])) := (same_upd nl).trans (same_upd nm)
      refine ⟨p, m, _, rfl, (np nm0).symm, x3.same s4, upd_same, by show 1 ≤ 5; decide, by show 5 ≤ 1000; decide, fun x H4 hx but4 x4 => ?_⟩
      have b4 : But p H3 H4 := (But.of_same s4).trans but4
      have at_D4 := b4 _ _ Dp at_D
      have at_l4 : H4 l = some (.lst xs) := but4 _ _ (np nl) ((upd_ne lm).trans upd_same)
      have ox : OkV H4 x ∧ tupOf H4 x = none := by
        simp only [List.mem_cons, List.not_mem_nil, or_false] at hx
        rcases hx with rfl | rfl | rfl | rfl | rfl
        · exact ⟨.lst at_l4, tupOf_lst at_l4⟩
        · exact ⟨.non, rfl⟩
        · exact ⟨.int _, rfl⟩
        · exact ⟨.str _, rfl⟩
        · exact ⟨.bl _, rfl⟩
      refine ⟨_, rfl, _, rfl, D, vs, _, i, rfl, rfl, at_D4, ix_nat (by omega), _, rfl, D, _, rfl, .inl ⟨SqL.of upd_same, fun u nu => ?_⟩⟩
      exact close (b3.trans b4) x4 at_D4 (rows_but x3 b4 pv) (ok2_flat ox.1 ox.2) (item_none ox.2) u nu
    refine ⟨_, rfl, rfl, _, rfl, ?_⟩
    refine ite2 (fun f3 => ?_) (fun f3 => ?_)
    · refine ⟨_, rfl, _, rfl, Nat.zero_le _, fun e ne => ⟨_, rfl, Nat.zero_le _, fun e2 ne2 => ⟨by show 1 ≤ sizeLine; decide, fun l nl => ⟨D, l, vs, _, rfl, rfl, ?_, upd_same, ?_, fun m nm => ?_⟩⟩⟩⟩
      · exact same_upd nl _ _ (same_upd ne2 _ _ (same_upd ne _ _ at_D))
      · have : (100 : Nat) ≤ sizeLine := by decide
        show vs.length + 1 ≤ sizeLine
        omega
      · refine ⟨m, _, rfl, .inl ⟨SqL.of upd_same, fun u6 nu6 => ⟨_, rfl, by show 1 ≤ sizeLine; decide, fun u1 nu1 => ⟨by show 7 ≤ sizeLine; decide, fun mm nmm => ?_⟩⟩⟩⟩
        have S1 := same_upd (o := .tup []) ne
        have S2 := same_upd (o := .tup []) ne2
        have S3 := same_upd (o := .lst [.ref e2]) nl
        have S4 := same_upd (o := .lst (vs ++ [.ref e2])) nm
        have S5 := same_upd (o := .tup (vs ++ [.ref e2])) nu6
        have S6 := same_upd (o := .tup [.ref D]) nu1
        have S7 := same_upd (o := .lst [.ref D, .non, .ref e, .int 5, .str "row", .ref u6, .ref u1]) nmm
        have S67 := S6.trans S7
        have S57 := S5.trans S67
        have S27 := ((S2.trans S3).trans S4).trans S57
        have S17 := S1.trans S27
        have S37 := (S3.trans S4).trans S57
        have at_e := S27 e _ upd_same
        have at_e2 := S37 e2 _ upd_same
        have at_6 := S67 u6 _ upd_same
        have at_1 := S7 u1 _ upd_same
        have mp : mm ≠ p := fun z => by
          obtain ⟨c0, c1, c2, ec, _⟩ := x3
          have := (S1.trans ((S2.trans S3).trans S4)).trans (S5.trans S6) _ _ ec
          rw [← z, nmm] at this
          cases this
        refine ⟨p, mm, _, rfl, Ne.symm mp, x3.same S17, upd_same, by show 1 ≤ 7; decide, by show 7 ≤ 1000; decide, fun x H4 hx but4 x4 => ?_⟩
        have b4 : But p H3 H4 := (But.of_same S17).trans but4
        have at_D4 := b4 _ _ Dp at_D
        have x7 : Box _ p := x3.same S17
        have e4 := but4 _ _ (x7.ne at_e (fun _ _ _ z => by cases z)) at_e
        have e24 := but4 _ _ (x7.ne at_e2 (fun _ _ _ z => by cases z)) at_e2
        have e64 := but4 _ _ (x7.ne at_6 (fun _ _ _ z => by cases z)) at_6
        have e14 := but4 _ _ (x7.ne at_1 (fun _ _ _ z => by cases z)) at_1
        have pv4 := rows_but x3 b4 pv
        refine k _ _ (b3.trans b4) x4 ?_
        simp only [List.mem_cons, List.not_mem_nil, or_false] at hx
        rcases hx with rfl | rfl | rfl | rfl | rfl | rfl | rfl
        · exact .inr (not_tup (.lst at_D4) (tupOf_lst at_D4))
        · exact .inl rfl
        · exact .inr (few_items e4 (by decide) fun x hx => nomatch hx)
        · exact .inr (not_tup (.int _) rfl)
        · exact .inr (not_tup (.str _) rfl)
        · refine .inr (few_items e64 (by rw [List.length_append, l5]; show 5 + 1 ≠ 5; decide) fun x hx => ?_)
          rcases List.mem_append.mp hx with z | z
          · exact row_ok2 pv4 z
          · obtain rfl := List.mem_singleton.mp z
            exact TupAt.ok2 ⟨e2, rfl, e24⟩ fun x hx => nomatch hx
        · refine .inr (few_items e14 (by show 1 ≠ 5; decide) fun x hx => ?_)
          obtain rfl := List.mem_singleton.mp hx
          exact ok2_flat (.lst at_D4) (tupOf_lst at_D4)
    -- another thing in the place of one
    obtain ⟨_, ls, hls, pls⟩ := t3
    obtain ⟨c, hc⟩ : ∃ c, ls[i]? = some c := ⟨ls[i]'(by have := paired_len pls; have l5' : r.vals.length = 5 := rfl; omega), List.getElem?_eq_getElem _⟩
    obtain ⟨xs', hxs', c, rfl, nc, ec⟩ := paired_get pls hc
    obtain rfl : xs' = xs := Option.some.inj (hxs'.symm.trans hxs)
    obtain ⟨ds, dall, shp, eqv⟩ := flat_data (K := K) (H := H3) (xs := xs') (vals_flat r xs' (List.mem_of_getElem? hxs))
    refine ⟨_, rfl, _, rfl, a, ls, _, .ref c, rfl, rfl, SqL.of hls, atI_nat hc, Nat.zero_le _, fun l nl => ?_⟩
    have sl := same_upd (o := .lst []) nl
    refine ⟨.list ds, .list [], .lst (SqL.of (sl _ _ ec)) (dall _), .lst (SqL.of upd_same) .nil, shp, rfl, _, rfl, ?_⟩
    rw [eqv]
    have few : xs'.length ≤ 5 := chk_few good cx
    refine ite2 (fun emp => ?_) (fun emp => ?_)
    · exact k _ _ (b3.trans (But.of_same sl)) (x3.same sl) (.inl rfl)
    have pos : 0 < xs'.length := by
      cases xs' with
      | nil => exact absurd rfl emp
      | cons y ys => exact Nat.succ_pos _
    refine ⟨_, rfl, _, rfl, _, rfl, a, ls, _, .ref c, rfl, rfl, SqL.of (sl _ _ hls), atI_nat hc, c, _, rfl, .inl (SqL.of (sl _ _ ec)), p, _, rfl, x3.same sl, by omega, by omega, fun sp H5 sp0 spl but5 x5 => ?_⟩
    have b5 : But p H3 H5 := (But.of_same sl).trans but5
    have pv5 := rows_but x3 b5 pv
    have at_D5 := b5 _ _ Dp at_D
    refine ⟨_, rfl, ?_⟩
    refine odd_list (i := i) rfl i5 fun H6 m zs s6 nm at_m z1 z10 hz => ?_
    have mp : m ≠ p := fun z => by
      obtain ⟨c0, c1, c2, ec, _⟩ := x5
      rw [← z, nm] at ec
      cases ec
    refine ⟨p, m, zs, rfl, mp.symm, x5.same s6, at_m, z1, by omega, fun z H7 hz7 but7 x7 => ?_⟩
    obtain ⟨oz, od⟩ := hz z hz7
    have b7 : But p H3 H7 := (b5.trans (But.of_same s6)).trans but7
    have pv7 := rows_but x3 b7 pv
    have at_D7 := b7 _ _ Dp at_D
    have oz7 : OddV H7 z := by
      have x6 := x5.same s6
      rcases oz with ⟨a, ys, rfl, e, f⟩ | o
      · exact .inl ⟨a, ys, rfl, but7 _ _ (x6.ne e (fun _ _ _ z => by cases z)) e, f⟩
      · exact .inr o
    obtain ⟨c', rfl, ec'⟩ := tv
    have ec7 : H7 c' = some (.tup xs') := b7 _ _ (x3.ne ec' (fun _ _ _ z => by cases z)) ec'
    obtain ⟨sn, rfl⟩ : ∃ j : Nat, sp = (j : Int) := ⟨sp.toNat, by omega⟩
    refine ⟨_, rfl, _, rfl, D, vs, _, .ref c', rfl, rfl, SqL.of at_D7, atI_nat hv, _, rfl, _, rfl, ?_⟩
    refine slA_go ec7 fun u1 H8 s8 tu1 => ?_
    have lc : ∀ {lo hi : Option Int}, (cutV xs' lo hi).length ≤ 5 := fun {lo hi} => by
      unfold cutV
      rw [List.length_take, List.length_drop]
      omega
    obtain ⟨c1, rfl, ec1⟩ := tu1
    refine ⟨_, rfl, by show 1 ≤ sizeLine; decide, fun t nt => ?_⟩
    refine catA_go (same_upd nt _ _ ec1) upd_same (by have := @lc none (some (sn : Int)); show _ + 1 ≤ 100; omega) fun w H9 s9 tw => ?_
    have s79 : Same H7 H9 := (s8.trans (same_upd nt)).trans s9
    refine ⟨_, rfl, _, rfl, D, vs, _, .ref c', rfl, rfl, SqL.of (s79 _ _ at_D7), atI_nat hv, _, rfl, _, _, rfl, rfl, _, rfl, ?_⟩
    unfold tNoPart
    refine slA_go (s79 _ _ ec7) fun u2 H10 s10 tu2 => ?_
    obtain ⟨c2, rfl, ec2⟩ := tu2
    obtain ⟨cw, rfl, ecw⟩ := tw
    refine catA_go (s10 _ _ ecw) ec2 ?_ fun x H11 s11 tx => ?_
    · have := @lc none (some (sn : Int))
      have := @lc (some ((sn : Int) + 1)) none
      rw [List.length_append]
      show _ + 1 + _ ≤ 100
      omega
    have s711 : Same H7 H11 := (s79.trans s10).trans s11
    refine ⟨_, rfl, _, rfl, D, vs, _, i, rfl, rfl, s711 _ _ at_D7, ix_nat (by omega), _, rfl, D, _, rfl, .inl ⟨SqL.of upd_same, fun u nu => ?_⟩⟩
    refine close ((b3.trans b7).trans (But.of_same s711)) (x7.same s711) (s711 _ _ at_D7) (paired_mono (fun _ _ t => t.mono fun c ec => s711 _ _ ec) pv7) (tx.ok2 fun y hy => ?_) ?_ u nu
    · have old : ∀ {lo hi : Option Int}, y ∈ cutV xs' lo hi → OkV H11 y := fun {lo hi} h => ok_flatX (vals_flat r xs' (List.mem_of_getElem? hxs) y (cut_mem h))
      rcases List.mem_append.mp hy with z1 | z1
      · rcases List.mem_append.mp z1 with z2 | z2
        · exact old z2
        · obtain rfl := List.mem_singleton.mp z2
          rcases oz7 with ⟨a, ys, rfl, e, f⟩ | o
          · exact .tup (s711 _ _ e)
          · exact (o _).1
      · exact old z1
    · rw [tx.item]
      exact odd_no od (List.mem_append_left _ (List.mem_append_right _ (List.mem_singleton.mpr rfl)))
end
end K03

namespace K03
open PySem PySem.Spec PyProof.Rows L2
open Cal EnuT

def areB (H : Hp) (v : V) (n : Nat) : Bool := match tupOf H v with
  | some xs => decide (xs.length = n) && xs.all isBl
  | none => false
def areI (H : Hp) (v : V) (n : Nat) (m : Int) : Bool := match tupOf H v with
  | some xs => decide (xs.length = n) && xs.all (isIn m)
  | none => false
def spIsInt : Sp := fun vs H Q _ => ∃ v, vs = [v] ∧ OkV H v ∧ Q (.bl (isI v)) H
def spBools : Sp := fun vs H Q _ => ∃ (v : V) (n : Nat), vs = [v, .int n] ∧ n ≤ 20 ∧ Ok2 H v ∧ ∀ H', Same H H' → Q (.bl (areB H v n)) H'
def spValues : Sp := fun vs H Q _ => ∃ (v : V) (n : Nat) (m : Int), vs = [v, .int n, .int m] ∧ n ≤ 20 ∧ Ok2 H v ∧ ∀ H', Same H H' → Q (.bl (areI H v n m)) H'
theorem tup_of {H : Hp} {v : V} (h : (tupOf H v).isSome = true) : ∃ a xs, v = .ref a ∧ H a = some (.tup xs) := by
  match v, h with
  | .ref a, h =>
    unfold tupOf at h
    cases e : H a with
    | none => simp [e] at h
    | some o =>
      cases o with
      | tup xs => exact ⟨a, xs, rfl, e⟩
      | _ => simp [e] at h
section
variable {P : Program} {w : World} {K : W.Frag} {mg : Str → Option Value} {base : Heap}
theorem scII : FnScope ["value"] ["value"] (defScope sIsInt) := ⟨rfl, rfl, rfl, by decide +kernel, rfl, by decide +kernel, by decide +kernel⟩
theorem ok_isint {f : Addr} {fd : FuncData} (F : Fun K "is_integer" "is_integer" sIsInt f fd) (B : Bl mg) : FnOk P w K mg base CX0 1 f fd ["value"] spIsInt := by
  refine F.ok scII (fun vs H Q E h => ?_) (fun cdv A outer s H vs Q E hr h => ?_)
  · obtain ⟨v, rfl, _⟩ := h
    rfl
  · obtain ⟨v, rfl, o, k⟩ := h
    obtain ⟨t, ty, k1, k2, k3⟩ := o.ty (K := K)
    refine ⟨_, pss_one (ps_ret (pe_and (pe_callB call_isi (by rfl) B.isi (by decide +kernel) (pa_cons (pv 0) (pa_cons (pe_bltn (v := .ty "int") rfl B.nums.int (by decide +kernel) rfl) pa_nil)))
      (pe_one (pe_not (pe_callB call_isi (by rfl) B.isi (by decide +kernel) (pa_cons (pv 0) (pa_cons (pe_bltn (v := .ty "bool") rfl B.bool (by decide +kernel) rfl) pa_nil))))))), ?_⟩
    refine ⟨_, rfl, v, _, t, _, _, rfl, .ty "int", ty, k3, _, rfl, ?_⟩
    refine ite2 (fun hb => ?_) (fun hb => ?_)
    · refine ⟨_, rfl, v, _, t, _, _, rfl, .ty "bool", ty, k2, _, rfl, ?_⟩
      have : (!isBl v) = isI v := by cases v <;> first | rfl | (simp [isBl, isI] at hb)
      rw [this]
      exact k
    · have : false = isI v := by
        cases v <;> first | rfl | (simp [isBl, isI] at hb)
      rw [this]
      exact k
theorem scBs : FnScope ["row", "many", "item"] ["row", "many"] (defScope sBools) := ⟨rfl, rfl, rfl, by decide +kernel, rfl, by decide +kernel, by decide +kernel⟩
theorem ok_bools {f : Addr} {fd : FuncData} (F : Fun K "_are_bools" "_are_bools" sBools f fd) (B : Bl mg) : FnOk P w K mg base CX0 1 f fd ["row", "many"] spBools := by
  refine F.ok scBs (fun vs H Q E h => ?_) (fun cdv A outer s H vs Q E hr h => ?_)
  · obtain ⟨v, n, rfl, _⟩ := h
    rfl
  · obtain ⟨v, n, rfl, n20, o, k⟩ := h
    obtain ⟨t, ty, k1, k2, k3⟩ := o.1.ty (K := K)
    refine ⟨_, pss_one (ps_ret (pe_and (pe_callB call_isi (by rfl) B.isi (by decide +kernel) (pa_cons (pv 0) (pa_cons (pe_bltn (v := .ty "tuple") rfl B.tuple (by decide +kernel) rfl) pa_nil)))
      (pe_and (pe_cmpR op_eq (pe_callB call_len_seq (by rfl) B.nums.len PySem.boot_len (pa_cons (pv 0) pa_nil)) (pv 1) (nomark _))
      (pe_one (pe_callB (cr_all rfl) (by rfl) B.all (by decide +kernel) (pa_cons (pe_lc (own := [("item", 2)]) (g := gName 2) (tt := tYes) (by rfl) scBs.nd (pi_tup (pv 0))
        (blkOk_by (own := [("item", 2)]) (N := ["row", "many", "item"]) (sc := defScope sBools) (by decide +kernel))
        (fun _ _ _ _ _ => pg_name (i := 2) scBs.nd rfl (Or.inl rfl)) (fun _ _ _ _ _ => pts_nil)
        (fun _ _ _ _ _ => (show PE _ _ (tCB (rIsi K) (tCons (tVar 2) (tCons (tC (.ty "bool")) tNil))) from pe_callB call_isi (by rfl) B.isi (by decide +kernel) (pa_cons (pv 2) (pa_cons (pe_bltn (v := .ty "bool") rfl B.bool (by decide +kernel) rfl) pa_nil))))) pa_nil)))))), ?_⟩
    refine ⟨_, rfl, v, _, t, _, _, rfl, .ty "tuple", ty, k1, _, rfl, ?_⟩
    refine ite2 (fun hb => ?_) (fun hb => ?_)
    · obtain ⟨a, xs, rfl, e⟩ := tup_of hb
      have out : ∀ H', Same H H' → Q (.bl (decide (xs.length = n) && xs.all isBl)) H' := fun H' s => by
        have := k H' s
        unfold areB at this
        rwa [tupOf_tup e] at this
      refine ⟨_, rfl, a, xs, rfl, .inr (SqT.of e), _, rfl, rfl, _, rfl, ?_⟩
      refine ite2 (fun hc => ?_) (fun hc => ?_)
      · have len : xs.length = n := by
          have z : (xs.length : Int) = n := by simpa using hc
          omega
        refine ⟨_, rfl, a, rfl, ⟨_, SqT.of e⟩, fun D nD => ?_⟩
        refine lc_tup (xs := xs) (fun i H' => (∀ b o, b ≠ D → H b = some o → H' b = some o) ∧ H' D = some (.lst ((xs.take i).map fun x => V.bl (isBl x)))) ⟨fun b o ne e => by rw [upd_ne ne]; exact e, upd_same⟩
          (fun i H' _ z => SqT.of (z.1 _ _ (ne_of_none e nD) e)) ?_ ?_
        · rintro i x H1 hx ⟨keep, at_D⟩
          obtain ⟨hi, rfl⟩ := List.getElem?_eq_some_iff.mp hx
          have ox : OkV H1 xs[i] := (o.2 xs (tupOf_tup e) _ (List.getElem_mem hi)).same fun b o e => keep b o (ne_of_none e nD) e
          obtain ⟨t', ty', _, k2', _⟩ := ox.ty (K := K)
          refine ⟨rfl, kept ⟨_, rfl, _, _, t', _, _, rfl, .ty "bool", ty', k2', _, at_D, ?_, fun b o ne e => by rw [upd_ne ne]; exact keep b o ne e, ?_⟩⟩
          · have : (100 : Nat) ≤ sizeLine := by decide
            rw [List.length_map, List.length_take]
            omega
          · rw [upd_same, List.take_succ_eq_append_getElem hi, List.map_append]
            rfl
        · rintro H1 ⟨keep, at_D⟩
          rw [List.take_length] at at_D
          refine ⟨D, xs.map isBl, rfl, SqL.of (by rw [List.map_map]; exact at_D), ?_⟩
          have := out H1 fun b o e => keep b o (ne_of_none e nD) e
          rw [decide_eq_true len, Bool.true_and] at this
          rwa [List.all_map]
      · have len : ¬ xs.length = n := fun y => hc (by rw [y]; simp)
        have := out H (Same.refl _)
        rw [decide_eq_false len, Bool.false_and] at this
        exact this
    · have := k H (Same.refl _)
      unfold areB at this
      cases e : tupOf H v with
      | none => rwa [e] at this
      | some ys => rw [e] at hb; exact absurd rfl hb
theorem scVs : FnScope ["row", "many", "most", "item"] ["row", "many", "most"] (defScope sValues) := ⟨rfl, rfl, rfl, by decide +kernel, rfl, by decide +kernel, by decide +kernel⟩
theorem ok_values {f : Addr} {fd : FuncData} (F : Fun K "_are_values" "_are_values" sValues f fd) (B : Bl mg) (I : Callee P w K mg base "is_integer" 1 ["value"] spIsInt) : FnOk P w K mg base CX0 2 f fd ["row", "many", "most"] spValues := by
  refine F.ok scVs (fun vs H Q E h => ?_) (fun cdv A outer s H vs Q E hr h => ?_)
  · obtain ⟨v, n, m, rfl, _⟩ := h
    rfl
  · obtain ⟨v, n, m, rfl, n20, o, k⟩ := h
    obtain ⟨t, ty, k1, k2, k3⟩ := o.1.ty (K := K)
    refine ⟨_, pss_cons (ps_if (PW.pt (pw_or (pt_not (pt_val (pe_callB call_isi (by rfl) B.isi (by decide +kernel) (pa_cons (pv 0) (pa_cons (pe_bltn (v := .ty "tuple") rfl B.tuple (by decide +kernel) rfl) pa_nil)))))
        (pw_or1 (pt_cmpR op_ne (pe_callB call_len_seq (by rfl) B.nums.len PySem.boot_len (pa_cons (pv 0) pa_nil)) (pv 1) (nomark _))))) (pss_one (ps_ret pe_bl)) pss_nil)
      (pss_one (ps_ret (pe_callB (cr_all rfl) (by rfl) B.all (by decide +kernel) (pa_cons (pe_lc (own := [("item", 3)]) (g := gName 3) (tt := tYes) (by rfl) scVs.nd (pi_tup (pv 0))
        (blkOk_by (own := [("item", 3)]) (N := ["row", "many", "most", "item"]) (sc := defScope sValues) (by decide +kernel))
        (fun _ _ _ _ _ => pg_name (i := 3) scVs.nd rfl (Or.inl rfl)) (fun _ _ _ _ _ => pts_nil)
        (fun _ _ _ _ _ => pe_and (pe_callee I hr rfl (pa_cons (pv 3) pa_nil)) (pe_one (pe_chain op_le op_le pe_int (pv 3) (pv 2))))) pa_nil)))), ?_⟩
    refine ⟨_, rfl, v, _, t, _, _, rfl, .ty "tuple", ty, k1, _, rfl, ?_⟩
    cases e0 : (tupOf H v).isSome with
    | false =>
      refine iteT (iteT ?_)
      have := k H (Same.refl _)
      unfold areI at this
      cases e : tupOf H v with
      | none => rwa [e] at this
      | some ys => rw [e] at e0; cases e0
    | true =>
      obtain ⟨a, xs, rfl, e⟩ := tup_of e0
      have out : ∀ H', Same H H' → Q (.bl (decide (xs.length = n) && xs.all (isIn m))) H' := fun H' s => by
        have := k H' s
        unfold areI at this
        rwa [tupOf_tup e] at this
      refine iteF ?_
      refine ⟨_, rfl, a, xs, rfl, .inr (SqT.of e), _, rfl, rfl, _, rfl, ?_⟩
      refine ite2 (fun hc => ?_) (fun hc => ?_)
      · have len : ¬ xs.length = n := fun y => by
          rw [y] at hc
          simp at hc
        have := out H (Same.refl _)
        rw [decide_eq_false len, Bool.false_and] at this
        exact this
      · have len : xs.length = n := by
          have z : (xs.length : Int) = n := by simpa using hc
          omega
        refine ⟨_, rfl, a, rfl, ⟨_, SqT.of e⟩, fun D nD => ?_⟩
        refine lc_tup (xs := xs) (fun i H' => (∀ b o, b ≠ D → H b = some o → H' b = some o) ∧ H' D = some (.lst ((xs.take i).map fun x => V.bl (isIn m x)))) ⟨fun b o ne e => by rw [upd_ne ne]; exact e, upd_same⟩
          (fun i H' _ z => SqT.of (z.1 _ _ (ne_of_none e nD) e)) ?_ ?_
        · rintro i x H1 hx ⟨keep, at_D⟩
          obtain ⟨hi, rfl⟩ := List.getElem?_eq_some_iff.mp hx
          have ox : OkV H1 xs[i] := (o.2 xs (tupOf_tup e) _ (List.getElem_mem hi)).same fun b o e => keep b o (ne_of_none e nD) e
          have few : ((xs.take i).map fun x => V.bl (isIn m x)).length < sizeLine := by
            have : (100 : Nat) ≤ sizeLine := by decide
            rw [List.length_map, List.length_take]
            omega
          have next : ∀ b : Bool, b = isIn m xs[i] → (∀ c o, c ≠ D → H c = some o → upd H1 D (.lst (((xs.take i).map fun x => V.bl (isIn m x)) ++ [V.bl b])) c = some o) ∧ upd H1 D (.lst (((xs.take i).map fun x => V.bl (isIn m x)) ++ [V.bl b])) D = some (.lst ((xs.take (i + 1)).map fun x => V.bl (isIn m x))) := fun b hb => by
            refine ⟨fun c o ne e => by rw [upd_ne ne]; exact keep c o ne e, ?_⟩
            rw [upd_same, List.take_succ_eq_append_getElem hi, List.map_append, hb]
            rfl
          refine ⟨rfl, kept ⟨_, rfl, _, rfl, ox, _, rfl, ?_⟩⟩
          cases ei : isI xs[i] with
          | false =>
            refine iteF ⟨_, at_D, few, next false ?_⟩
            cases ev : xs[i] <;> first | rfl | (rw [ev] at ei; cases ei)
          | true =>
            obtain ⟨j, ej⟩ : ∃ j, xs[i] = .int j := by
              cases ev : xs[i] <;> first | exact ⟨_, rfl⟩ | (rw [ev] at ei; cases ei)
            refine iteT ⟨_, rfl, 0, j, rfl, ej, _, rfl, ?_⟩
            refine ite2 (fun h0 => ?_) (fun h0 => ?_)
            · refine ⟨_, rfl, j, m, ej, rfl, _, at_D, few, next _ ?_⟩
              rw [ej]
              show decide (j ≤ m) = (decide (0 ≤ j) && decide (j ≤ m))
              rw [h0, Bool.true_and]
            · refine ⟨_, at_D, few, next false ?_⟩
              rw [ej]
              show false = (decide (0 ≤ j) && decide (j ≤ m))
              rw [decide_eq_false (fun z => h0 (decide_eq_true z)), Bool.false_and]
        · rintro H1 ⟨keep, at_D⟩
          rw [List.take_length] at at_D
          refine ⟨D, xs.map (isIn m), rfl, SqL.of (by rw [List.map_map]; exact at_D), ?_⟩
          have := out H1 fun b o e => keep b o (ne_of_none e nD) e
          rw [decide_eq_true len, Bool.true_and] at this
          rwa [List.all_map]
end
end K03

namespace K03
open PySem PySem.Spec PyProof.Rows L2
open Cal EnuT

/-- the house at ho -/
structure HouseIns (H : Hp) (C ho : Addr) (h : Hs) : Prop where
  ex : ∃ dx fs tp td tc vd vc, H ho = some (.ins C dx fs) ∧ List.lookup ("parts" : Str) fs = some (V.ref tp) ∧ List.lookup ("doors" : Str) fs = some (V.ref td) ∧ List.lookup ("cells" : Str) fs = some (V.ref tc) ∧
    H tp = some (.tup (h.parts.map V.str)) ∧ H td = some (.tup vd) ∧ Paired (DoorAt H) vd h.doors ∧ H tc = some (.tup vc) ∧ Paired (CellAt H) vc h.cells
theorem HouseIns.same {H H' : Hp} {C ho : Addr} {h : Hs} (x : HouseIns H C ho h) (s : Same H H') : HouseIns H' C ho h := by
  obtain ⟨dx, fs, tp, td, tc, vd, vc, e1, l1, l2, l3, e2, e3, p1, e4, p2⟩ := x
  exact ⟨dx, fs, tp, td, tc, vd, vc, s _ _ e1, l1, l2, l3, s _ _ e2, s _ _ e3, paired_mono (fun _ _ r => r.mono fun c ec => s _ _ ec) p1, s _ _ e4, paired_mono (fun _ _ r => r.mono fun c ec => s _ _ ec) p2⟩
theorem HouseIns.but {H H' : Hp} {C ho p : Addr} {h : Hs} (x : HouseIns H C ho h) (b : But p H H') (bx : Box H p) : HouseIns H' C ho h := by
  obtain ⟨dx, fs, tp, td, tc, vd, vc, e1, l1, l2, l3, e2, e3, p1, e4, p2⟩ := x
  have t : ∀ {c xs}, H c = some (.tup xs) → H' c = some (.tup xs) := fun {c xs} e => b _ _ (bx.ne e (fun _ _ _ z => by cases z)) e
  exact ⟨dx, fs, tp, td, tc, vd, vc, b _ _ (bx.ne e1 (fun _ _ _ z => by cases z)) e1, l1, l2, l3, t e2, t e3, paired_mono (fun _ _ r => r.mono fun c ec => t ec) p1, t e4, paired_mono (fun _ _ r => r.mono fun c ec => t ec) p2⟩
/-- facts of the class -/
structure HC (K : W.Frag) (C : Addr) : Prop where
  cl : Cls K C
  np : NoAttr K C "parts"
  nd : NoAttr K C "doors"
  nc : NoAttr K C "cells"
def spIsRow (K : W.Frag) (C : Addr) : Sp := fun vs H Q _ => ∃ (ho : Addr) (v : V) (h : Hs) (t : Value), vs = [.ref ho, v] ∧ HouseIns H C ho h ∧ Good h ∧ TyX K H v t ∧ W.kitOne K t (.type "tuple") = some (tupOf H v).isSome ∧ Ok3 H v ∧
  ∀ H', Same H H' → Q (.bl (isRowB H h v)) H'
def firstRow (h : Hs) : Row := ⟨h.doors.map (·.op), h.parts.map fun _ => true, h.cells.map fun _ => 0, h.cells.map fun _ => 0, h.cells.map fun _ => 0⟩
def spFirst (C : Addr) : Sp := fun vs H Q _ => ∃ (ho : Addr) (h : Hs), vs = [.ref ho] ∧ HouseIns H C ho h ∧ Good h ∧ ∀ H' t, Same H H' → RowT H' t (firstRow h) → Q (.ref t) H'
theorem areB_item {H H1 : Hp} {h : Hs} {i n : Nat} {v : V} (s : Same H H1) (o : OkV H v) (c : ∀ xs, chk h i xs = (decide (xs.length = n) && xs.all isBl)) : areB H1 v n = item H h i v := by
  unfold areB item
  rw [o.tupOf_same s]
  cases tupOf H v with
  | none => rfl
  | some xs => exact (c xs).symm
theorem areI_item {H H1 : Hp} {h : Hs} {i n : Nat} {m : Int} {v : V} (s : Same H H1) (o : OkV H v) (c : ∀ xs, chk h i xs = (decide (xs.length = n) && xs.all (isIn m))) : areI H1 v n m = item H h i v := by
  unfold areI item
  rw [o.tupOf_same s]
  cases tupOf H v with
  | none => rfl
  | some xs => exact (c xs).symm
section
variable {P : Program} {w : World} {K : W.Frag} {mg : Str → Option Value} {base : Heap}
theorem scIR : FnScope ["house", "value", "doors", "lights", "worth", "saved", "told", "many"] ["house", "value"] (defScope sIsRow) := ⟨rfl, rfl, rfl, by decide +kernel, rfl, by decide +kernel, by decide +kernel⟩
theorem ok_isrow {f C : Addr} {fd : FuncData} (F : Fun K "is_row" "is_row" sIsRow f fd) (B : Bl mg) (T : HC K C) (Bs : Callee P w K mg base "_are_bools" 1 ["row", "many"] spBools) (Vs : Callee P w K mg base "_are_values" 2 ["row", "many", "most"] spValues) :
    FnOk P w K mg base CX0 3 f fd ["house", "value"] (spIsRow K C) := by
  refine F.ok scIR (fun vs H Q E h => ?_) (fun cdv A outer s H vs Q E hr h => ?_)
  · obtain ⟨ho, v, h, t, rfl, _⟩ := h
    rfl
  · obtain ⟨ho, v, h, t, rfl, hi, good, ty, kt, o3, k⟩ := h
    have hr1 := hr.mono (show 1 ≤ 2 by decide)
    refine ⟨_, pss_cons (ps_if (PW.pt (pw_or (pt_not (pt_val (pe_callB call_isi (by rfl) B.isi (by decide +kernel) (pa_cons (pv 1) (pa_cons (pe_bltn (v := .ty "tuple") rfl B.tuple (by decide +kernel) rfl) pa_nil)))))
        (pw_or1 (pt_cmpR op_ne (pe_callB call_len_seq (by rfl) B.nums.len PySem.boot_len (pa_cons (pv 1) pa_nil)) pe_int (nomark _))))) (pss_one (ps_ret pe_bl)) pss_nil)
      (pss_cons (ps_asg (pv 1) (pg_tup rfl (pgs_cons (pg_name (i := 2) scIR.nd rfl (Or.inl rfl)) (pgs_cons (pg_name (i := 3) scIR.nd rfl (Or.inl rfl)) (pgs_cons (pg_name (i := 4) scIR.nd rfl (Or.inl rfl)) (pgs_cons (pg_name (i := 5) scIR.nd rfl (Or.inl rfl)) (pgs_cons (pg_name (i := 6) scIR.nd rfl (Or.inl rfl)) pgs_nil)))))))
      (pss_cons (ps_set (i := 7) scIR.nd rfl (Or.inl rfl) (pe_callB call_len_seq (by rfl) B.nums.len PySem.boot_len (pa_cons (pe_fld (pv 0) rfl) pa_nil)))
      (pss_one (ps_ret (pe_and (pe_callee Bs hr1 rfl (pa_cons (pv 2) (pa_cons (pe_callB call_len_seq (by rfl) B.nums.len PySem.boot_len (pa_cons (pe_fld (pv 0) rfl) pa_nil)) pa_nil)))
        (pe_and (pe_callee Bs hr1 rfl (pa_cons (pv 3) (pa_cons (pe_callB call_len_seq (by rfl) B.nums.len PySem.boot_len (pa_cons (pe_fld (pv 0) rfl) pa_nil)) pa_nil)))
        (pe_and (pe_callee Vs hr rfl (pa_cons (pv 4) (pa_cons (pv 7) (pa_cons pe_int pa_nil))))
        (pe_and (pe_callee Vs hr rfl (pa_cons (pv 5) (pa_cons (pv 7) (pa_cons pe_int pa_nil))))
        (pe_one (pe_callee Vs hr rfl (pa_cons (pv 6) (pa_cons (pv 7) (pa_cons pe_int pa_nil))))))))))))), ?_⟩
    have out := k
    have base := k H (Same.refl _)
    refine ⟨_, rfl, v, _, t, _, _, rfl, .ty "tuple", ty, kt, _, rfl, ?_⟩
    cases e0 : (tupOf H v).isSome with
    | false =>
      refine iteT (iteT ?_)
      unfold isRowB at base
      cases e : tupOf H v with
      | none => rwa [e] at base
      | some ys => rw [e] at e0; cases e0
    | true =>
      obtain ⟨a, xs, rfl, e⟩ := tup_of e0
      refine iteF ?_
      refine ⟨_, rfl, a, xs, rfl, .inr (SqT.of e), rfl, _, rfl, ?_⟩
      refine ite2 (fun hc => ?_) (fun hc => ?_)
      · have len : xs.length ≠ 5 := fun y => by
          rw [y] at hc
          cases hc
        rw [not_row_len e len] at base
        exact base
      · have len : xs.length = 5 := by
          have z : (xs.length : Int) = 5 := by simpa using hc
          omega
        obtain ⟨x0, x1, x2, x3, x4, rfl⟩ : ∃ a b c d e, xs = [a, b, c, d, e] := by
          match xs, len with
          | [a, b, c, d, e], _ => exact ⟨a, b, c, d, e, rfl⟩
        obtain ⟨dx, fs, tp, td, tc, vd, vc, i1, l1, l2, l3, i2, i3, p1, i4, p2⟩ := hi.ex
        refine ⟨_, rfl, a, _, rfl, SqT.of e, rfl, _, _, rfl, _, _, rfl, _, _, rfl, _, _, rfl, _, _, rfl, ?_⟩
        have ok : ∀ x, x ∈ [x0, x1, x2, x3, x4] → Ok2 H x := o3 _ (tupOf_tup e)
        have o0 := ok x0 (by simp)
        have o1 := ok x1 (by simp)
        have o2 := ok x2 (by simp)
        have o3' := ok x3 (by simp)
        have o4 := ok x4 (by simp)
        have ld := paired_len p1
        have lc := paired_len p2
        have d5 := good.d5
        have c3 := good.c3
        have p4 := good.p4
        have tot : isRowB H h (.ref a) = (item H h 0 x0 && item H h 1 x1 && item H h 2 x2 && item H h 3 x3 && item H h 4 x4) := by
          unfold isRowB
          rw [tupOf_tup e]
        refine ⟨rfl, _, rfl, ho, C, dx, fs, _, rfl, i1, T.cl, T.nc, l3, tc, vc, rfl, .inr (SqT.of i4), ?_⟩
        refine ⟨_, rfl, _, rfl, ho, C, dx, fs, _, rfl, i1, T.cl, T.nd, l2, td, vd, rfl, .inr (SqT.of i3), x0, vd.length, rfl, by omega, o0, fun H1 s1 => ⟨_, rfl, ?_⟩⟩
        rw [show areB H x0 vd.length = item H h 0 x0 from areB_item (Same.refl _) o0.1 (fun xs => by rw [ld]; rfl)]
        cases e0 : item H h 0 x0 with
        | false =>
          refine iteF ?_
          have := out H1 s1
          rwa [tot, e0] at this
        | true =>
        refine iteT ?_
        refine ⟨_, rfl, _, rfl, ho, C, dx, fs, _, rfl, s1 _ _ i1, T.cl, T.np, l1, tp, _, rfl, .inr (SqT.of (s1 _ _ i2)), x1, (h.parts.map V.str).length, rfl, by rw [List.length_map]; omega, o1.same s1, fun H2 s2 => ⟨_, rfl, ?_⟩⟩
        have s12 := s1.trans s2
        rw [show areB H1 x1 (h.parts.map V.str).length = item H h 1 x1 from areB_item s1 o1.1 (fun xs => by rw [List.length_map]; rfl)]
        cases e1 : item H h 1 x1 with
        | false =>
          refine iteF ?_
          have := out H2 s12
          rwa [tot, e0, e1] at this
        | true =>
        refine iteT ?_
        refine ⟨_, rfl, _, rfl, x2, vc.length, 2, rfl, by omega, o2.same s12, fun H3 s3 => ⟨_, rfl, ?_⟩⟩
        have s13 := s12.trans s3
        rw [show areI H2 x2 vc.length 2 = item H h 2 x2 from areI_item s12 o2.1 (fun xs => by rw [lc]; rfl)]
        cases e2 : item H h 2 x2 with
        | false =>
          refine iteF ?_
          have := out H3 s13
          rwa [tot, e0, e1, e2] at this
        | true =>
        refine iteT ?_
        refine ⟨_, rfl, _, rfl, x3, vc.length, 2, rfl, by omega, o3'.same s13, fun H4 s4 => ⟨_, rfl, ?_⟩⟩
        have s14 := s13.trans s4
        rw [show areI H3 x3 vc.length 2 = item H h 3 x3 from areI_item s13 o3'.1 (fun xs => by rw [lc]; rfl)]
        cases e3 : item H h 3 x3 with
        | false =>
          refine iteF ?_
          have := out H4 s14
          rwa [tot, e0, e1, e2, e3] at this
        | true =>
        refine iteT ?_
        refine ⟨_, rfl, _, rfl, x4, vc.length, 4, rfl, by omega, o4.same s14, fun H5 s5 => ?_⟩
        rw [show areI H4 x4 vc.length 4 = item H h 4 x4 from areI_item s14 o4.1 (fun xs => by rw [lc]; rfl)]
        have := out H5 (s14.trans s5)
        rwa [tot, e0, e1, e2, e3] at this
theorem rep_flat {α : Type} (x : α) : ∀ n : Nat, (List.replicate n [x]).flatten = List.replicate n x
  | 0 => rfl
  | n + 1 => by simp [List.replicate_succ, rep_flat x n]
theorem rep_map {α β : Type} (b : β) : ∀ xs : List α, List.replicate xs.length b = xs.map fun _ => b
  | [] => rfl
  | _ :: xs => by simp [List.replicate_succ, rep_map b xs]
theorem scFR : FnScope ["house", "nothing", "door"] ["house"] (defScope sFirst) := ⟨rfl, rfl, rfl, by decide +kernel, rfl, by decide +kernel, by decide +kernel⟩
theorem ok_first {f C : Addr} {fd : FuncData} (F : Fun K "first_row" "first_row" sFirst f fd) (B : Bl mg) (T : HC K C) : FnOk P w K mg base CX0 1 f fd ["house"] (spFirst C) := by
  refine F.ok scFR (fun vs H Q E h => ?_) (fun cdv A outer s H vs Q E hr h => ?_)
  · obtain ⟨ho, h, rfl, _⟩ := h
    rfl
  · obtain ⟨ho, h, rfl, hi, good, k⟩ := h
    refine ⟨_, pss_cons (ps_set (i := 1) scFR.nd rfl (Or.inl rfl) (pe_op op_repA (pe_tup (pa_cons pe_int pa_nil)) (pe_callB call_len_seq (by rfl) B.nums.len PySem.boot_len (pa_cons (pe_fld (pv 0) rfl) pa_nil))))
      (pss_one (ps_ret (pe_tup (pa_cons (pe_callTy call_tuple_of (by rfl) B.tuple (by decide +kernel) (pa_cons (pe_lc (own := [("door", 2)]) (g := gName 2) (tt := tYes) (by rfl) scFR.nd (pi_tup (pe_fld (pv 0) rfl))
          (blkOk_by (own := [("door", 2)]) (N := ["house", "nothing", "door"]) (sc := defScope sFirst) (by decide +kernel))
          (fun _ _ _ _ _ => pg_name (i := 2) scFR.nd rfl (Or.inl rfl)) (fun _ _ _ _ _ => pts_nil)
          (fun _ _ _ _ _ => (show PE _ _ (tOp (rIxT K) (tVar 2) (tC (.int 3))) from pe_ix ix_tup (pv 2) pe_int (fun _ _ => rfl)))) pa_nil))
        (pa_cons (pe_op op_repA (pe_tup (pa_cons pe_bl pa_nil)) (pe_callB call_len_seq (by rfl) B.nums.len PySem.boot_len (pa_cons (pe_fld (pv 0) rfl) pa_nil)))
        (pa_cons (pv 1) (pa_cons (pv 1) (pa_cons (pv 1) pa_nil)))))))), ?_⟩
    obtain ⟨dx, fs, tp, td, tc, vd, vc, i1, l1, l2, l3, i2, i3, p1, i4, p2⟩ := hi.ex
    refine ⟨by show 1 ≤ sizeLine; decide, fun t nt => ?_⟩
    have ld := paired_len p1
    have lc := paired_len p2
    have d5 := good.d5
    have c3 := good.c3
    have p4 := good.p4
    have s0 := same_upd (o := .tup [.int 0]) nt
    refine ⟨_, rfl, ho, C, dx, fs, _, rfl, s0 _ _ i1, T.cl, T.nc, l3, tc, vc, rfl, .inr (SqT.of (s0 _ _ i4)), t, _, _, rfl, rfl, upd_same, by simp, by omega, by omega, by decide, fun v H1 s1 tv => ?_⟩
    have s01 := s0.trans s1
    have at_td := s01 _ _ i3
    refine ⟨_, rfl, ho, C, dx, fs, _, rfl, s01 _ _ i1, T.cl, T.nd, l2, td, rfl, ⟨_, SqT.of at_td⟩, fun D nD => ?_⟩
    refine lc_tup (xs := vd) (fun i H' => (∀ b o, b ≠ D → H1 b = some o → H' b = some o) ∧ H' D = some (.lst ((h.doors.take i).map fun d => V.bl d.op))) ⟨fun b o ne e => by rw [upd_ne ne]; exact e, upd_same⟩
      (fun i H' _ z => SqT.of (z.1 _ _ (ne_of_none at_td nD) at_td)) ?_ ?_
    · rintro i x H2 hx ⟨keep, at_D⟩
      obtain ⟨d, hd, c, rfl, ec⟩ := paired_get p1 hx
      obtain ⟨hi, rfl⟩ := List.getElem?_eq_some_iff.mp hd
      have e2 := keep c _ (ne_of_none (s01 _ _ ec) nD) (s01 _ _ ec)
      refine ⟨rfl, kept ⟨_, rfl, c, _, _, .bl h.doors[i].op, rfl, rfl, SqT.of e2, atI_nat (j := 3) rfl, _, at_D, ?_, fun b o ne e => by rw [upd_ne ne]; exact keep b o ne e, ?_⟩⟩
      · have : (100 : Nat) ≤ sizeLine := by decide
        rw [List.length_map, List.length_take]
        omega
      · rw [upd_same, List.take_succ_eq_append_getElem hi, List.map_append]
        rfl
    · rintro H2 ⟨keep, at_D⟩
      rw [ld, List.take_length] at at_D
      have s2 : Same H1 H2 := fun b o e => keep b o (ne_of_none e nD) e
      have s02 := s01.trans s2
      refine ⟨D, _, rfl, .inl ⟨SqL.of at_D, fun u nu => ⟨by show 1 ≤ sizeLine; decide, fun t2 nt2 => ?_⟩⟩⟩
      have s3 := same_upd (o := .tup (h.doors.map fun d => V.bl d.op)) nu
      have s4 := same_upd (o := .tup [.bl true]) nt2
      have s34 := s3.trans s4
      have s04 := s02.trans s34
      refine ⟨_, rfl, ho, C, dx, fs, _, rfl, s04 _ _ i1, T.cl, T.np, l1, tp, _, rfl, .inr (SqT.of (s04 _ _ i2)), t2, _, _, rfl, rfl, upd_same, by simp, by omega, by rw [List.length_map]; omega, by decide, fun v2 H5 s5 tv2 => ?_⟩
      refine ⟨_, rfl, _, rfl, _, rfl, by show 5 ≤ sizeLine; decide, fun z nz => ?_⟩
      have s6 := same_upd (o := .tup [.ref u, v2, v, v, v]) nz
      have fin := (s04.trans s5).trans s6
      have at_u : TupAt (upd H5 z (.tup [.ref u, v2, v, v, v])) (.ref u) ((firstRow h).d.map V.bl) := ⟨u, rfl, s6 _ _ (s5 _ _ (s4 _ _ (by rw [upd_same]; simp [firstRow])))⟩
      have at_v2 : TupAt (upd H5 z (.tup [.ref u, v2, v, v, v])) v2 ((firstRow h).p.map V.bl) := by
        obtain ⟨c, rfl, ec⟩ := tv2
        refine ⟨c, rfl, s6 _ _ ?_⟩
        rw [ec, rep_flat, Int.toNat_natCast, List.length_map, rep_map]
        simp [firstRow]
      have at_v : TupAt (upd H5 z (.tup [.ref u, v2, v, v, v])) v (h.cells.map fun _ => V.int 0) := by
        obtain ⟨c, rfl, ec⟩ := tv
        refine ⟨c, rfl, s6 _ _ (s5 _ _ (s34 _ _ (s2 _ _ ?_)))⟩
        rw [ec, rep_flat, Int.toNat_natCast, lc, rep_map]
      have at_v' : TupAt (upd H5 z (.tup [.ref u, v2, v, v, v])) v ((h.cells.map fun _ => (0 : Int)).map V.int) := by
        rw [List.map_map]
        exact at_v
      exact k _ z fin ⟨_, upd_same, .cons at_u (.cons at_v2 (.cons at_v' (.cons at_v' (.cons at_v' .nil))))⟩
theorem first_good (h : Hs) : GoodRow h (firstRow h) := by
  have z : ∀ {n : Int}, 0 < n → Upto n (h.cells.map fun _ => (0 : Int)) := fun {n} p i hi => by
    obtain ⟨_, _, rfl⟩ := List.mem_map.mp hi
    exact ⟨Int.le_refl _, p⟩
  exact ⟨List.length_map .., List.length_map .., List.length_map .., List.length_map .., List.length_map .., z (by decide), z (by decide), z (by decide)⟩
end
end K03

namespace K03
open PySem PySem.Spec PyProof.Rows L2
open Cal EnuT

/-- a list or a tuple -/
def SeqAt (H : Hp) (a : Addr) (xs : List V) : Prop := H a = some (.lst xs) ∨ H a = some (.tup xs)
theorem SeqAt.same {H H' : Hp} (s : Same H H') {a : Addr} {xs : List V} (x : SeqAt H a xs) : SeqAt H' a xs := x.imp (s _ _) (s _ _)
def spSeq : Sp := fun vs H Q _ => ∃ a xs, vs = [.ref a] ∧ SeqAt H a xs ∧ ∀ H', Same H H' → Q (.bl true) H'
def spName : Sp := fun vs H Q _ => ∃ s : Str, vs = [.str s] ∧ s ∈ N16 ∧ ∀ H', Same H H' → Q (.bl true) H'
theorem kit_seq {K : W.Frag} : W.kitAny K (.type "list") [.type "list", .type "tuple"] = some true ∧ W.kitAny K (.type "tuple") [.type "list", .type "tuple"] = some true := by
  refine ⟨?_, ?_⟩
  · simp only [W.kitAny, kit_ty (show kitB "list" "list" = some true by decide +kernel)]
  · simp [W.kitAny, kit_ty (show kitB "tuple" "list" = some false by decide +kernel), kit_ty (show kitB "tuple" "tuple" = some true by decide +kernel)]
def signsOk (s : Str) : Bool := s.cps.toList.all fun c => (!decide (([c] : List Nat) < ("a" : Str).cps.toList)) && !decide (("z" : Str).cps.toList < [c])
theorem names_ok : ∀ s, s ∈ N16 → 1 ≤ s.length ∧ s.length ≤ 8 ∧ s ≠ "out" ∧ signsOk s = true := by
  have h : (N16.all fun s => decide (1 ≤ s.length) && decide (s.length ≤ 8) && decide (s ≠ "out") && signsOk s) = true := by decide +kernel
  intro s hs
  have := List.all_eq_true.mp h s hs
  simp only [Bool.and_eq_true, decide_eq_true_eq] at this
  exact ⟨this.1.1.1, this.1.1.2, this.1.2, this.2⟩
section
variable {P : Program} {w : World} {K : W.Frag} {mg : Str → Option Value} {base : Heap}
theorem scSq : FnScope ["value"] ["value"] (defScope sIsSeq) := ⟨rfl, rfl, rfl, by decide +kernel, rfl, by decide +kernel, by decide +kernel⟩
theorem ok_isseq {f : Addr} {fd : FuncData} (F : Fun K "is_sequence" "is_sequence" sIsSeq f fd) (B : Bl mg) : FnOk P w K mg base CX0 1 f fd ["value"] spSeq := by
  refine F.ok scSq (fun vs H Q E h => ?_) (fun cdv A outer s H vs Q E hr h => ?_)
  · obtain ⟨a, xs, rfl, _⟩ := h
    rfl
  · obtain ⟨a, xs, rfl, sq, k⟩ := h
    refine ⟨_, pss_one (ps_ret (pe_callB call_isiT (by rfl) B.isi (by decide +kernel) (pa_cons (pv 0) (pa_cons (pe_tup (pa_cons (pe_bltn (v := .ty "list") rfl B.list (by decide +kernel) rfl) (pa_cons (pe_bltn (v := .ty "tuple") rfl B.tuple (by decide +kernel) rfl) pa_nil))) pa_nil)))), ?_⟩
    refine ⟨_, rfl, by show 2 ≤ sizeLine; decide, fun t nt => ?_⟩
    have s1 := same_upd (o := .tup [.ty "list", .ty "tuple"]) nt
    rcases sq with e | e
    · exact ⟨_, t, _, _, _, true, rfl, upd_same, .cons (.ty "list") (.cons (.ty "tuple") .nil), .base (.lst (s1 _ _ e)), kit_seq.1, k _ s1⟩
    · exact ⟨_, t, _, _, _, true, rfl, upd_same, .cons (.ty "list") (.cons (.ty "tuple") .nil), .base (.tup (s1 _ _ e)), kit_seq.2, k _ s1⟩
theorem scNm : FnScope ["value", "sign"] ["value"] (defScope sIsName) := ⟨rfl, rfl, rfl, by decide +kernel, rfl, by decide +kernel, by decide +kernel⟩
theorem ok_isname {f : Addr} {fd : FuncData} (F : Fun K "is_name" "is_name" sIsName f fd) (B : Bl mg) : FnOk P w K mg base CX0 1 f fd ["value"] spName := by
  refine F.ok scNm (fun vs H Q E h => ?_) (fun cdv A outer s H vs Q E hr h => ?_)
  · obtain ⟨v, rfl, _⟩ := h
    rfl
  · obtain ⟨z, rfl, hz, k⟩ := h
    obtain ⟨z1, z8, zo, zs⟩ := names_ok z hz
    refine ⟨_, pss_cons (ps_if (PW.pt (pw_or (pt_not (pt_val (pe_callB call_isi (by rfl) B.isi (by decide +kernel) (pa_cons (pv 0) (pa_cons (pe_bltn (v := .ty "str") rfl B.str (by decide +kernel) rfl) pa_nil)))))
        (pw_or (pt_not (pt_chain op_le op_le pe_int (pe_callB call_len_str (by rfl) B.nums.len PySem.boot_len (pa_cons (pv 0) pa_nil)) pe_int)) (pw_or1 (pt_cmpR op_eq (pv 0) pe_str (nomark _)))))) (pss_one (ps_ret pe_bl)) pss_nil)
      (pss_one (ps_ret (pe_callB (cr_all rfl) (by rfl) B.all (by decide +kernel) (pa_cons (pe_lc (own := [("sign", 1)]) (g := gName 1) (tt := tYes) (by rfl) scNm.nd (pi_str (pv 0))
        (blkOk_by (own := [("sign", 1)]) (N := ["value", "sign"]) (sc := defScope sIsName) (by decide +kernel))
        (fun _ _ _ _ _ => pg_name (i := 1) scNm.nd rfl (Or.inl rfl)) (fun _ _ _ _ _ => pts_nil)
        (fun _ _ _ _ _ => pe_chain op_le_str op_le_str pe_str (pv 1) pe_str)) pa_nil)))), ?_⟩
    refine ⟨_, rfl, _, _, _, _, true, rfl, .ty "str", .base (.str _), kit_ty (by decide +kernel), _, rfl, iteF ?_⟩
    have line : (8 : Nat) ≤ sizeLine := by decide
    refine ⟨_, rfl, z, rfl, Nat.le_trans z8 line, 1, _, rfl, rfl, _, rfl, ?_⟩
    rw [decide_eq_true (show (1 : Int) ≤ (z.length : Nat) by omega)]
    refine iteT ⟨_, 8, rfl, rfl, _, rfl, ?_⟩
    rw [decide_eq_true (show ((z.length : Nat) : Int) ≤ 8 by omega)]
    refine iteF ⟨_, rfl, rfl, _, rfl, ?_⟩
    rw [decide_eq_false (fun y => zo (by injection y))]
    refine iteF ⟨_, rfl, z, rfl, fun D nD => ?_⟩
    refine lc_it walk_str (fun i H' => Same H H' ∧ H' D = some (.lst ((List.replicate i true).map V.bl))) ⟨same_upd nD, upd_same⟩ (fun _ _ _ _ => trivial) ?_ ?_
    · rintro i x H1 H1' hi ⟨s1, at_D⟩ ⟨rfl, c, hc, rfl⟩
      have hm : c ∈ z.cps.toList := by
        obtain ⟨lt, rfl⟩ := Array.getElem?_eq_some_iff.mp hc
        exact Array.getElem_mem_toList lt
      have oc := List.all_eq_true.mp zs c hm
      simp only [Bool.and_eq_true] at oc
      have hl : i < 8 := by
        have : z.length = z.cps.size := rfl
        omega
      refine ⟨rfl, kept ⟨_, rfl, _, _, rfl, rfl, _, rfl, ?_⟩⟩
      rw [show (!decide (({ cps := #[c] } : Str).cps.toList < ("a" : Str).cps.toList)) = true from oc.1]
      refine iteT ⟨_, _, rfl, rfl, ?_⟩
      rw [show (!decide (("z" : Str).cps.toList < ({ cps := #[c] } : Str).cps.toList)) = true from oc.2]
      refine ⟨_, at_D, by rw [List.length_map, List.length_replicate]; omega, fun b o e => ?_, ?_⟩
      · by_cases hb : b = D
        · rw [hb, nD] at e
          cases e
        · rw [upd_ne hb]
          exact s1 _ _ e
      · rw [upd_same, List.replicate_succ']
        simp
    · rintro H1 ⟨s1, at_D⟩
      refine ⟨D, _, rfl, SqL.of at_D, ?_⟩
      rw [show (List.replicate z.cps.size true).all id = true by simp]
      exact k _ s1
end
end K03

namespace K03
open PySem PySem.Spec PyProof.Rows L2
open Cal EnuT

def spParts : Sp := fun vs H Q _ => ∃ (a : Addr) (ps : List Str), vs = [.ref a] ∧ H a = some (.lst (ps.map V.str)) ∧ 1 ≤ ps.length ∧ ps.length ≤ 8 ∧ ps.Nodup ∧ (∀ x, x ∈ ps → x ∈ N16) ∧ ∀ H' t, Same H H' → H' t = some (.tup (ps.map V.str)) → Q (.ref t) H'
def spDoor : Sp := fun vs H Q _ => ∃ (t tp : Addr) (d : Door) (ps : List Str), vs = [.ref t, .ref tp] ∧ H t = some (.tup (dvs d)) ∧ H tp = some (.tup (ps.map V.str)) ∧ ps.length ≤ 8 ∧ d.n ∈ N16 ∧ EndIn ps d.one ∧ EndIn ps d.two ∧ d.one ≠ d.two ∧ ∀ H', Same H H' → Q (.bl true) H'
def spCell : Sp := fun vs H Q _ => ∃ (t tp : Addr) (d : Cell) (ps : List Str), vs = [.ref t, .ref tp] ∧ H t = some (.tup (cvs d)) ∧ H tp = some (.tup (ps.map V.str)) ∧ ps.length ≤ 8 ∧ d.n ∈ N16 ∧ d.p ∈ ps ∧ ∀ H', Same H H' → Q (.bl true) H'
theorem flat_strs (ps : List Str) : (ps.map V.str).all flatV = true := by
  rw [List.all_map]
  exact List.all_eq_true.mpr fun _ _ => rfl
theorem inV_strs (x : Str) (ps : List Str) : inV (.str x) (ps.map V.str) = decide (x ∈ ps) := by
  unfold inV
  rw [List.any_map]
  induction ps with
  | nil => rfl
  | cons y ps ih =>
    rw [List.any_cons, ih]
    have : eqV (.str y) (.str x) = decide (y = x) := by
      by_cases h : y = x
      · subst h
        simp [eqV]
      · simp [eqV, h]
    show (eqV (.str y) (.str x) || decide (x ∈ ps)) = _
    rw [this]
    by_cases h : y = x
    · simp [h]
    · simp [h, Ne.symm h]
section
variable {P : Program} {w : World} {K : W.Frag} {mg : Str → Option Value} {base : Heap}
theorem scCP : FnScope ["parts", "at", "name"] ["parts"] (defScope sChParts) := ⟨rfl, rfl, rfl, by decide +kernel, rfl, by decide +kernel, by decide +kernel⟩
theorem ok_chparts {f : Addr} {fd : FuncData} (F : Fun K "_checked_parts" "_checked_parts" sChParts f fd) (B : Bl mg) (Sq : Callee P w K mg base "is_sequence" 1 ["value"] spSeq) (Nm : Callee P w K mg base "is_name" 1 ["value"] spName)
    {mt : Tok} (mP : mg "MOST_PARTS" = some (.int 8 mt)) : FnOk P w K mg base CX0 2 f fd ["parts"] spParts := by
  refine F.ok scCP (fun vs H Q E h => ?_) (fun cdv A outer s H vs Q E hr h => ?_)
  · obtain ⟨a, ps, rfl, _⟩ := h
    rfl
  · obtain ⟨a, ps, rfl, ha, p1, p8, nd, sub, k⟩ := h
    refine ⟨_, pss_cons (ps_if (PW.pt (pw_or (pt_not (pt_val (pe_callee Sq hr rfl (pa_cons (pv 0) pa_nil)))) (pw_or1 (pt_not (pt_truth (pv 0) (by intro _; rfl)))))) (pss_one ps_never) pss_nil)
      (pss_cons (ps_for PassesOwn.never rfl (pi_enum (by rfl) B.enu (pa_cons (pv 0) pa_nil)) (pg_tup rfl (pgs_cons (pg_name (i := 1) scCP.nd rfl (Or.inl rfl)) (pgs_cons (pg_name (i := 2) scCP.nd rfl (Or.inl rfl)) pgs_nil)))
        (pss_one (ps_if (PW.pt (pw_or (pt_cmpR op_ge (pv 1) (pe_glob (v := .int 8) rfl mP ⟨_, rfl⟩) (nomark _)) (pw_or (pt_not (pt_val (pe_callee Nm hr rfl (pa_cons (pv 2) pa_nil)))) (pw_or1 (pt_cmpR op_in_seq (pv 2) (pe_slice sl_list (pv 0) po_none (po_some (pv 1))) (by rfl)))))) (pss_one ps_never) pss_nil)))
      (pss_one (ps_ret (pe_callTy call_tuple_of (by rfl) B.tuple (by decide +kernel) (pa_cons (pv 0) pa_nil))))), ?_⟩
    refine ⟨_, rfl, a, _, rfl, .inl ha, fun H1 s1 => ⟨_, rfl, iteF ⟨_, rfl, _, .inl ⟨_, SqL.of (s1 _ _ ha), rfl⟩, ?_⟩⟩⟩
    have emp : (ps.map V.str).isEmpty = false := by
      cases ps with
      | nil => exact absurd p1 (by decide)
      | cons _ _ => rfl
    rw [emp]
    refine iteF ⟨_, rfl, a, _, rfl, SqL.of (s1 _ _ ha), ?_⟩
    refine for_it (walk_enum (xs := ps.map V.str)) (fun i σ H' => ∃ v1 v2 : Option V, σ = [some (.ref a), v1, v2] ∧ Same H H') ⟨_, _, rfl, s1⟩ (fun i σ H' _ z => ?_) ?_ ?_
    · obtain ⟨_, _, _, s⟩ := z
      exact SqL.of (s _ _ ha)
    · rintro i x σ H2 H2' hi ⟨v1, v2, rfl, s2⟩ ⟨t, y, z, rfl, nt, rfl, hy, hz⟩
      cases hy
      rw [List.length_map] at hi
      obtain rfl : z = V.str ps[i] := by
        have hz : (ps.map V.str)[i]? = some z := hz
        rw [List.getElem?_map, List.getElem?_eq_getElem hi] at hz
        exact (Option.some.inj hz).symm
      have s3 := same_upd (o := .tup [.int (i : Nat), .str ps[i]]) nt
      refine ⟨t, _, rfl, SqT.of upd_same, rfl, _, _, rfl, _, _, rfl, ⟨rfl, _, rfl, _, _, rfl, rfl, _, rfl, ?_⟩⟩
      rw [decide_eq_false (show ¬ ((8 : Int) ≤ (i : Nat)) by omega)]
      refine iteF ⟨_, rfl, ps[i], rfl, sub _ (List.getElem_mem hi), fun H4 s4 => ⟨_, rfl, iteF ?_⟩⟩
      have s24 := (s2.trans s3).trans s4
      refine ⟨_, rfl, _, rfl, _, rfl, _, rfl, a, _, rfl, SqL.of (s24 _ _ ha), fun q nq => ?_⟩
      rw [cut_take ps i (by omega)]
      have s5 := same_upd (o := .lst ((ps.take i).map V.str)) nq
      refine ⟨q, _, rfl, .inl (SqL.of upd_same), rfl, flat_strs _, _, rfl, ?_⟩
      rw [inV_strs, decide_eq_false (fun z => ?_)]
      · exact iteF ⟨_, _, rfl, s24.trans s5⟩
      · obtain ⟨j, hj, e⟩ := List.getElem_of_mem z
        rw [List.length_take] at hj
        rw [List.getElem_take] at e
        have := (List.nodup_iff_pairwise_ne.mp nd)
        have := List.pairwise_iff_getElem.mp this j i (by omega) hi (by omega)
        exact this e
    · rintro σ H2 ⟨v1, v2, rfl, s2⟩
      exact ⟨_, rfl, a, _, rfl, .inl ⟨SqL.of (s2 _ _ ha), fun l nl => k _ l (s2.trans (same_upd nl)) upd_same⟩⟩
theorem scDo : FnScope ["door", "parts", "name", "one", "other", "is_open", "ends"] ["door", "parts"] (defScope sIsDoor) := ⟨rfl, rfl, rfl, by decide +kernel, rfl, by decide +kernel, by decide +kernel⟩
theorem ok_isdoor {f : Addr} {fd : FuncData} (F : Fun K "_is_door" "_is_door" sIsDoor f fd) (B : Bl mg) (Sq : Callee P w K mg base "is_sequence" 1 ["value"] spSeq) (Nm : Callee P w K mg base "is_name" 1 ["value"] spName) :
    FnOk P w K mg base CX0 2 f fd ["door", "parts"] spDoor := by
  refine F.ok scDo (fun vs H Q E h => ?_) (fun cdv A outer s H vs Q E hr h => ?_)
  · obtain ⟨t, tp, d, ps, rfl, _⟩ := h
    rfl
  · obtain ⟨t, tp, d, ps, rfl, ht, hp, p8, dn, e1, e2, ne, k⟩ := h
    refine ⟨_, pss_cons (ps_if (PW.pt (pw_or (pt_not (pt_val (pe_callee Sq hr rfl (pa_cons (pv 0) pa_nil)))) (pw_or1 (pt_cmpR op_ne (pe_callB call_len_seq (by rfl) B.nums.len PySem.boot_len (pa_cons (pv 0) pa_nil)) pe_int (nomark _))))) (pss_one (ps_ret pe_bl)) pss_nil)
      (pss_cons (ps_asg (pv 0) (pg_tup rfl (pgs_cons (pg_name (i := 2) scDo.nd rfl (Or.inl rfl)) (pgs_cons (pg_name (i := 3) scDo.nd rfl (Or.inl rfl)) (pgs_cons (pg_name (i := 4) scDo.nd rfl (Or.inl rfl)) (pgs_cons (pg_name (i := 5) scDo.nd rfl (Or.inl rfl)) pgs_nil))))))
      (pss_cons (ps_set (i := 6) scDo.nd rfl (Or.inl rfl) (pe_tup (StX.pa_star (pv 1) (pa_cons pe_str pa_nil))))
      (pss_one (ps_ret (pe_and (pe_callee Nm hr rfl (pa_cons (pv 2) pa_nil)) (pe_and (pe_cmpR op_in_seq (pv 3) (pv 6) (by rfl)) (pe_and (pe_cmpR op_in_seq (pv 4) (pv 6) (by rfl)) (pe_and (pe_cmpR op_ne (pv 3) (pv 4) (nomark _))
        (pe_one (pe_callB call_isi (by rfl) B.isi (by decide +kernel) (pa_cons (pv 5) (pa_cons (pe_bltn (v := .ty "bool") rfl B.bool (by decide +kernel) rfl) pa_nil)))))))))))), ?_⟩
    refine ⟨_, rfl, t, _, rfl, .inr ht, fun H1 s1 => ⟨_, rfl, iteF ⟨_, rfl, t, _, rfl, .inr (SqT.of (s1 _ _ ht)), rfl, _, rfl, iteNS rfl ?_⟩⟩⟩
    refine ⟨_, rfl, t, _, rfl, SqT.of (s1 _ _ ht), rfl, _, _, rfl, _, _, rfl, _, _, rfl, _, _, rfl, rfl, ?_⟩
    refine ⟨_, rfl, tp, _, rfl, .inl (SqT.of (s1 _ _ hp)), ?_, fun e ne' => ?_⟩
    · have : (20 : Nat) ≤ sizeLine := by decide
      rw [List.length_append, List.length_map]
      show ps.length + 1 ≤ _
      omega
    have s2 := same_upd (o := .tup (ps.map V.str ++ [.str "out"])) ne'
    have inE : ∀ {x : Str}, EndIn ps x → inV (.str x) (ps.map V.str ++ [.str "out"]) = true := fun {x} h => by
      have e : ps.map V.str ++ [.str "out"] = (ps ++ [("out" : Str)]).map V.str := by rw [List.map_append]; rfl
      rw [e, inV_strs]
      refine decide_eq_true ?_
      rcases h with h | h
      · subst h
        simp
      · exact List.mem_append_left _ h
    have flat : (ps.map V.str ++ [V.str "out"]).all flatV = true := by
      rw [List.all_append, flat_strs]
      rfl
    refine ⟨_, rfl, d.n, rfl, dn, fun H3 s3 => ⟨_, rfl, iteT ?_⟩⟩
    have at_e := s3 e _ upd_same
    refine ⟨_, rfl, _, rfl, e, _, rfl, .inr (SqT.of at_e), rfl, flat, ?_⟩
    rw [inE e1]
    refine ⟨_, rfl, iteT ⟨_, rfl, _, rfl, e, _, rfl, .inr (SqT.of at_e), rfl, flat, ?_⟩⟩
    rw [inE e2]
    refine ⟨_, rfl, iteT ⟨_, rfl, _, rfl, rfl, ?_⟩⟩
    refine ⟨_, rfl, ?_⟩
    rw [decide_eq_false (fun z => ne (by injection z))]
    refine iteT ⟨_, rfl, _, _, _, _, true, rfl, .ty "bool", .base (.bl _), kit_ty (by decide +kernel), ?_⟩
    exact k _ ((s1.trans s2).trans s3)
theorem scCe : FnScope ["cell", "parts"] ["cell", "parts"] (defScope sIsCell) := ⟨rfl, rfl, rfl, by decide +kernel, rfl, by decide +kernel, by decide +kernel⟩
theorem ok_iscell {f : Addr} {fd : FuncData} (F : Fun K "_is_cell" "_is_cell" sIsCell f fd) (B : Bl mg) (Sq : Callee P w K mg base "is_sequence" 1 ["value"] spSeq) (Nm : Callee P w K mg base "is_name" 1 ["value"] spName) :
    FnOk P w K mg base CX0 2 f fd ["cell", "parts"] spCell := by
  refine F.ok scCe (fun vs H Q E h => ?_) (fun cdv A outer s H vs Q E hr h => ?_)
  · obtain ⟨t, tp, d, ps, rfl, _⟩ := h
    rfl
  · obtain ⟨t, tp, d, ps, rfl, ht, hp, p8, dn, e1, k⟩ := h
    refine ⟨_, pss_cons (ps_if (PW.pt (pw_or (pt_not (pt_val (pe_callee Sq hr rfl (pa_cons (pv 0) pa_nil)))) (pw_or1 (pt_cmpR op_ne (pe_callB call_len_seq (by rfl) B.nums.len PySem.boot_len (pa_cons (pv 0) pa_nil)) pe_int (nomark _))))) (pss_one (ps_ret pe_bl)) pss_nil)
      (pss_one (ps_ret (pe_and (pe_callee Nm hr rfl (pa_cons (pe_ix ix_tup (pv 0) pe_int (fun _ _ => rfl)) pa_nil)) (pe_and (pe_cmpR op_in_seq (pe_ix ix_tup (pv 0) pe_int (fun _ _ => rfl)) (pv 1) (by rfl))
        (pe_one (pe_callB call_isi (by rfl) B.isi (by decide +kernel) (pa_cons (pe_ix ix_tup (pv 0) pe_int (fun _ _ => rfl)) (pa_cons (pe_bltn (v := .ty "bool") rfl B.bool (by decide +kernel) rfl) pa_nil)))))))), ?_⟩
    refine ⟨_, rfl, t, _, rfl, .inr ht, fun H1 s1 => ⟨_, rfl, iteF ⟨_, rfl, t, _, rfl, .inr (SqT.of (s1 _ _ ht)), rfl, _, rfl, iteNS rfl ?_⟩⟩⟩
    refine ⟨_, rfl, t, _, _, V.str d.n, rfl, rfl, SqT.of (s1 _ _ ht), atI_nat (j := 0) rfl, d.n, rfl, dn, fun H2 s2 => ⟨_, rfl, iteT ?_⟩⟩
    have s12 := s1.trans s2
    refine ⟨_, rfl, t, _, _, V.str d.p, rfl, rfl, SqT.of (s12 _ _ ht), atI_nat (j := 1) rfl, _, rfl, tp, _, rfl, .inr (SqT.of (s12 _ _ hp)), rfl, flat_strs _, ?_⟩
    rw [inV_strs, decide_eq_true e1]
    refine ⟨_, rfl, iteT ⟨_, rfl, t, _, _, V.bl d.k, rfl, rfl, SqT.of (s12 _ _ ht), atI_nat (j := 2) rfl, _, _, _, _, true, rfl, .ty "bool", .base (.bl _), kit_ty (by decide +kernel), ?_⟩⟩
    exact k _ s12
end
end K03

namespace K03
open PySem PySem.Spec PyProof.Rows L2
open Cal EnuT

def spNums : Sp := fun vs H Q _ => ∃ (a : Addr) (ps : List Str), vs = [.ref a] ∧ SeqAt H a (ps.map V.str) ∧ ps.length ≤ 20 ∧ ∀ H' D kvs, Same H H' → H' D = some (.dK kvs) → (∀ x, x ∈ ps → ∃ v, valV kvs (.inr x) = some v) → Q (.ref D) H'
def spNumOf : Sp := fun vs H Q _ => ∃ (D : Addr) (x : Str) (kvs : List (Key × V)) (v : V), vs = [.ref D, .str x] ∧ H D = some (.dK kvs) ∧ valV kvs (.inr x) = some v ∧ Q v H
/-- the instance with its numbers of parts -/
def spNumPart (C : Addr) : Sp := fun vs H Q _ => ∃ (o D dx : Addr) (x : Str) (kvs : List (Key × V)) (fs : List (Str × V)), vs = [.ref o, .str x] ∧ H o = some (.ins C dx fs) ∧ List.lookup ("_part_numbers" : Str) fs = some (.ref D) ∧ H D = some (.dK kvs) ∧
  (x = "out" ∨ ∃ v, valV kvs (.inr x) = some v) ∧ ∀ v, Q v H
theorem put_has {kvs : List (Key × V)} {k k' : Key} {v w : V} (h : valV kvs k' = some w) : ∃ u, valV (putK kvs k v) k' = some u := by
  rw [valV_put]
  by_cases e : k' = k
  · rw [if_pos e]
    exact ⟨_, rfl⟩
  · rw [if_neg e]
    exact ⟨_, h⟩
theorem put_at {kvs : List (Key × V)} {k : Key} {v : V} : ∃ u, valV (putK kvs k v) k = some u := by
  rw [valV_put, if_pos rfl]
  exact ⟨_, rfl⟩
/-- how many entries at most -/
theorem put_len {kvs : List (Key × V)} {k : Key} {v : V} : (putK kvs k v).length ≤ kvs.length + 1 := by
  unfold putK
  split
  · rw [List.length_map]
    omega
  · rw [List.length_append]
    simp
section
variable {P : Program} {w : World} {K : W.Frag} {mg : Str → Option Value} {base : Heap}
theorem scNu : FnScope ["names", "at", "name"] ["names"] (defScope sNumbers) := ⟨rfl, rfl, rfl, by decide +kernel, rfl, by decide +kernel, by decide +kernel⟩
theorem ok_numbers {f : Addr} {fd : FuncData} (F : Fun K "_numbers" "_numbers" sNumbers f fd) (B : Bl mg) : FnOk P w K mg base CX0 1 f fd ["names"] spNums := by
  refine F.ok scNu (fun vs H Q E h => ?_) (fun cdv A outer s H vs Q E hr h => ?_)
  · obtain ⟨a, ps, rfl, _⟩ := h
    rfl
  · obtain ⟨a, ps, rfl, sq, p20, k⟩ := h
    refine ⟨_, pss_one (ps_ret (pe_dc (own := [("at", 1), ("name", 2)]) (g := gTup K 2 (gCons (gName 1) (gCons (gName 2) gNil))) (tt := tYes) (by rfl) scNu.nd (pi_enumS (by rfl) B.enu (pa_cons (pv 0) pa_nil))
      (blkOk_by (own := [("at", 1), ("name", 2)]) (N := ["names", "at", "name"]) (sc := defScope sNumbers) (by decide +kernel))
      (fun _ _ _ _ _ => pg_tup rfl (pgs_cons (pg_name (i := 1) scNu.nd rfl (Or.inl rfl)) (pgs_cons (pg_name (i := 2) scNu.nd rfl (Or.inl rfl)) pgs_nil)))
      (fun _ _ _ _ _ => pts_nil) (fun _ _ _ _ _ => pv 2) (fun _ _ _ _ _ => pv 1))), ?_⟩
    refine ⟨_, rfl, a, rfl, ?_⟩
    have walk : ∀ {J : It} {G : Hp → Prop}, Walk J (ps.map V.str).length G (YPair (fun i => some (.int (i : Nat))) (fun i => (ps.map V.str)[i]?)) → (∀ H', Same H H' → G H') → ∀ D, H D = none → ∃ W : Nat → Nat → Hp → Prop, (∃ m, W 0 m (upd H D (.dK []))) ∧ ∀ i m H', W i m H' → (J.stop i H' ∧ Q (.ref D) H') ∨ (J.go i H' ∧ ∃ Nx : Hp → Prop, (∀ H', Nx H' → ∃ m', m' < m ∧ W (i + 1) m' H') ∧
        ∀ x H'', J.yld i H' x H'' → gTup K 2 (gCons (gName 1) (gCons (gName 2) gNil)) x (wipe [some (.ref a), none, none] [1, 2]) H'' fun σ2 H2 => wipe σ2 [1, 2] = wipe [some (.ref a), none, none] [1, 2] ∧ tYes σ2 H2 fun b H3 => if b = true then tVar 2 σ2 H3 fun y H4 => tVar 1 σ2 H4 fun z H5 =>
          ∃ kvs k, y = kV k ∧ H5 D = some (.dK kvs) ∧ kvs.length < sizeLine ∧ Nx (upd H5 D (.dK (putK kvs k z))) else Nx H3) := by
      intro J G wk st D nD
      refine dc_it wk (fun i H' => Same H H' ∧ ∃ kvs : List (Key × V), H' D = some (.dK kvs) ∧ kvs.length ≤ i ∧ ∀ x, x ∈ ps.take i → ∃ v, valV kvs (.inr x) = some v) ⟨same_upd nD, [], upd_same, Nat.le_refl _, fun x hx => by simp at hx⟩ (fun i H' _ z => st _ z.1) ?_ ?_
      · rintro i x H1 H2 hi ⟨s1, kvs, at_D, lk, has⟩ ⟨t, y, z, rfl, nt, rfl, hy, hz⟩
        cases hy
        rw [List.length_map] at hi
        obtain rfl : z = V.str ps[i] := by
          have hz : (ps.map V.str)[i]? = some z := hz
          rw [List.getElem?_map, List.getElem?_eq_getElem hi] at hz
          exact (Option.some.inj hz).symm
        have s2 := same_upd (o := .tup [.int (i : Nat), .str ps[i]]) nt
        refine ⟨t, _, rfl, SqT.of upd_same, rfl, _, _, rfl, _, _, rfl, ⟨rfl, rfl, kept ⟨_, rfl, _, rfl, kvs, .inr ps[i], rfl, s2 _ _ at_D, ?_, ?_, _, upd_same, ?_, ?_⟩⟩⟩
        · have : (100 : Nat) ≤ sizeLine := by decide
          omega
        · intro b o e
          by_cases hb : b = D
          · rw [hb, nD] at e
            cases e
          · rw [upd_ne hb]
            exact s2 _ _ (s1 _ _ e)
        · exact Nat.le_trans put_len (by omega)
        · intro x hx
          rw [List.take_succ_eq_append_getElem hi] at hx
          rcases List.mem_append.mp hx with h | h
          · obtain ⟨v, hv⟩ := has x h
            exact put_has hv
          · obtain rfl := List.mem_singleton.mp h
            exact put_at
      · rintro H1 ⟨s1, kvs, at_D, lk, has⟩
        rw [List.length_map, List.take_length] at has
        exact k H1 D kvs s1 at_D has
    rcases sq with e | e
    · exact .inl ⟨_, SqL.of e, fun D nD => walk walk_enum (fun H' s => SqL.of (s _ _ e)) D nD⟩
    · exact .inr ⟨_, SqT.of e, fun D nD => walk walk_enumT (fun H' s => SqT.of (s _ _ e)) D nD⟩
theorem scNO : FnScope ["numbers", "name"] ["numbers", "name"] (defScope sNumOf) := ⟨rfl, rfl, rfl, by decide +kernel, rfl, by decide +kernel, by decide +kernel⟩
theorem ok_numof {f : Addr} {fd : FuncData} (F : Fun K "_number_of" "_number_of" sNumOf f fd) (B : Bl mg) : FnOk P w K mg base CX0 1 f fd ["numbers", "name"] spNumOf := by
  refine F.ok scNO (fun vs H Q E h => ?_) (fun cdv A outer s H vs Q E hr h => ?_)
  · obtain ⟨D, x, kvs, v, rfl, _⟩ := h
    rfl
  · obtain ⟨D, x, kvs, v, rfl, hD, hv, q⟩ := h
    have hu := hu_of hr
    refine ⟨_, pss_cons (ps_if (PW.pt (pw_or (pt_not (pt_val (pe_callB call_isi (by rfl) B.isi (by decide +kernel) (pa_cons (pv 1) (pa_cons (pe_bltn (v := .ty "str") rfl B.str (by decide +kernel) rfl) pa_nil))))) (pw_or1 (pt_cmp (pc_dnotin hu (pv 1) (pv 0)))))) (pss_one ps_never) pss_nil)
      (pss_one (ps_ret (pe_dget hu (pv 0) (pv 1) (fun _ _ => rfl)))), ?_⟩
    refine ⟨_, rfl, _, _, _, _, true, rfl, .ty "str", .base (.str _), kit_ty (by decide +kernel), _, rfl, iteF ?_⟩
    refine ⟨_, rfl, _, rfl, D, _, rfl, DGet.k (k := Sum.inr x) hD, ?_⟩
    rw [hv]
    refine ⟨_, rfl, iteF ?_⟩
    refine ⟨_, rfl, _, rfl, D, v, rfl, by rw [← hv]; exact DGet.k (k := Sum.inr x) hD, q⟩
theorem scNP : FnScope ["self", "name"] ["self", "name"] (defScope sNumPart) := ⟨rfl, rfl, rfl, by decide +kernel, rfl, by decide +kernel, by decide +kernel⟩
theorem ok_numpart {f C : Addr} {fd : FuncData} (F : Fun K "number_of_part" "House.number_of_part" sNumPart f fd) (B : Bl mg) (cl : Cls K C) (na : NoAttr K C "_part_numbers") (No : Callee P w K mg base "_number_of" 1 ["numbers", "name"] spNumOf) :
    FnOk P w K mg base CX0 2 f fd ["self", "name"] (spNumPart C) := by
  refine F.ok scNP (fun vs H Q E h => ?_) (fun cdv A outer s H vs Q E hr h => ?_)
  · obtain ⟨o, D, dx, x, kvs, fs, rfl, _⟩ := h
    rfl
  · obtain ⟨o, D, dx, x, kvs, fs, rfl, ho, lD, hD, hx, q⟩ := h
    refine ⟨_, pss_cons (ps_if (PW.pt (pw_and (pt_val (pe_callB call_isi (by rfl) B.isi (by decide +kernel) (pa_cons (pv 1) (pa_cons (pe_bltn (v := .ty "str") rfl B.str (by decide +kernel) rfl) pa_nil)))) (pw_and1 (pt_cmpR op_eq (pv 1) pe_str (nomark _))))) (pss_one (ps_ret (pe_un un_neg pe_int))) pss_nil)
      (pss_one (ps_ret (pe_callee No hr rfl (pa_cons (pe_fld (pv 0) rfl) (pa_cons (pv 1) pa_nil))))), ?_⟩
    refine ⟨_, rfl, _, _, _, _, true, rfl, .ty "str", .base (.str _), kit_ty (by decide +kernel), _, rfl, iteT ⟨_, rfl, rfl, _, rfl, ?_⟩⟩
    refine ite2 (fun hc => ⟨_, rfl, q _⟩) (fun hc => ?_)
    rcases hx with rfl | ⟨v, hv⟩
    · exact absurd (decide_eq_true rfl) hc
    · exact ⟨_, rfl, o, C, dx, fs, _, rfl, ho, cl, na, lD, _, rfl, D, x, kvs, v, rfl, hD, hv, q v⟩
end
end K03

namespace K03
open PySem PySem.Spec PyProof.Rows L2
open Cal EnuT

/-- a thing by its name -/
def Named (H : Hp) (v : V) (n : Str) : Prop := ∃ t xs, v = .ref t ∧ H t = some (.tup (.str n :: xs))
def spChecked (S : Addr → Option Sp) : Sp := fun vs H Q _ => ∃ (a tp tk f : Addr) (m : Nat) (ws : List V) (ns tn : List Str) (sp : Sp), vs = [.ref a, .int m, .ref tp, .ref tk, .ref f] ∧ H a = some (.lst ws) ∧ Paired (Named H) ws ns ∧ ws.length ≤ m ∧ m ≤ 20 ∧
  SeqAt H tk (tn.map V.str) ∧ tn.length ≤ 40 ∧ (tn ++ ns).Nodup ∧ S f = some sp ∧ (∀ v, v ∈ ws → ∀ H' Q', Same H H' → (∀ H'', Same H' H'' → Q' (.bl true) H'') → sp [v, .ref tp] H' Q' (fun _ _ _ => False)) ∧
  ∀ H' t, Same H H' → H' t = some (.tup ws) → Q (.ref t) H'
theorem Named.same {H H' : Hp} (s : Same H H') {v : V} {n : Str} (x : Named H v n) : Named H' v n := by
  obtain ⟨t, xs, rfl, e⟩ := x
  exact ⟨t, xs, rfl, s _ _ e⟩
section
variable {P : Program} {w : World} {K : W.Frag} {mg : Str → Option Value} {base : Heap}
theorem scCT : FnScope ["things", "most", "parts", "taken", "is_thing", "names", "at", "thing"] ["things", "most", "parts", "taken", "is_thing"] (defScope sChThings) := ⟨rfl, rfl, rfl, by decide +kernel, rfl, by decide +kernel, by decide +kernel⟩
theorem ok_chthings {f : Addr} {fd : FuncData} (F : Fun K "_checked_things" "_checked_things" sChThings f fd) (B : Bl mg) (Sq : Callee P w K mg base "is_sequence" 1 ["value"] spSeq) (S : Addr → Option Sp) (hS : ∀ f sp, S f = some sp → Held P w K mg base 2 f sp) :
    FnOk P w K mg base CX0 3 f fd ["things", "most", "parts", "taken", "is_thing"] (spChecked S) := by
  refine F.ok scCT (fun vs H Q E h => ?_) (fun cdv A outer s H vs Q E hr h => ?_)
  · obtain ⟨a, tp, tk, f, m, ws, ns, tn, sp, rfl, _⟩ := h
    rfl
  · obtain ⟨a, tp, tk, f, m, ws, ns, tn, sp, rfl, ha, pn, lm, m20, sq, t40, nd, hf, ok, k⟩ := h
    have hr1 := hr.mono (show 1 ≤ 2 by decide)
    refine ⟨_, pss_cons (ps_set (i := 5) scCT.nd rfl (Or.inl rfl) (pe_callTy call_list_of (by rfl) B.list (by decide +kernel) (pa_cons (pv 3) pa_nil)))
      (pss_cons (ps_if (pt_not (pt_val (pe_callee Sq hr1 rfl (pa_cons (pv 0) pa_nil)))) (pss_one ps_never) pss_nil)
      (pss_cons (ps_for PassesOwn.never rfl (pi_enum (by rfl) B.enu (pa_cons (pv 0) pa_nil)) (pg_tup rfl (pgs_cons (pg_name (i := 6) scCT.nd rfl (Or.inl rfl)) (pgs_cons (pg_name (i := 7) scCT.nd rfl (Or.inl rfl)) pgs_nil)))
        (pss_cons (ps_if (PW.pt (pw_or (pt_cmpR op_ge (pv 6) (pv 1) (nomark _)) (pw_or (pt_not (pt_val (pe_callA (i := 4) (S := S) hS hr rfl (Or.inl rfl) (pa_cons (pv 7) (pa_cons (pv 2) pa_nil))))) (pw_or1 (pt_cmpR op_in_seq (pe_ix ix_tup (pv 7) pe_int (fun _ _ => rfl)) (pv 5) (by rfl)))))) (pss_one ps_never) pss_nil)
        (pss_one (ps_expr (pe_bm PySem.F.plainAttrs_list PySem.F.slot_list_append PySem.F.type_list_append mt_append (pv 5) (pa_cons (pe_ix ix_tup (pv 7) pe_int (fun _ _ => rfl)) pa_nil))))))
      (pss_one (ps_ret (pe_callTy call_tuple_of (by rfl) B.tuple (by decide +kernel) (pa_cons (pe_lc (own := [("thing", 7)]) (g := gName 7) (tt := tYes) (by rfl) scCT.nd (pi_list (pv 0))
        (blkOk_by (own := [("thing", 7)]) (N := ["things", "most", "parts", "taken", "is_thing", "names", "at", "thing"]) (sc := defScope sChThings) (by decide +kernel))
        (fun _ _ _ _ _ => pg_name (i := 7) scCT.nd rfl (Or.inl rfl)) (fun _ _ _ _ _ => pts_nil)
        (fun _ _ _ _ _ => (show PE _ _ (TupCall K 7) from pe_callTy call_tuple_of (by rfl) B.tuple (by decide +kernel) (pa_cons (pv 7) pa_nil)))) pa_nil)))))), ?_⟩
    refine ⟨_, rfl, tk, _, rfl, sq.imp SqL.of SqT.of, fun l nl => ?_⟩
    have s0 := same_upd (o := .lst (tn.map V.str)) nl
    refine ⟨_, rfl, a, ws, rfl, .inl (s0 _ _ ha), fun H1 s1 => ⟨_, rfl, iteF ?_⟩⟩
    have at_l := s1 _ _ (upd_same (H := H) (a := l) (o := .lst (tn.map V.str)))
    have s01 := s0.trans s1
    refine ⟨_, rfl, a, _, rfl, SqL.of (s01 _ _ ha), ?_⟩
    have lns := paired_len pn
    have lne : ∀ {b o}, H b = some o → b ≠ l := fun {b o} e => ne_of_none e nl
    refine for_it (walk_enum (xs := ws)) (fun i σ H' => ∃ v6 v7 : Option V, σ = [some (.ref a), some (.int (m : Nat)), some (.ref tp), some (.ref tk), some (.ref f), some (.ref l), v6, v7] ∧ Same H H' ∧ H' l = some (.lst ((tn ++ ns.take i).map V.str)))
      ⟨_, _, rfl, s01, by rw [List.take_zero, List.append_nil]; exact at_l⟩ (fun i σ H' _ z => ?_) ?_ ?_
    · obtain ⟨_, _, _, s, _⟩ := z
      exact SqL.of (s _ _ ha)
    · rintro i x σ H2 H2' hi ⟨v6, v7, rfl, s2, at_l2⟩ ⟨t, y, z, rfl, nt, rfl, hy, hz⟩
      cases hy
      have hz : ws[i]? = some z := hz
      obtain ⟨n, hn, c, xs, rfl, ec⟩ := paired_get pn hz
      have s3 := same_upd (o := .tup [.int (i : Nat), .ref c]) nt
      have s23 := s2.trans s3
      have ni : i < ns.length := (List.getElem?_eq_some_iff.mp hn).1
      refine ⟨t, _, rfl, SqT.of upd_same, rfl, _, _, rfl, _, _, rfl, ⟨rfl, _, rfl, _, rfl, _, _, rfl, rfl, _, rfl, ?_⟩⟩
      rw [decide_eq_false (show ¬ (((m : Nat) : Int) ≤ (i : Nat)) by omega)]
      refine iteF ⟨f, sp, rfl, hf, _, rfl, _, rfl, ok _ (List.mem_of_getElem? hz) _ _ s23 fun H4 s4 => ⟨_, rfl, iteF ?_⟩⟩
      have s24 := s23.trans s4
      have at_l4 := s4 _ _ (s3 _ _ at_l2)
      refine ⟨_, rfl, c, _, _, V.str n, rfl, rfl, SqT.of (s24 _ _ ec), atI_nat (j := 0) rfl, _, rfl, l, _, rfl, .inl (SqL.of at_l4), rfl, flat_strs _, _, rfl, ?_⟩
      have fresh : n ∉ tn ++ ns.take i := by
        intro z
        rcases List.mem_append.mp z with h | h
        · exact (List.nodup_append.mp nd).2.2 n h n (List.mem_of_getElem? hn) rfl
        · obtain ⟨j, hj, e⟩ := List.getElem_of_mem h
          rw [List.length_take] at hj
          rw [List.getElem_take] at e
          have p := List.pairwise_iff_getElem.mp (List.nodup_iff_pairwise_ne.mp (List.nodup_append.mp nd).2.1) j i (by omega) ni (by omega)
          rw [(List.getElem?_eq_some_iff.mp hn).2] at p
          exact p e
      rw [inV_strs, decide_eq_false fresh]
      refine iteF ⟨_, rfl, .inl ⟨rfl, _, SqL.of at_l4⟩, _, rfl, c, _, _, V.str n, rfl, rfl, SqT.of (s24 _ _ ec), atI_nat (j := 0) rfl, l, _, _, rfl, rfl, at_l4, ?_, _, _, rfl, fun b o e => ?_, ?_⟩
      · have : (100 : Nat) ≤ sizeLine := by decide
        rw [List.length_map, List.length_append, List.length_take]
        omega
      · rw [upd_ne (lne e)]
        exact s24 _ _ e
      · obtain ⟨lt, rfl⟩ := List.getElem?_eq_some_iff.mp hn
        rw [upd_same, List.take_succ_eq_append_getElem lt, ← List.append_assoc]
        show some (HO.lst (List.map V.str (tn ++ ns.take i) ++ List.map V.str [ns[i]])) = _
        rw [← List.map_append]
    · rintro σ H2 ⟨v6, v7, rfl, s2, at_l2⟩
      refine ⟨_, rfl, a, rfl, ⟨_, SqL.of (s2 _ _ ha)⟩, fun D nD => ?_⟩
      refine lc_list (xs := ws) (fun i H' => Same H2 H' ∧ H' D = some (.lst (ws.take i))) ⟨same_upd nD, upd_same⟩ (fun i H' _ z => SqL.of (z.1 _ _ (s2 _ _ ha))) ?_ ?_
      · rintro i x H3 hx ⟨s3, at_D⟩
        obtain ⟨n, hn, c, xs, rfl, ec⟩ := paired_get pn hx
        have hi := (List.getElem?_eq_some_iff.mp hx).1
        refine ⟨rfl, kept ⟨_, rfl, c, _, rfl, .inr ⟨SqT.of (s3 _ _ (s2 _ _ ec)), _, at_D, ?_, fun b o e => ?_, ?_⟩⟩⟩
        · have : (100 : Nat) ≤ sizeLine := by decide
          rw [List.length_take]
          omega
        · rw [upd_ne (ne_of_none e nD)]
          exact s3 _ _ e
        · rw [upd_same, List.take_succ_eq_append_getElem hi, (List.getElem?_eq_some_iff.mp hx).2]
      · rintro H3 ⟨s3, at_D⟩
        rw [List.take_length] at at_D
        exact ⟨D, _, rfl, .inl ⟨SqL.of at_D, fun u nu => k _ u ((s2.trans s3).trans (same_upd nu)) upd_same⟩⟩
end
end K03

namespace K03
open PySem PySem.Spec PyProof.Rows L2
open Cal EnuT

theorem comp_ix {K K' : W.Frag} {te : TE} {σ : L2.St} {H : Hp} {Q : VK} {td : Addr} {i : Nat} {j : Int} {ws ys : List V} (hte : ∀ R : VK, R (.ref td) H → te σ H R) (htd : H td = some (.tup ws)) (few : ws.length ≤ 50)
    (pw : Paired (fun v y => ∃ t xs, v = V.ref t ∧ H t = some (.tup xs) ∧ atI xs j = some y) ws ys)
    (hw : ∀ v, wipe ((wipe σ [i]).set i (some v)) [i] = wipe σ [i]) (hg : ∀ v : V, ((wipe σ [i]).set i (some v))[i]? = some (some v))
    (k : ∀ H' D, Same H H' → H D = none → H' D = some (.lst ys) → Q (.ref D) H') :
    tLc (iTup K te) (gName i) tYes (tOp (rIxT K') (tVar i) (tC (.int j))) [i] σ H Q := by
  refine hte _ ⟨td, rfl, ⟨_, SqT.of htd⟩, fun D nD => ?_⟩
  refine lc_tup (xs := ws) (fun n H' => (∀ b o, b ≠ D → H b = some o → H' b = some o) ∧ H' D = some (.lst (ys.take n))) ⟨fun b o ne e => by rw [upd_ne ne]; exact e, upd_same⟩
    (fun n H' _ z => SqT.of (z.1 _ _ (ne_of_none htd nD) htd)) ?_ ?_
  · rintro n x H1 hx ⟨keep, at_D⟩
    obtain ⟨y, hy, t, xs, rfl, et, ej⟩ := paired_get pw hx
    obtain ⟨lt, rfl⟩ := List.getElem?_eq_some_iff.mp hy
    have ly := paired_len pw
    refine ⟨hw _, kept ⟨_, hg _, t, xs, _, _, rfl, rfl, SqT.of (keep _ _ (ne_of_none et nD) et), ej, _, at_D, ?_, fun b o ne e => by rw [upd_ne ne]; exact keep b o ne e, ?_⟩⟩
    · have : (100 : Nat) ≤ sizeLine := by decide
      rw [List.length_take]
      omega
    · rw [upd_same, List.take_succ_eq_append_getElem lt]
  · rintro H1 ⟨keep, at_D⟩
    rw [paired_len pw, List.take_length] at at_D
    exact k H1 D (fun b o e => keep b o (ne_of_none e nD) e) nD at_D

/-- facts of House's class for its __init__ -/
structure HC2 (K : W.Frag) (C : Addr) : Prop where
  cl : Cls K C
  n1 : NoAttr K C "parts"
  n2 : NoAttr K C "doors"
  n3 : NoAttr K C "cells"
  n4 : NoAttr K C "_part_numbers"
  n5 : NoAttr K C "_door_numbers"
  n6 : NoAttr K C "_cell_numbers"
  n7 : NoAttr K C "ends"
  n8 : NoAttr K C "cell_parts"
  n9 : NoAttr K C "kept"
def S1 (f : Addr) (sp : Sp) : Addr → Option Sp := fun g => if g = f then some sp else none
def spInit (C : Addr) : Sp := fun vs H Q _ => ∃ (o a b c dx : Addr) (h : Hs), vs = [.ref o, .ref a, .ref b, .ref c] ∧ H o = some (.ins C dx []) ∧ Good h ∧ HsAt H h a b c ∧ ∀ H', But o H H' → HouseIns H' C o h → Q .non H'
theorem paired_map {α β γ : Type} {R : α → γ → Prop} (f : β → γ) : ∀ {xs : List α} {ys : List β}, Paired (fun x y => R x (f y)) xs ys → Paired R xs (ys.map f)
  | _, _, .nil => .nil
  | _, _, .cons r t => .cons r (paired_map f t)
theorem paired_mono' {α β : Type} {R S : α → β → Prop} : ∀ {xs : List α} {ys : List β}, Paired R xs ys → (∀ a b, b ∈ ys → R a b → S a b) → Paired S xs ys
  | _, _, .nil, _ => .nil
  | _, _, .cons r t, f => .cons (f _ _ (List.mem_cons_self ..) r) (paired_mono' t fun a b hb => f a b (List.mem_cons_of_mem _ hb))
theorem seq_fld {K : W.Frag} {ta tv : TE} {f : Str} {T : TS} {D : Ends} {σ : L2.St} {H : Hp}
    (h : tv σ H fun y H1 => ta σ H1 fun x H2 => ∃ a C dx fs, x = V.ref a ∧ H2 a = some (HO.ins C dx fs) ∧ Cls K C ∧ NoAttr K C f ∧ fs.length < 1000 ∧ T D σ (upd H2 a (HO.ins C dx (putF f y fs)))) : tSeq (sFld K ta tv f) T D σ H := h
theorem one_fld {K : W.Frag} {ta tv : TE} {f : Str} {D : Ends} {σ : L2.St} {H : Hp}
    (h : tv σ H fun y H1 => ta σ H1 fun x H2 => ∃ a C dx fs, x = V.ref a ∧ H2 a = some (HO.ins C dx fs) ∧ Cls K C ∧ NoAttr K C f ∧ fs.length < 1000 ∧ D.nx σ (upd H2 a (HO.ins C dx (putF f y fs)))) : sFld K ta tv f D σ H := h
theorem call_one {sp : Sp} {te : TE} {E : XK} {σ : L2.St} {H : Hp} {Q : VK} (h : te σ H fun x H1 => sp [x] H1 Q E) : tCall sp [] E (tCons te tNil) σ H Q := h
theorem cb_one {r : List V → Hp → VK → Prop} {te : TE} {σ : L2.St} {H : Hp} {Q : VK} (h : te σ H fun x H1 => r [x] H1 Q) : tCB r (tCons te tNil) σ H Q := h
theorem but_upd {o : Addr} {H H1 : Hp} {u : HO} (b : But o H H1) : But o H (upd H1 o u) := fun c x ne e => by
  rw [upd_ne ne]
  exact b c x ne e
theorem but_same {o : Addr} {H H1 H2 : Hp} (b : But o H H1) (s : Same H1 H2) : But o H H2 := fun c x ne e => s _ _ (b c x ne e)
theorem keep_upd {H : Hp} {o t : Addr} {C dx : Addr} {fs fs' : List (Str × V)} {xs : List V} (eo : H o = some (.ins C dx fs)) (et : H t = some (.tup xs)) : upd H o (.ins C dx fs') t = some (.tup xs) := by
  rw [upd_ne (ne_of et eo (fun z => by cases z))]
  exact et
theorem keep_lst {H : Hp} {o t : Addr} {C dx : Addr} {fs fs' : List (Str × V)} {xs : List V} (eo : H o = some (.ins C dx fs)) (et : H t = some (.lst xs)) : upd H o (.ins C dx fs') t = some (.lst xs) := by
  rw [upd_ne (ne_of et eo (fun z => by cases z))]
  exact et
theorem keep_dK {H : Hp} {o t : Addr} {C dx : Addr} {fs fs' : List (Str × V)} {xs : List (Key × V)} (eo : H o = some (.ins C dx fs)) (et : H t = some (.dK xs)) : upd H o (.ins C dx fs') t = some (.dK xs) := by
  rw [upd_ne (ne_of et eo (fun z => by cases z))]
  exact et
section
variable {P : Program} {w : World} {K : W.Frag} {mg : Str → Option Value} {base : Heap}
theorem scIn : FnScope ["self", "parts", "doors", "cells", "taken", "door", "cell"] ["self", "parts", "doors", "cells"] (defScope sInit) := ⟨rfl, rfl, rfl, by decide +kernel, rfl, by decide +kernel, by decide +kernel⟩
theorem ok_init {f C fD fC fM : Addr} {fd fdM : FuncData} {t1 t2 : Tok} (F : Fun K "__init__" "House.__init__" sInit f fd) (B : Bl mg) (T : HC2 K C) (ChP : Callee P w K mg base "_checked_parts" 2 ["parts"] spParts)
    (Ch1 : Callee P w K mg base "_checked_things" 3 ["things", "most", "parts", "taken", "is_thing"] (spChecked (S1 fD spDoor))) (Ch2 : Callee P w K mg base "_checked_things" 3 ["things", "most", "parts", "taken", "is_thing"] (spChecked (S1 fC spCell)))
    (Nu : Callee P w K mg base "_numbers" 1 ["names"] spNums) (mD : mg "MOST_DOORS" = some (.int 12 t1)) (mC : mg "MOST_CELLS" = some (.int 8 t2)) (gD : mg "_is_door" = some (.ref fD)) (gC : mg "_is_cell" = some (.ref fC))
    (M : Meth K C "number_of_part" fM) (FM : FnOk P w K mg base CX0 2 fM fdM ["self", "name"] (spNumPart C)) (bM : Binds K fdM ["self", "name"] []) : FnOk P w K mg base CX0 4 f fd ["self", "parts", "doors", "cells"] (spInit C) := by
  refine F.ok scIn (fun vs H Q E h => ?_) (fun cdv A outer s H vs Q E hr h => ?_)
  · obtain ⟨o, a, b, c, dx, h, rfl, _⟩ := h
    rfl
  · obtain ⟨o, a, b, c, dx, h, rfl, ho, good, at_h, k⟩ := h
    have hr2 := hr.mono (show 2 ≤ 3 by decide)
    have hr1 := hr.mono (show 1 ≤ 3 by decide)
    refine ⟨_, pss_cons (ps_fld (pv 0) (pe_callee ChP hr2 rfl (pa_cons (pv 1) pa_nil)) rfl)
      (pss_cons (ps_fld (pv 0) (pe_callee Ch1 hr rfl (pa_cons (pv 2) (pa_cons (pe_glob (v := .int 12) rfl mD ⟨_, rfl⟩) (pa_cons (pe_fld (pv 0) rfl) (pa_cons (pe_fld (pv 0) rfl) (pa_cons (pe_glob (v := .ref fD) rfl gD rfl) pa_nil)))))) rfl)
      (pss_cons (ps_set (i := 4) scIn.nd rfl (Or.inl rfl) (pe_lst (StX.pa_star (pe_fld (pv 0) rfl) (StX.pa_star (pe_lc (own := [("door", 5)]) (g := gName 5) (tt := tYes) (by rfl) scIn.nd (pi_tup (pe_fld (pv 0) rfl))
        (blkOk_by (own := [("door", 5)]) (N := ["self", "parts", "doors", "cells", "taken", "door", "cell"]) (sc := defScope sInit) (by decide +kernel))
        (fun _ _ _ _ _ => pg_name (i := 5) scIn.nd rfl (Or.inl rfl)) (fun _ _ _ _ _ => pts_nil) (fun _ _ _ _ _ => (show PE _ _ (tOp (rIxT K) (tVar 5) (tC (.int 0))) from pe_ix ix_tup (pv 5) pe_int (fun _ _ => rfl)))) pa_nil))))
      (pss_cons (ps_fld (pv 0) (pe_callee Ch2 hr rfl (pa_cons (pv 3) (pa_cons (pe_glob (v := .int 8) rfl mC ⟨_, rfl⟩) (pa_cons (pe_fld (pv 0) rfl) (pa_cons (pv 4) (pa_cons (pe_glob (v := .ref fC) rfl gC rfl) pa_nil)))))) rfl)
      (pss_cons (ps_fld (pv 0) (pe_callee Nu hr1 rfl (pa_cons (pe_fld (pv 0) rfl) pa_nil)) rfl)
      (pss_cons (ps_fld (pv 0) (pe_callee Nu hr1 rfl (pa_cons (pe_lc (own := [("door", 5)]) (g := gName 5) (tt := tYes) (by rfl) scIn.nd (pi_tup (pe_fld (pv 0) rfl))
        (blkOk_by (own := [("door", 5)]) (N := ["self", "parts", "doors", "cells", "taken", "door", "cell"]) (sc := defScope sInit) (by decide +kernel))
        (fun _ _ _ _ _ => pg_name (i := 5) scIn.nd rfl (Or.inl rfl)) (fun _ _ _ _ _ => pts_nil) (fun _ _ _ _ _ => (show PE _ _ (tOp (rIxT K) (tVar 5) (tC (.int 0))) from pe_ix ix_tup (pv 5) pe_int (fun _ _ => rfl)))) pa_nil)) rfl)
      (pss_cons (ps_fld (pv 0) (pe_callee Nu hr1 rfl (pa_cons (pe_lc (own := [("cell", 6)]) (g := gName 6) (tt := tYes) (by rfl) scIn.nd (pi_tup (pe_fld (pv 0) rfl))
        (blkOk_by (own := [("cell", 6)]) (N := ["self", "parts", "doors", "cells", "taken", "door", "cell"]) (sc := defScope sInit) (by decide +kernel))
        (fun _ _ _ _ _ => pg_name (i := 6) scIn.nd rfl (Or.inl rfl)) (fun _ _ _ _ _ => pts_nil) (fun _ _ _ _ _ => (show PE _ _ (tOp (rIxT K) (tVar 6) (tC (.int 0))) from pe_ix ix_tup (pv 6) pe_int (fun _ _ => rfl)))) pa_nil)) rfl)
      (pss_cons (ps_fld (pv 0) (pe_callTy call_tuple_of (by rfl) B.tuple (by decide +kernel) (pa_cons (pe_lc (own := [("door", 5)]) (g := gName 5) (tt := tYes) (by rfl) scIn.nd (pi_tup (pe_fld (pv 0) rfl))
        (blkOk_by (own := [("door", 5)]) (N := ["self", "parts", "doors", "cells", "taken", "door", "cell"]) (sc := defScope sInit) (by decide +kernel))
        (fun _ _ _ _ _ => pg_name (i := 5) scIn.nd rfl (Or.inl rfl)) (fun _ _ _ _ _ => pts_nil)
        (fun _ _ _ _ _ => pe_tup (pa_cons (pe_meth (pv 0) T.cl M FM hr2 bM .nil pass0 (pa_cons (show PE _ _ (tOp (rIxT K) (tVar 5) (tC (.int 1))) from pe_ix ix_tup (pv 5) pe_int (fun _ _ => rfl)) pa_nil))
          (pa_cons (pe_meth (pv 0) T.cl M FM hr2 bM .nil pass0 (pa_cons (show PE _ _ (tOp (rIxT K) (tVar 5) (tC (.int 2))) from pe_ix ix_tup (pv 5) pe_int (fun _ _ => rfl)) pa_nil)) pa_nil)))) pa_nil)) rfl)
      (pss_cons (ps_fld (pv 0) (pe_callTy call_tuple_of (by rfl) B.tuple (by decide +kernel) (pa_cons (pe_lc (own := [("cell", 6)]) (g := gName 6) (tt := tYes) (by rfl) scIn.nd (pi_tup (pe_fld (pv 0) rfl))
        (blkOk_by (own := [("cell", 6)]) (N := ["self", "parts", "doors", "cells", "taken", "door", "cell"]) (sc := defScope sInit) (by decide +kernel))
        (fun _ _ _ _ _ => pg_name (i := 6) scIn.nd rfl (Or.inl rfl)) (fun _ _ _ _ _ => pts_nil)
        (fun _ _ _ _ _ => pe_meth (pv 0) T.cl M FM hr2 bM .nil pass0 (pa_cons (show PE _ _ (tOp (rIxT K) (tVar 6) (tC (.int 1))) from pe_ix ix_tup (pv 6) pe_int (fun _ _ => rfl)) pa_nil))) pa_nil)) rfl)
      (pss_one (ps_fld (pv 0) (pe_callTy call_tuple_of (by rfl) B.tuple (by decide +kernel) (pa_cons (pe_lc (own := [("cell", 6)]) (g := gName 6) (tt := tYes) (by rfl) scIn.nd (pi_tup (pe_fld (pv 0) rfl))
        (blkOk_by (own := [("cell", 6)]) (N := ["self", "parts", "doors", "cells", "taken", "door", "cell"]) (sc := defScope sInit) (by decide +kernel))
        (fun _ _ _ _ _ => pg_name (i := 6) scIn.nd rfl (Or.inl rfl)) (fun _ _ _ _ _ => pts_nil) (fun _ _ _ _ _ => (show PE _ _ (tOp (rIxT K) (tVar 6) (tC (.int 2))) from pe_ix ix_tup (pv 6) pe_int (fun _ _ => rfl)))) pa_nil)) rfl)))))))))), ?_⟩
    obtain ⟨vd, hvd, pd⟩ := at_h.da
    obtain ⟨vc, hvc, pc⟩ := at_h.ca
    have ld := paired_len pd
    have lc := paired_len pc
    have d5 := good.d5
    have c3 := good.c3
    have p4 := good.p4
    have noa : ∀ {x : Addr} {xs : List V}, H x = some (.lst xs) → x ≠ o := fun e => ne_of e ho (fun z => by cases z)
    have not : ∀ {x : Addr} {xs : List V}, H x = some (.tup xs) → x ≠ o := fun e => ne_of e ho (fun z => by cases z)
    have ndp : h.parts.Nodup := (List.sublist_append_left h.parts (h.doors.map (·.n) ++ h.cells.map (·.n))).nodup good.nodup
    have ndd : (h.parts ++ h.doors.map (·.n)).Nodup := by
      have : (h.parts ++ h.doors.map (·.n)).Sublist h.names := (List.Sublist.refl _).append (List.sublist_append_left _ _)
      exact this.nodup good.nodup
    have ndc : (h.parts ++ h.doors.map (·.n) ++ h.cells.map (·.n)).Nodup := by
      rw [List.append_assoc]
      exact good.nodup
    have subp : ∀ x, x ∈ h.parts → x ∈ N16 := fun x hx => good.sub x (List.mem_append_left _ hx)
    refine ⟨_, rfl, a, h.parts, rfl, at_h.pa, good.p1, by omega, ndp, subp, fun H1 tp s1 e1 => ⟨_, rfl, o, C, dx, [], rfl, s1 _ _ ho, T.cl, T.n1, by decide, ?_⟩⟩
    have o1 : upd H1 o (.ins C dx [("parts", .ref tp)]) o = some (.ins C dx [("parts", .ref tp)]) := upd_same
    have b1 : But o H (upd H1 o (.ins C dx [("parts", .ref tp)])) := but_upd (but_same (fun _ _ _ e => e) s1)
    have p1 : upd H1 o (.ins C dx [("parts", .ref tp)]) tp = some (.tup (h.parts.map V.str)) := keep_upd (s1 _ _ ho) e1
    show Ends.nx _ _ (upd H1 o (.ins C dx [("parts", .ref tp)]))
    revert o1 b1 p1
    generalize upd H1 o (.ins C dx [("parts", .ref tp)]) = G1
    intro o1 b1 p1
    refine ⟨_, rfl, _, rfl, o, C, dx, _, _, rfl, o1, T.cl, T.n1, rfl, _, rfl, o, C, dx, _, _, rfl, o1, T.cl, T.n1, rfl, ?_⟩
    have mn : ∀ d, d ∈ h.doors → d.n ∈ N16 := fun d hd => good.sub _ (List.mem_append_right _ (List.mem_append_left _ (List.mem_map.mpr ⟨d, hd, rfl⟩)))
    have mc : ∀ d, d ∈ h.cells → d.n ∈ N16 := fun d hd => good.sub _ (List.mem_append_right _ (List.mem_append_right _ (List.mem_map.mpr ⟨d, hd, rfl⟩)))
    refine ⟨b, tp, tp, fD, 12, vd, h.doors.map (·.n), h.parts, spDoor, rfl, b1 _ _ (noa hvd) hvd, paired_map _ (paired_mono (fun v d x => ?_) pd), by omega, by decide, .inr p1, by omega, ndd, if_pos rfl, fun v hv H' Q' s q => ?_, fun H2 td s2 e2 => ⟨_, rfl, o, C, dx, _, rfl, s2 _ _ o1, T.cl, T.n2, by show 1 < 1000; decide, ?_⟩⟩
    · obtain ⟨t, rfl, et⟩ := x
      exact ⟨t, _, rfl, b1 _ _ (not et) et⟩
    · obtain ⟨d, hd, t, rfl, et⟩ := paired_mem pd hv
      obtain ⟨g1, g2, g3⟩ := good.ends d hd
      exact ⟨t, tp, d, h.parts, rfl, s _ _ (b1 _ _ (not et) et), s _ _ p1, by omega, mn d hd, g1, g2, g3, q⟩
    have o2 : upd H2 o (.ins C dx [("parts", .ref tp), ("doors", .ref td)]) o = some (.ins C dx [("parts", .ref tp), ("doors", .ref td)]) := upd_same
    have b2 : But o H (upd H2 o (.ins C dx [("parts", .ref tp), ("doors", .ref td)])) := but_upd (but_same b1 s2)
    have p2 : upd H2 o (.ins C dx [("parts", .ref tp), ("doors", .ref td)]) tp = some (.tup (h.parts.map V.str)) := keep_upd (s2 _ _ o1) (s2 _ _ p1)
    have d2 : upd H2 o (.ins C dx [("parts", .ref tp), ("doors", .ref td)]) td = some (.tup vd) := keep_upd (s2 _ _ o1) e2
    show Ends.nx _ _ (upd H2 o (.ins C dx [("parts", .ref tp), ("doors", .ref td)]))
    revert o2 b2 p2 d2
    generalize upd H2 o (.ins C dx [("parts", .ref tp), ("doors", .ref td)]) = G2
    intro o2 b2 p2 d2
    have pdx : ∀ {G : Hp}, But o H G → Paired (fun v d => ∃ t, v = V.ref t ∧ G t = some (.tup (dvs d))) vd h.doors := fun {G} b => paired_mono (fun v d x => by
      obtain ⟨t, rfl, et⟩ := x
      exact ⟨t, rfl, b _ _ (not et) et⟩) pd
    have pcx : ∀ {G : Hp}, But o H G → Paired (fun v d => ∃ t, v = V.ref t ∧ G t = some (.tup (cvs d))) vc h.cells := fun {G} b => paired_mono (fun v d x => by
      obtain ⟨t, rfl, et⟩ := x
      exact ⟨t, rfl, b _ _ (not et) et⟩) pc
    have dix : ∀ {G : Hp} (j : Int) (g : Door → V), (∀ d, atI (dvs d) j = some (g d)) → But o H G → Paired (fun v y => ∃ t xs, v = V.ref t ∧ G t = some (.tup xs) ∧ atI xs j = some y) vd (h.doors.map g) := fun {G} j g hg b =>
      paired_map g (paired_mono (fun v d x => by
        obtain ⟨t, rfl, et⟩ := x
        exact ⟨t, _, rfl, et, hg d⟩) (pdx b))
    have cix : ∀ {G : Hp} (j : Int) (g : Cell → V), (∀ d, atI (cvs d) j = some (g d)) → But o H G → Paired (fun v y => ∃ t xs, v = V.ref t ∧ G t = some (.tup xs) ∧ atI xs j = some y) vc (h.cells.map g) := fun {G} j g hg b =>
      paired_map g (paired_mono (fun v d x => by
        obtain ⟨t, rfl, et⟩ := x
        exact ⟨t, _, rfl, et, hg d⟩) (pcx b))
    refine ⟨_, rfl, o, C, dx, _, _, rfl, o2, T.cl, T.n1, rfl, tp, _, rfl, .inl (SqT.of p2), ?_⟩
    unfold StX.tStar
    refine comp_ix (td := td) (i := 5) (j := 0) (fun R r => ⟨_, rfl, o, C, dx, _, _, rfl, o2, T.cl, T.n2, rfl, r⟩) d2 (by omega) (dix 0 (fun d => .str d.n) (fun d => rfl) b2) (by intro; rfl) (by intro; rfl) fun H3 D s3 nD eD => ?_
    refine ⟨D, _, rfl, .inr (SqL.of eD), ?_⟩
    have line : (100 : Nat) ≤ sizeLine := by decide
    refine ⟨by simp; omega, fun l nl => ?_⟩
    have s4 := same_upd (o := .lst (h.parts.map V.str ++ (h.doors.map (fun d => V.str d.n) ++ []))) nl
    have s34 := s3.trans s4
    have at_l : upd H3 l (.lst (h.parts.map V.str ++ (h.doors.map (fun d => V.str d.n) ++ []))) l = some (.lst ((h.parts ++ h.doors.map (·.n)).map V.str)) := by
      rw [upd_same, List.map_append, List.map_map, List.append_nil]
      rfl
    have o3 := s34 _ _ o2
    have b3 := but_same b2 s34
    have p3 := s34 _ _ p2
    have d3 := s34 _ _ d2
    show Ends.nx _ _ (upd H3 l (.lst (h.parts.map V.str ++ (h.doors.map (fun d => V.str d.n) ++ []))))
    revert o3 b3 p3 d3 at_l
    generalize upd H3 l (.lst (h.parts.map V.str ++ (h.doors.map (fun d => V.str d.n) ++ []))) = G3
    intro at_l o3 b3 p3 d3
    refine ⟨_, rfl, _, rfl, o, C, dx, _, _, rfl, o3, T.cl, T.n1, rfl, _, rfl, ?_⟩
    refine ⟨c, tp, l, fC, 8, vc, h.cells.map (·.n), h.parts ++ h.doors.map (·.n), spCell, rfl, b3 _ _ (noa hvc) hvc, paired_map _ (paired_mono (fun v d x => ?_) pc), by omega, by decide, .inl at_l, by rw [List.length_append, List.length_map]; omega, ndc, if_pos rfl, fun v hv H' Q' s q => ?_, fun H4 tc s5 e4 => ⟨_, rfl, o, C, dx, _, rfl, s5 _ _ o3, T.cl, T.n3, by show 2 < 1000; decide, ?_⟩⟩
    · obtain ⟨t, rfl, et⟩ := x
      exact ⟨t, _, rfl, b3 _ _ (not et) et⟩
    · obtain ⟨d, hd, t, rfl, et⟩ := paired_mem pc hv
      exact ⟨t, tp, d, h.parts, rfl, s _ _ (b3 _ _ (not et) et), s _ _ p3, by omega, mc d hd, good.cin d hd, q⟩
    have o4 : upd H4 o (.ins C dx [("parts", .ref tp), ("doors", .ref td), ("cells", .ref tc)]) o = some (.ins C dx [("parts", .ref tp), ("doors", .ref td), ("cells", .ref tc)]) := upd_same
    have b4 : But o H (upd H4 o (.ins C dx [("parts", .ref tp), ("doors", .ref td), ("cells", .ref tc)])) := but_upd (but_same b3 s5)
    have p4' : upd H4 o (.ins C dx [("parts", .ref tp), ("doors", .ref td), ("cells", .ref tc)]) tp = some (.tup (h.parts.map V.str)) := keep_upd (s5 _ _ o3) (s5 _ _ p3)
    have d4 : upd H4 o (.ins C dx [("parts", .ref tp), ("doors", .ref td), ("cells", .ref tc)]) td = some (.tup vd) := keep_upd (s5 _ _ o3) (s5 _ _ d3)
    have c4 : upd H4 o (.ins C dx [("parts", .ref tp), ("doors", .ref td), ("cells", .ref tc)]) tc = some (.tup vc) := keep_upd (s5 _ _ o3) e4
    show Ends.nx _ _ (upd H4 o (.ins C dx [("parts", .ref tp), ("doors", .ref td), ("cells", .ref tc)]))
    revert o4 b4 p4' d4 c4
    generalize upd H4 o (.ins C dx [("parts", .ref tp), ("doors", .ref td), ("cells", .ref tc)]) = G4
    intro o4 b4 p4' d4 c4
    -- the numbers of the parts
    refine ⟨_, rfl, o, C, dx, _, _, rfl, o4, T.cl, T.n1, rfl, tp, h.parts, rfl, .inr p4', by omega, fun H5 D5 kvs s6 e5 has => ⟨_, rfl, o, C, dx, _, rfl, s6 _ _ o4, T.cl, T.n4, by show 3 < 1000; decide, ?_⟩⟩
    have o5 : upd H5 o (.ins C dx [("parts", .ref tp), ("doors", .ref td), ("cells", .ref tc), ("_part_numbers", .ref D5)]) o = some (.ins C dx [("parts", .ref tp), ("doors", .ref td), ("cells", .ref tc), ("_part_numbers", .ref D5)]) := upd_same
    have b5 : But o H (upd H5 o (.ins C dx [("parts", .ref tp), ("doors", .ref td), ("cells", .ref tc), ("_part_numbers", .ref D5)])) := but_upd (but_same b4 s6)
    have p5 : upd H5 o (.ins C dx [("parts", .ref tp), ("doors", .ref td), ("cells", .ref tc), ("_part_numbers", .ref D5)]) tp = some (.tup (h.parts.map V.str)) := keep_upd (s6 _ _ o4) (s6 _ _ p4')
    have d5' : upd H5 o (.ins C dx [("parts", .ref tp), ("doors", .ref td), ("cells", .ref tc), ("_part_numbers", .ref D5)]) td = some (.tup vd) := keep_upd (s6 _ _ o4) (s6 _ _ d4)
    have c5 : upd H5 o (.ins C dx [("parts", .ref tp), ("doors", .ref td), ("cells", .ref tc), ("_part_numbers", .ref D5)]) tc = some (.tup vc) := keep_upd (s6 _ _ o4) (s6 _ _ c4)
    have n5 : upd H5 o (.ins C dx [("parts", .ref tp), ("doors", .ref td), ("cells", .ref tc), ("_part_numbers", .ref D5)]) D5 = some (.dK kvs) := keep_dK (s6 _ _ o4) e5
    show Ends.nx _ _ (upd H5 o (.ins C dx [("parts", .ref tp), ("doors", .ref td), ("cells", .ref tc), ("_part_numbers", .ref D5)]))
    revert o5 b5 p5 d5' c5 n5
    generalize upd H5 o (.ins C dx [("parts", .ref tp), ("doors", .ref td), ("cells", .ref tc), ("_part_numbers", .ref D5)]) = G5
    intro o5 b5 p5 d5' c5 n5
    dsimp only
    refine seq_fld (call_one ?_)
    refine comp_ix (td := td) (i := 5) (j := 0) (fun R r => ⟨_, rfl, o, C, dx, _, _, rfl, o5, T.cl, T.n2, rfl, r⟩) d5' (by omega) (dix 0 (fun d => .str d.n) (fun d => rfl) b5) (by intro; rfl) (by intro; rfl) fun A5 D5a sa5 nD5 eD5 => ?_
    refine ⟨D5a, h.doors.map (·.n), rfl, .inl (by rw [List.map_map]; exact eD5), by rw [List.length_map]; omega, fun B5 D5b kvs5 sb5 eb5 _ => ⟨_, rfl, o, C, dx, _, rfl, (sa5.trans sb5) _ _ o5, T.cl, T.n5, by show 4 < 1000; decide, ?_⟩⟩
    have sc5 := sa5.trans sb5
    have o6 : upd B5 o (.ins C dx [("parts", .ref tp), ("doors", .ref td), ("cells", .ref tc), ("_part_numbers", .ref D5), ("_door_numbers", .ref D5b)]) o = some (.ins C dx [("parts", .ref tp), ("doors", .ref td), ("cells", .ref tc), ("_part_numbers", .ref D5), ("_door_numbers", .ref D5b)]) := upd_same
    have b6 : But o H (upd B5 o (.ins C dx [("parts", .ref tp), ("doors", .ref td), ("cells", .ref tc), ("_part_numbers", .ref D5), ("_door_numbers", .ref D5b)])) := but_upd (but_same b5 sc5)
    have p6 : upd B5 o (.ins C dx [("parts", .ref tp), ("doors", .ref td), ("cells", .ref tc), ("_part_numbers", .ref D5), ("_door_numbers", .ref D5b)]) tp = some (.tup (h.parts.map V.str)) := keep_upd (sc5 _ _ o5) (sc5 _ _ p5)
    have d6' : upd B5 o (.ins C dx [("parts", .ref tp), ("doors", .ref td), ("cells", .ref tc), ("_part_numbers", .ref D5), ("_door_numbers", .ref D5b)]) td = some (.tup vd) := keep_upd (sc5 _ _ o5) (sc5 _ _ d5')
    have c6 : upd B5 o (.ins C dx [("parts", .ref tp), ("doors", .ref td), ("cells", .ref tc), ("_part_numbers", .ref D5), ("_door_numbers", .ref D5b)]) tc = some (.tup vc) := keep_upd (sc5 _ _ o5) (sc5 _ _ c5)
    have n6 : upd B5 o (.ins C dx [("parts", .ref tp), ("doors", .ref td), ("cells", .ref tc), ("_part_numbers", .ref D5), ("_door_numbers", .ref D5b)]) D5 = some (.dK kvs) := keep_dK (sc5 _ _ o5) (sc5 _ _ n5)
    show tSeq _ _ _ _ (upd B5 o (.ins C dx [("parts", .ref tp), ("doors", .ref td), ("cells", .ref tc), ("_part_numbers", .ref D5), ("_door_numbers", .ref D5b)]))
    revert o6 b6 p6 d6' c6 n6
    generalize upd B5 o (.ins C dx [("parts", .ref tp), ("doors", .ref td), ("cells", .ref tc), ("_part_numbers", .ref D5), ("_door_numbers", .ref D5b)]) = G6
    intro o6 b6 p6 d6' c6 n6
    refine seq_fld (call_one ?_)
    refine comp_ix (td := tc) (i := 6) (j := 0) (fun R r => ⟨_, rfl, o, C, dx, _, _, rfl, o6, T.cl, T.n3, rfl, r⟩) c6 (by omega) (cix 0 (fun d => .str d.n) (fun d => rfl) b6) (by intro; rfl) (by intro; rfl) fun A6 D6a sa6 nD6 eD6 => ?_
    refine ⟨D6a, h.cells.map (·.n), rfl, .inl (by rw [List.map_map]; exact eD6), by rw [List.length_map]; omega, fun B6 D6b kvs6 sb6 eb6 _ => ⟨_, rfl, o, C, dx, _, rfl, (sa6.trans sb6) _ _ o6, T.cl, T.n6, by show 5 < 1000; decide, ?_⟩⟩
    have sc6 := sa6.trans sb6
    have o7 : upd B6 o (.ins C dx [("parts", .ref tp), ("doors", .ref td), ("cells", .ref tc), ("_part_numbers", .ref D5), ("_door_numbers", .ref D5b), ("_cell_numbers", .ref D6b)]) o = some (.ins C dx [("parts", .ref tp), ("doors", .ref td), ("cells", .ref tc), ("_part_numbers", .ref D5), ("_door_numbers", .ref D5b), ("_cell_numbers", .ref D6b)]) := upd_same
    have b7 : But o H (upd B6 o (.ins C dx [("parts", .ref tp), ("doors", .ref td), ("cells", .ref tc), ("_part_numbers", .ref D5), ("_door_numbers", .ref D5b), ("_cell_numbers", .ref D6b)])) := but_upd (but_same b6 sc6)
    have p7 : upd B6 o (.ins C dx [("parts", .ref tp), ("doors", .ref td), ("cells", .ref tc), ("_part_numbers", .ref D5), ("_door_numbers", .ref D5b), ("_cell_numbers", .ref D6b)]) tp = some (.tup (h.parts.map V.str)) := keep_upd (sc6 _ _ o6) (sc6 _ _ p6)
    have d7' : upd B6 o (.ins C dx [("parts", .ref tp), ("doors", .ref td), ("cells", .ref tc), ("_part_numbers", .ref D5), ("_door_numbers", .ref D5b), ("_cell_numbers", .ref D6b)]) td = some (.tup vd) := keep_upd (sc6 _ _ o6) (sc6 _ _ d6')
    have c7 : upd B6 o (.ins C dx [("parts", .ref tp), ("doors", .ref td), ("cells", .ref tc), ("_part_numbers", .ref D5), ("_door_numbers", .ref D5b), ("_cell_numbers", .ref D6b)]) tc = some (.tup vc) := keep_upd (sc6 _ _ o6) (sc6 _ _ c6)
    have n7 : upd B6 o (.ins C dx [("parts", .ref tp), ("doors", .ref td), ("cells", .ref tc), ("_part_numbers", .ref D5), ("_door_numbers", .ref D5b), ("_cell_numbers", .ref D6b)]) D5 = some (.dK kvs) := keep_dK (sc6 _ _ o6) (sc6 _ _ n6)
    show tSeq _ _ _ _ (upd B6 o (.ins C dx [("parts", .ref tp), ("doors", .ref td), ("cells", .ref tc), ("_part_numbers", .ref D5), ("_door_numbers", .ref D5b), ("_cell_numbers", .ref D6b)]))
    revert o7 b7 p7 d7' c7 n7
    generalize upd B6 o (.ins C dx [("parts", .ref tp), ("doors", .ref td), ("cells", .ref tc), ("_part_numbers", .ref D5), ("_door_numbers", .ref D5b), ("_cell_numbers", .ref D6b)]) = G7
    intro o7 b7 p7 d7' c7 n7
    refine seq_fld (cb_one ?_)
    have hasE : ∀ x, EndIn h.parts x → x = "out" ∨ ∃ v, valV kvs (.inr x) = some v := fun x hx => hx.imp id (fun hx => has x hx)
    refine ⟨_, rfl, o, C, dx, _, _, rfl, o7, T.cl, T.n2, rfl, td, rfl, ⟨_, SqT.of d7'⟩, fun D8 nD8 => ?_⟩
    refine lc_tup (xs := vd) (fun n H' => Same G7 H' ∧ ∃ acc, H' D8 = some (.lst acc) ∧ acc.length ≤ n) ⟨same_upd nD8, [], upd_same, Nat.le_refl _⟩ (fun n H' _ z => SqT.of (z.1 _ _ d7')) ?_ ?_
    · rintro n x H8 hx ⟨s8, acc, at_D, la⟩
      obtain ⟨d, hd, t, rfl, et⟩ := paired_get (pdx b7) hx
      have hn : n < vd.length := (List.getElem?_eq_some_iff.mp hx).1
      obtain ⟨g1, g2, _⟩ := good.ends d (List.mem_of_getElem? hd)
      refine ⟨rfl, kept ⟨_, rfl, o, dx, _, rfl, s8 _ _ o7, rfl, _, rfl, t, _, _, V.str d.one, rfl, rfl, SqT.of (s8 _ _ et), atI_nat (j := 1) rfl, ?_⟩⟩
      refine ⟨o, D5, dx, d.one, kvs, _, rfl, s8 _ _ o7, rfl, s8 _ _ n7, hasE _ g1, fun e1 => ?_⟩
      refine ⟨_, rfl, o, dx, _, rfl, s8 _ _ o7, rfl, _, rfl, t, _, _, V.str d.two, rfl, rfl, SqT.of (s8 _ _ et), atI_nat (j := 2) rfl, ?_⟩
      refine ⟨o, D5, dx, d.two, kvs, _, rfl, s8 _ _ o7, rfl, s8 _ _ n7, hasE _ g2, fun e2 => ⟨by show 2 ≤ sizeLine; decide, fun u nu => ?_⟩⟩
      have s9 := same_upd (o := .tup [e1, e2]) nu
      refine ⟨acc, s9 _ _ at_D, by omega, fun b x e => ?_, _, upd_same, by rw [List.length_append]; show acc.length + 1 ≤ _; omega⟩
      rw [upd_ne (ne_of_none e nD8)]
      exact s9 _ _ (s8 _ _ e)
    rintro H8 ⟨s8, acc, at_D, la⟩
    refine ⟨D8, _, rfl, .inl ⟨SqL.of at_D, fun u8 nu8 => ⟨_, rfl, o, C, dx, _, rfl, (s8.trans (same_upd nu8)) _ _ o7, T.cl, T.n7, by show 6 < 1000; decide, ?_⟩⟩⟩
    have sc8 := s8.trans (same_upd (o := .tup acc) nu8)
    have o8 : upd (upd H8 u8 (.tup acc)) o (.ins C dx [("parts", .ref tp), ("doors", .ref td), ("cells", .ref tc), ("_part_numbers", .ref D5), ("_door_numbers", .ref D5b), ("_cell_numbers", .ref D6b), ("ends", .ref u8)]) o = some (.ins C dx [("parts", .ref tp), ("doors", .ref td), ("cells", .ref tc), ("_part_numbers", .ref D5), ("_door_numbers", .ref D5b), ("_cell_numbers", .ref D6b), ("ends", .ref u8)]) := upd_same
    have b8 : But o H (upd (upd H8 u8 (.tup acc)) o (.ins C dx [("parts", .ref tp), ("doors", .ref td), ("cells", .ref tc), ("_part_numbers", .ref D5), ("_door_numbers", .ref D5b), ("_cell_numbers", .ref D6b), ("ends", .ref u8)])) := but_upd (but_same b7 sc8)
    have p8 : upd (upd H8 u8 (.tup acc)) o (.ins C dx [("parts", .ref tp), ("doors", .ref td), ("cells", .ref tc), ("_part_numbers", .ref D5), ("_door_numbers", .ref D5b), ("_cell_numbers", .ref D6b), ("ends", .ref u8)]) tp = some (.tup (h.parts.map V.str)) := keep_upd (sc8 _ _ o7) (sc8 _ _ p7)
    have d8' : upd (upd H8 u8 (.tup acc)) o (.ins C dx [("parts", .ref tp), ("doors", .ref td), ("cells", .ref tc), ("_part_numbers", .ref D5), ("_door_numbers", .ref D5b), ("_cell_numbers", .ref D6b), ("ends", .ref u8)]) td = some (.tup vd) := keep_upd (sc8 _ _ o7) (sc8 _ _ d7')
    have c8 : upd (upd H8 u8 (.tup acc)) o (.ins C dx [("parts", .ref tp), ("doors", .ref td), ("cells", .ref tc), ("_part_numbers", .ref D5), ("_door_numbers", .ref D5b), ("_cell_numbers", .ref D6b), ("ends", .ref u8)]) tc = some (.tup vc) := keep_upd (sc8 _ _ o7) (sc8 _ _ c7)
    have n8 : upd (upd H8 u8 (.tup acc)) o (.ins C dx [("parts", .ref tp), ("doors", .ref td), ("cells", .ref tc), ("_part_numbers", .ref D5), ("_door_numbers", .ref D5b), ("_cell_numbers", .ref D6b), ("ends", .ref u8)]) D5 = some (.dK kvs) := keep_dK (sc8 _ _ o7) (sc8 _ _ n7)
    show tSeq _ _ _ _ (upd (upd H8 u8 (.tup acc)) o (.ins C dx [("parts", .ref tp), ("doors", .ref td), ("cells", .ref tc), ("_part_numbers", .ref D5), ("_door_numbers", .ref D5b), ("_cell_numbers", .ref D6b), ("ends", .ref u8)]))
    revert o8 b8 p8 d8' c8 n8
    generalize upd (upd H8 u8 (.tup acc)) o (.ins C dx [("parts", .ref tp), ("doors", .ref td), ("cells", .ref tc), ("_part_numbers", .ref D5), ("_door_numbers", .ref D5b), ("_cell_numbers", .ref D6b), ("ends", .ref u8)]) = G8
    intro o8 b8 p8 d8' c8 n8
    refine seq_fld (cb_one ?_)
    refine ⟨_, rfl, o, C, dx, _, _, rfl, o8, T.cl, T.n3, rfl, tc, rfl, ⟨_, SqT.of c8⟩, fun D9 nD9 => ?_⟩
    refine lc_tup (xs := vc) (fun n H' => Same G8 H' ∧ ∃ acc, H' D9 = some (.lst acc) ∧ acc.length ≤ n) ⟨same_upd nD9, [], upd_same, Nat.le_refl _⟩ (fun n H' _ z => SqT.of (z.1 _ _ c8)) ?_ ?_
    · rintro n x H9 hx ⟨s9, acc, at_D, la⟩
      obtain ⟨d, hd, t, rfl, et⟩ := paired_get (pcx b8) hx
      have hn : n < vc.length := (List.getElem?_eq_some_iff.mp hx).1
      refine ⟨rfl, kept ⟨_, rfl, o, dx, _, rfl, s9 _ _ o8, rfl, _, rfl, t, _, _, V.str d.p, rfl, rfl, SqT.of (s9 _ _ et), atI_nat (j := 1) rfl, ?_⟩⟩
      refine ⟨o, D5, dx, d.p, kvs, _, rfl, s9 _ _ o8, rfl, s9 _ _ n8, hasE _ (.inr (good.cin d (List.mem_of_getElem? hd))), fun e1 => ?_⟩
      refine ⟨acc, at_D, by omega, fun b x e => ?_, _, upd_same, by rw [List.length_append]; show acc.length + 1 ≤ _; omega⟩
      rw [upd_ne (ne_of_none e nD9)]
      exact s9 _ _ e
    rintro H9 ⟨s9, acc9, at_D9, la9⟩
    refine ⟨D9, _, rfl, .inl ⟨SqL.of at_D9, fun u9 nu9 => ⟨_, rfl, o, C, dx, _, rfl, (s9.trans (same_upd nu9)) _ _ o8, T.cl, T.n8, by show 7 < 1000; decide, ?_⟩⟩⟩
    have sc9 := s9.trans (same_upd (o := .tup acc9) nu9)
    have o9 : upd (upd H9 u9 (.tup acc9)) o (.ins C dx [("parts", .ref tp), ("doors", .ref td), ("cells", .ref tc), ("_part_numbers", .ref D5), ("_door_numbers", .ref D5b), ("_cell_numbers", .ref D6b), ("ends", .ref u8), ("cell_parts", .ref u9)]) o = some (.ins C dx [("parts", .ref tp), ("doors", .ref td), ("cells", .ref tc), ("_part_numbers", .ref D5), ("_door_numbers", .ref D5b), ("_cell_numbers", .ref D6b), ("ends", .ref u8), ("cell_parts", .ref u9)]) := upd_same
    have b9 : But o H (upd (upd H9 u9 (.tup acc9)) o (.ins C dx [("parts", .ref tp), ("doors", .ref td), ("cells", .ref tc), ("_part_numbers", .ref D5), ("_door_numbers", .ref D5b), ("_cell_numbers", .ref D6b), ("ends", .ref u8), ("cell_parts", .ref u9)])) := but_upd (but_same b8 sc9)
    have p9 : upd (upd H9 u9 (.tup acc9)) o (.ins C dx [("parts", .ref tp), ("doors", .ref td), ("cells", .ref tc), ("_part_numbers", .ref D5), ("_door_numbers", .ref D5b), ("_cell_numbers", .ref D6b), ("ends", .ref u8), ("cell_parts", .ref u9)]) tp = some (.tup (h.parts.map V.str)) := keep_upd (sc9 _ _ o8) (sc9 _ _ p8)
    have d9' : upd (upd H9 u9 (.tup acc9)) o (.ins C dx [("parts", .ref tp), ("doors", .ref td), ("cells", .ref tc), ("_part_numbers", .ref D5), ("_door_numbers", .ref D5b), ("_cell_numbers", .ref D6b), ("ends", .ref u8), ("cell_parts", .ref u9)]) td = some (.tup vd) := keep_upd (sc9 _ _ o8) (sc9 _ _ d8')
    have c9 : upd (upd H9 u9 (.tup acc9)) o (.ins C dx [("parts", .ref tp), ("doors", .ref td), ("cells", .ref tc), ("_part_numbers", .ref D5), ("_door_numbers", .ref D5b), ("_cell_numbers", .ref D6b), ("ends", .ref u8), ("cell_parts", .ref u9)]) tc = some (.tup vc) := keep_upd (sc9 _ _ o8) (sc9 _ _ c8)
    have n9 : upd (upd H9 u9 (.tup acc9)) o (.ins C dx [("parts", .ref tp), ("doors", .ref td), ("cells", .ref tc), ("_part_numbers", .ref D5), ("_door_numbers", .ref D5b), ("_cell_numbers", .ref D6b), ("ends", .ref u8), ("cell_parts", .ref u9)]) D5 = some (.dK kvs) := keep_dK (sc9 _ _ o8) (sc9 _ _ n8)
    show sFld _ _ _ _ _ _ (upd (upd H9 u9 (.tup acc9)) o (.ins C dx [("parts", .ref tp), ("doors", .ref td), ("cells", .ref tc), ("_part_numbers", .ref D5), ("_door_numbers", .ref D5b), ("_cell_numbers", .ref D6b), ("ends", .ref u8), ("cell_parts", .ref u9)]))
    revert o9 b9 p9 d9' c9 n9
    generalize upd (upd H9 u9 (.tup acc9)) o (.ins C dx [("parts", .ref tp), ("doors", .ref td), ("cells", .ref tc), ("_part_numbers", .ref D5), ("_door_numbers", .ref D5b), ("_cell_numbers", .ref D6b), ("ends", .ref u8), ("cell_parts", .ref u9)]) = G9
    intro o9 b9 p9 d9' c9 n9
    refine one_fld (cb_one ?_)
    refine comp_ix (td := tc) (i := 6) (j := 2) (fun R r => ⟨_, rfl, o, C, dx, _, _, rfl, o9, T.cl, T.n3, rfl, r⟩) c9 (by omega) (cix 2 (fun d => .bl d.k) (fun d => rfl) b9) (by intro; rfl) (by intro; rfl) fun A9 D9a sa9 nD9 eD9 => ?_
    refine ⟨D9a, _, rfl, .inl ⟨SqL.of eD9, fun u nu => ⟨_, rfl, o, C, dx, _, rfl, (sa9.trans (same_upd nu)) _ _ o9, T.cl, T.n9, by show 8 < 1000; decide, ?_⟩⟩⟩
    have sc9 := sa9.trans (same_upd (o := .tup (h.cells.map fun d => V.bl d.k)) nu)
    refine k _ (but_upd (but_same b9 sc9)) ⟨dx, [("parts", .ref tp), ("doors", .ref td), ("cells", .ref tc), ("_part_numbers", .ref D5), ("_door_numbers", .ref D5b), ("_cell_numbers", .ref D6b), ("ends", .ref u8), ("cell_parts", .ref u9), ("kept", .ref u)], tp, td, tc, vd, vc, upd_same, rfl, rfl, rfl, keep_upd (sc9 _ _ o9) (sc9 _ _ p9), keep_upd (sc9 _ _ o9) (sc9 _ _ d9'), ?_, keep_upd (sc9 _ _ o9) (sc9 _ _ c9), ?_⟩
    · exact pdx (but_upd (but_same b9 sc9))
    · exact pcx (but_upd (but_same b9 sc9))
end
end K03

namespace K03
open PySem PySem.Spec PyProof.Rows L2
open Cal EnuT

/-! ### repr of the row at first -/
def isFl : PyData → Bool
  | .bool _ => true
  | .int 0 => true
  | _ => false
structure FlAll (xs : List PyData) : Prop where
  sh : PyData.showableAll xs = true
  nd : PyData.hasDictAll xs = false
  de : PyData.depthAll xs = 0
  ls : PyData.leavesShortAll 8 xs = true
  bu : PyData.bulkAll xs = xs.length
theorem fl_all : ∀ xs : List PyData, (∀ x, x ∈ xs → isFl x = true) → FlAll xs
  | [], _ => ⟨by simp [PyData.showableAll], by simp [PyData.hasDictAll], by simp [PyData.depthAll], by simp [PyData.leavesShortAll], by simp [PyData.bulkAll]⟩
  | x :: xs, h => by
    have t := fl_all xs fun y hy => h y (List.mem_cons_of_mem _ hy)
    have hx := h x (List.mem_cons_self ..)
    have z : PyData.leavesShort 8 (.int 0) = true := by decide +kernel
    match x, hx with
    | .bool b, _ => exact ⟨by simp [PyData.showableAll, PyData.showable, t.sh], by simp [PyData.hasDictAll, PyData.hasDict, t.nd], by simp [PyData.depthAll, PyData.depth, t.de], by simp [PyData.leavesShortAll, PyData.leavesShort, t.ls], by simp [PyData.bulkAll, PyData.bulk, t.bu]; omega⟩
    | .int 0, _ => exact ⟨by simp [PyData.showableAll, t.sh]; decide +kernel, by simp [PyData.hasDictAll, PyData.hasDict, t.nd], by simp [PyData.depthAll, PyData.depth, t.de], by simp [PyData.leavesShortAll, z, t.ls], by simp [PyData.bulkAll, PyData.bulk, t.bu]; omega⟩
def rowD (h : Hs) : PyData := .tuple [.tuple (h.doors.map fun d => .bool d.op), .tuple (h.parts.map fun _ => .bool true), .tuple (h.cells.map fun _ => .int 0), .tuple (h.cells.map fun _ => .int 0), .tuple (h.cells.map fun _ => .int 0)]
theorem rowD_fits {h : Hs} (g : Good h) : (rowD h).showable = true ∧ (rowD h).hasDict = false ∧ (rowD h).depth ≤ 20 ∧ (rowD h).shown.length ≤ sizeLine := by
  have a := fl_all (h.doors.map fun d => .bool d.op) fun x hx => by
    obtain ⟨_, _, rfl⟩ := List.mem_map.mp hx
    rfl
  have b := fl_all (h.parts.map fun _ => .bool true) fun x hx => by
    obtain ⟨_, _, rfl⟩ := List.mem_map.mp hx
    rfl
  have c := fl_all (h.cells.map fun _ => .int 0) fun x hx => by
    obtain ⟨_, _, rfl⟩ := List.mem_map.mp hx
    rfl
  refine ⟨?_, ?_, ?_, ?_⟩
  · simp only [rowD, PyData.showable, PyData.showableAll, a.sh, b.sh, c.sh]
    rfl
  · simp only [rowD, PyData.hasDict, PyData.hasDictAll, a.nd, b.nd, c.nd]
    rfl
  · simp only [rowD, PyData.depth, PyData.depthAll, a.de, b.de, c.de]
    decide
  · have s := PyData.shown_le_bulk 8 (by decide) (rowD h) (by
      simp only [rowD, PyData.leavesShort, PyData.leavesShortAll, a.ls, b.ls, c.ls]
      rfl)
    have e : (rowD h).bulk ≤ 40 := by
      have := g.d5
      have := g.p4
      have := g.c3
      simp only [rowD, PyData.bulk, PyData.bulkAll, a.bu, b.bu, c.bu, List.length_map]
      omega
    have : (1000 : Nat) ≤ sizeLine := by decide
    have : (8 + 2) * (rowD h).bulk ≤ (8 + 2) * 40 := Nat.mul_le_mul_left _ e
    omega
theorem dps_of {K : W.Frag} {H : Hp} {α : Type} (f : α → V) (g : α → PyData) (hd : ∀ a, Dp K H (f a) (g a)) : ∀ xs : List α, DpAll K H (xs.map f) (xs.map g)
  | [] => .nil
  | x :: xs => .cons (hd x) (dps_of f g hd xs)
theorem tup_dp {K : W.Frag} {H : Hp} {v : V} {xs : List V} {ds : List PyData} (t : TupAt H v xs) (h : DpAll K H xs ds) : Dp K H v (.tuple ds) := by
  obtain ⟨a, rfl, e⟩ := t
  exact .tup (SqT.of e) h
theorem rowD_dp {K : W.Frag} {H : Hp} {h : Hs} {t : Addr} (rt : RowT H t (firstRow h)) : Dp K H (.ref t) (rowD h) := by
  obtain ⟨vs, hv, pv⟩ := rt
  have pv' : Paired (TupAt H) vs [(h.doors.map (·.op)).map V.bl, (h.parts.map fun _ => true).map V.bl, (h.cells.map fun _ => (0 : Int)).map V.int, (h.cells.map fun _ => (0 : Int)).map V.int, (h.cells.map fun _ => (0 : Int)).map V.int] := pv
  cases pv' with
  | cons t0 pv =>
  cases pv with
  | cons t1 pv =>
  cases pv with
  | cons t2 pv =>
  cases pv with
  | cons t3 pv =>
  cases pv with
  | cons t4 pv =>
  cases pv
  rw [List.map_map] at t0 t1 t2 t3 t4
  have c0 := dps_of (K := K) (H := H) (V.bl ∘ fun x : Door => x.op) (fun d => .bool d.op) (fun d => .bl _) h.doors
  have c1 := dps_of (K := K) (H := H) (V.bl ∘ fun _ : Str => true) (fun _ => .bool true) (fun d => .bl _) h.parts
  have c2 := dps_of (K := K) (H := H) (V.int ∘ fun _ : Cell => (0 : Int)) (fun _ => .int 0) (fun d => .int _) h.cells
  exact .tup (SqT.of hv) (.cons (tup_dp t0 c0) (.cons (tup_dp t1 c1) (.cons (tup_dp t2 c2) (.cons (tup_dp t3 c2) (.cons (tup_dp t4 c2) .nil)))))

theorem comp_ixL {K K' : W.Frag} {te : TE} {σ : L2.St} {H : Hp} {Q : VK} {td : Addr} {i : Nat} {j : Int} {ws ys : List V} (hte : ∀ R : VK, R (.ref td) H → te σ H R) (htd : H td = some (.lst ws)) (few : ws.length ≤ 50)
    (pw : Paired (fun v y => ∃ t xs, v = V.ref t ∧ H t = some (.tup xs) ∧ atI xs j = some y) ws ys)
    (hw : ∀ v, wipe ((wipe σ [i]).set i (some v)) [i] = wipe σ [i]) (hg : ∀ v : V, ((wipe σ [i]).set i (some v))[i]? = some (some v))
    (k : ∀ H' D, Same H H' → H D = none → H' D = some (.lst ys) → Q (.ref D) H') :
    tLc (iList K te) (gName i) tYes (tOp (rIxT K') (tVar i) (tC (.int j))) [i] σ H Q := by
  refine hte _ ⟨td, rfl, ⟨_, SqL.of htd⟩, fun D nD => ?_⟩
  refine lc_list (xs := ws) (fun n H' => (∀ b o, b ≠ D → H b = some o → H' b = some o) ∧ H' D = some (.lst (ys.take n))) ⟨fun b o ne e => by rw [upd_ne ne]; exact e, upd_same⟩
    (fun n H' _ z => SqL.of (z.1 _ _ (ne_of_none htd nD) htd)) ?_ ?_
  · rintro n x H1 hx ⟨keep, at_D⟩
    obtain ⟨y, hy, t, xs, rfl, et, ej⟩ := paired_get pw hx
    obtain ⟨lt, rfl⟩ := List.getElem?_eq_some_iff.mp hy
    have ly := paired_len pw
    refine ⟨hw _, kept ⟨_, hg _, t, xs, _, _, rfl, rfl, SqT.of (keep _ _ (ne_of_none et nD) et), ej, _, at_D, ?_, fun b o ne e => by rw [upd_ne ne]; exact keep b o ne e, ?_⟩⟩
    · have : (100 : Nat) ≤ sizeLine := by decide
      rw [List.length_take]
      omega
    · rw [upd_same, List.take_succ_eq_append_getElem lt]
  · rintro H1 ⟨keep, at_D⟩
    rw [paired_len pw, List.take_length] at at_D
    exact k H1 D (fun b o e => keep b o (ne_of_none e nD) e) nD at_D
theorem HsAt.but {H H' : Hp} {h : Hs} {a b c p : Addr} (x : HsAt H h a b c) (bt : But p H H') (bx : Box H p) : HsAt H' h a b c := by
  obtain ⟨vd, hd, pd⟩ := x.da
  obtain ⟨vc, hc, pc⟩ := x.ca
  exact ⟨bt _ _ (bx.ne x.pa (strs_box _)) x.pa, ⟨vd, bt _ _ (bx.ne hd (doors_box pd)) hd, paired_mono (fun _ _ r => r.mono fun c ec => bt _ _ (bx.ne ec (fun _ _ _ z => by cases z)) ec) pd⟩,
    ⟨vc, bt _ _ (bx.ne hc (cells_box pc)) hc, paired_mono (fun _ _ r => r.mono fun c ec => bt _ _ (bx.ne ec (fun _ _ _ z => by cases z)) ec) pc⟩⟩
theorem HsAt.same {H H' : Hp} {h : Hs} {a b c : Addr} (x : HsAt H h a b c) (s : Same H H') : HsAt H' h a b c := by
  obtain ⟨vd, hd, pd⟩ := x.da
  obtain ⟨vc, hc, pc⟩ := x.ca
  exact ⟨s _ _ x.pa, ⟨vd, s _ _ hd, paired_mono (fun _ _ r => r.mono fun c ec => s _ _ ec) pd⟩, ⟨vc, s _ _ hc, paired_mono (fun _ _ r => r.mono fun c ec => s _ _ ec) pc⟩⟩
theorem RowT.same {H H' : Hp} {t : Addr} {r : Row} (x : RowT H t r) (s : Same H H') : RowT H' t r := by
  obtain ⟨vs, hv, pv⟩ := x
  exact ⟨vs, s _ _ hv, paired_mono (fun _ _ r => r.mono fun c ec => s _ _ ec) pv⟩
end K03

namespace K03
open PySem PySem.Spec PyProof.Rows L2
open Cal EnuT

/-- a def by its name, called by keywords -/
def CalleeK (P : Program) (w : World) (K : W.Frag) (mg : Str → Option Value) (base : Heap) (x : Str) (k : Nat) (ps ks : List Str) (g : List Value → List Value → List Value) (gV : List V → List V → List V) (sp : Sp) : Prop :=
  ∃ f fd, mg x = some (.ref f) ∧ W.keepIn K (.ref f) = true ∧ KBinds K fd ps ks g gV ∧ FnOk P w K mg base CX0 k f fd ps sp
theorem pe_calleeK {X : Cx} {x : Str} {k : Nat} {ps ks : List Str} {sp : Sp} {p pos : Pos} {kws : List Keyword} {tk : TA} {g : List Value → List Value → List Value} {gV : List V → List V → List V} (c : CalleeK X.prog X.w X.K X.mg X.base x k ps ks g gV sp) (hr : Room k X.A) (hg : Gl X x) (hk : PK X kws tk)
    (hall : (backToKw pos (keywordEach kws X.env)).all (·.1.isSome) = true := by rfl) (hks : (backToKw pos (keywordEach kws X.env)).filterMap (·.1) = ks := by rfl) (hdb : (x == ("__debug__" : Str)) = false := by decide)
    (hpl : ((backTo pos (starEach [] X.env)).any (·.1) || (backToKw pos (keywordEach kws X.env)).any (·.1.isNone)) = false := by rfl) :
    PE X (.Call (.Name x p) [] kws pos) (tCallK sp gV E0 tNil tk) := by
  obtain ⟨f, fd, m, kp, b, F⟩ := c
  exact pe_callK0 F hr hg m kp b pass0 hk hall hks hdb hpl
def g1 : List Value → List Value → List Value := fun us ws => match us, ws with
  | [], [a] => [a]
  | _, _ => []
def gV1 : List V → List V → List V := fun us ws => match us, ws with
  | [], [a] => [a]
  | _, _ => []
def g2 : List Value → List Value → List Value := fun us ws => match us, ws with
  | [], [a, b] => [b, a]
  | _, _ => []
def gV2 : List V → List V → List V := fun us ws => match us, ws with
  | [], [a, b] => [b, a]
  | _, _ => []
theorem seq_asg {te : TE} {g : TG} {T : TS} {D : Ends} {σ : L2.St} {H : Hp} (h : te σ H fun v H1 => g v σ H1 fun σ2 H2 => T D σ2 H2) : tSeq (tAsg te g) T D σ H := h
theorem tup_first {te : TE} {ta : TA} {σ : L2.St} {H : Hp} {Q : VK} (h : te σ H fun x H1 => ta σ H1 fun xs H2 => (x :: xs).length ≤ sizeLine ∧ ∀ p, H2 p = none → Q (.ref p) (upd H2 p (.tup (x :: xs)))) : tTup (tCons te ta) σ H Q := h
structure Defs (P : Program) (w : World) (K : W.Frag) (mg : Str → Option Value) (base : Heap) (C : Addr) : Prop where
  box : Callee P w K mg base "_law_box" 1 ["_law_script", "_law_k"] (spBox K)
  things : Callee P w K mg base "_law_things" 3 ["_law_box_here", "_law_most"] spThings
  drawn : Callee P w K mg base "_law_drawn_row" 2 ["_law_box_here", "_law_parts", "_law_doors", "_law_cells"] spDrawn
  asrow : Callee P w K mg base "_law_as_row" 1 ["_law_lists"] spAsRow
  spoilt : Callee P w K mg base "_law_spoilt" 3 ["_law_box_here", "_law_lists"] spSpoilt
  isrow : Callee P w K mg base "is_row" 3 ["house", "value"] (spIsRow K C)
  isrowK : CalleeK P w K mg base "is_row" 3 ["house", "value"] ["value", "house"] g2 gV2 (spIsRow K C)
  firstK : CalleeK P w K mg base "first_row" 1 ["house"] ["house"] g1 gV1 (spFirst C)
  house : ∃ fI fd, mg "House" = some (.ref C) ∧ Mk K C fI ∧ Binds K fd ["self", "parts", "doors", "cells"] [] ∧ FnOk P w K mg base CX0 4 fI fd ["self", "parts", "doors", "cells"] (spInit C)
  hty : ∀ (H : Hp) (a dx : Addr) (fs : List (Str × V)), H a = some (.ins C dx fs) → TyX K H (.ref a) (.ref C)
  hno : W.kitOne K (.ref C) (.type "tuple") = some false
section
variable {P : Program} {w : World} {K : W.Frag} {mg : Str → Option Value} {base : Heap} {C : Addr}
theorem scL : FnScope ["_law_script", "_law_k", "_law_box_here", "_law_parts", "_law_doors", "_law_cells", "_law_house", "_law_noughts", "_law_first", "_law_turn", "_law_lists", "_law_odd", "_law_door"] ["_law_script"] (defScope sLaw) := ⟨rfl, rfl, rfl, by decide +kernel, rfl, by decide +kernel, by decide +kernel⟩
theorem law_ok {f a : Addr} {fd : FuncData} {s : Shared} {H : Hp} {ns : List Int} (F : Fun K "law" "law" sLaw f fd) (B : Bl mg) (D : Defs P w K mg base C) (e0 : Env0 P w K mg base callerA [] s H) (bind : Binds K fd ["_law_script"] [])
    (sq : SqL K H a (ns.map V.int)) (few : ns.length ≤ 63) :
    codeAny (model P w) callerA (.call (.ref f) ⟨[.ref a], []⟩) (CR CX0 [] P w H s (fun v _ => v = .bl true) E0) s := by
  refine law_run (vs := [V.ref a]) F scL e0 bind (.cons (show RelV (V.ref a) (Value.ref a) from rfl) .nil) rfl fun cdv => ?_
  have hr6 : Room 6 callerA := ⟨rfl, by decide, by decide⟩
  have hr5 : Room 5 (callerA.deeper (envOfC "law" (defScope sLaw) s.heap.objs.size f cdv)) := hr6.deeper _
  have hr3 := hr5.mono (show 3 ≤ 5 by decide)
  have hr2 := hr5.mono (show 2 ≤ 5 by decide)
  have hr1 := hr5.mono (show 1 ≤ 5 by decide)
  have un := hr5.units
  obtain ⟨fI, fdI, mH, mk, bI, FI⟩ := D.house
  refine ⟨_, pss_cons (ps_for PassesOwn.never rfl (pi_range1 rfl B.range (pa_cons (pe_callB (call_max2 rfl) (by rfl) B.max (by decide +kernel) (pa_cons pe_int (pa_cons (pe_callB (call_min2 rfl) (by rfl) B.min (by decide +kernel) (pa_cons pe_int
        (pa_cons (pe_callB call_len_seq (by rfl) B.nums.len PySem.boot_len (pa_cons (pv 0) pa_nil)) pa_nil))) pa_nil))) pa_nil)) (pg_name (i := 1) scL.nd rfl (Or.inl rfl))
      (pss_cons (ps_set (i := 2) scL.nd rfl (Or.inl rfl) (pe_callee D.box hr1 rfl (pa_cons (pv 0) (pa_cons (pv 1) pa_nil))))
      (pss_cons (ps_asg (pe_callee D.things hr3 rfl (pa_cons (pv 2) (pa_cons pe_int pa_nil))) (pg_tup rfl (pgs_cons (pg_name (i := 3) scL.nd rfl (Or.inl rfl)) (pgs_cons (pg_name (i := 4) scL.nd rfl (Or.inl rfl)) (pgs_cons (pg_name (i := 5) scL.nd rfl (Or.inl rfl)) pgs_nil)))))
      (pss_cons (ps_set (i := 6) scL.nd rfl (Or.inl rfl) (pe_make mk FI hr5 rfl mH bI .nil pass0 (pa_cons (pv 3) (pa_cons (pv 4) (pa_cons (pv 5) pa_nil)))))
      (pss_cons (ps_set (i := 7) scL.nd rfl (Or.inl rfl) (pe_op op_repA (pe_tup (pa_cons pe_int pa_nil)) (pe_callB call_len_seq (by rfl) B.nums.len PySem.boot_len (pa_cons (pv 5) pa_nil))))
      (pss_cons (ps_set (i := 8) scL.nd rfl (Or.inl rfl) (pe_tup (pa_cons (pe_callTy call_tuple_of (by rfl) B.tuple (by decide +kernel) (pa_cons (pe_lc (own := [("_law_door", 12)]) (g := gName 12) (tt := tYes) (by rfl) scL.nd (pi_list (pv 4))
          (blkOk_by (own := [("_law_door", 12)]) (N := ["_law_script", "_law_k", "_law_box_here", "_law_parts", "_law_doors", "_law_cells", "_law_house", "_law_noughts", "_law_first", "_law_turn", "_law_lists", "_law_odd", "_law_door"]) (sc := defScope sLaw) (by decide +kernel))
          (fun _ _ _ _ _ => pg_name (i := 12) scL.nd rfl (Or.inl rfl)) (fun _ _ _ _ _ => pts_nil) (fun _ _ _ _ _ => (show PE _ _ (tOp (rIxT K) (tVar 12) (tC (.int 3))) from pe_ix ix_tup (pv 12) pe_int (fun _ _ => rfl)))) pa_nil))
        (pa_cons (pe_op op_repA (pe_tup (pa_cons pe_bl pa_nil)) (pe_callB call_len_seq (by rfl) B.nums.len PySem.boot_len (pa_cons (pv 3) pa_nil))) (pa_cons (pv 7) (pa_cons (pv 7) (pa_cons (pv 7) pa_nil)))))))
      (pss_cons (ps_if (PW.pt (pw_or (pt_cmpR op_ne (pe_callB (call_repr calm_guards un) (by rfl) B.repr (by decide +kernel) (pa_cons (pe_calleeK D.firstK hr1 rfl (pk_cons (pv 6) pk_nil)) pa_nil))
            (pe_callB (call_repr calm_guards un) (by rfl) B.repr (by decide +kernel) (pa_cons (pv 8) pa_nil)) (nomark _))
          (pw_or1 (pt_cmpR op_ne (pe_callB (call_repr calm_guards un) (by rfl) B.repr (by decide +kernel) (pa_cons (pe_calleeK D.isrowK hr3 rfl (pk_cons (pv 8) (pk_cons (pv 6) pk_nil))) pa_nil)) pe_str (nomark _))))) (pss_one ps_never) pss_nil)
      (pss_cons (ps_for PassesOwn.never rfl (pi_range1 rfl B.range (pa_cons pe_int pa_nil)) (pg_name (i := 9) scL.nd rfl (Or.inl rfl))
          (pss_cons (ps_set (i := 10) scL.nd rfl (Or.inl rfl) (pe_callee D.drawn hr2 rfl (pa_cons (pv 2) (pa_cons (pv 3) (pa_cons (pv 4) (pa_cons (pv 5) pa_nil))))))
          (pss_cons (ps_if (pt_cmpR op_ne (pe_callB (call_repr calm_guards un) (by rfl) B.repr (by decide +kernel) (pa_cons (pe_callee D.isrow hr3 rfl (pa_cons (pv 6) (pa_cons (pe_callee D.asrow hr1 rfl (pa_cons (pv 10) pa_nil)) pa_nil))) pa_nil)) pe_str (nomark _)) (pss_one ps_never) pss_nil)
          (pss_cons (ps_set (i := 11) scL.nd rfl (Or.inl rfl) (pe_callee D.spoilt hr3 rfl (pa_cons (pv 2) (pa_cons (pv 10) pa_nil))))
          (pss_one (ps_if (PW.pt (pw_and (pt_cmpR op_notN (pv 11) pe_non (nomark _)) (pw_and1 (pt_cmpR op_ne (pe_callB (call_repr calm_guards un) (by rfl) B.repr (by decide +kernel) (pa_cons (pe_callee D.isrow hr3 rfl (pa_cons (pv 6) (pa_cons (pv 11) pa_nil))) pa_nil)) pe_str (nomark _)))))
            (pss_one ps_never) pss_nil))))))
      (pss_one (ps_if (PW.pt (pw_or (pt_val (pe_callee D.isrow hr3 rfl (pa_cons (pv 6) (pa_cons (pv 6) pa_nil)))) (pw_or (pt_val (pe_callee D.isrow hr3 rfl (pa_cons (pv 6) (pa_cons pe_non pa_nil)))) (pw_or1 (pt_val (pe_callee D.isrow hr3 rfl (pa_cons (pv 6) (pa_cons pe_str pa_nil))))))))
        (pss_one ps_never) pss_nil)))))))))) (pss_one (ps_ret pe_bl)), ?_⟩
  have len : (((ns.map V.int).length : Nat) : Int) = ns.length := by rw [List.length_map]
  have line : (1000 : Nat) ≤ sizeLine := by decide
  -- repr of True and False
  have rp : ∀ (b : Bool) (x : V) (H' : Hp) (Q : VK), x = .bl b → Q (.str (PyData.bool b).shown) H' → rRepr K [x] H' Q := fun b x H' Q e q => by
    subst e
    exact ⟨_, .bool b, rfl, .bl b, rfl, rfl, by cases b <;> decide +kernel, by cases b <;> decide +kernel, q⟩
  refine ⟨_, rfl, a, _, rfl, .inl sq, _, _, rfl, _, _, rfl, _, rfl, ?_, ?_, for_range (fun i σ H' => ∃ v1 v2 v3 v4 v5 v6 v7 v8 v9 v10 v11 v12 : Option V, σ = [some (.ref a), v1, v2, v3, v4, v5, v6, v7, v8, v9, v10, v11, v12] ∧ Same H H')
    ⟨none, none, none, none, none, none, none, none, none, none, none, none, rfl, Same.refl _⟩ ?_ ?_⟩
  · rw [len]
    split <;> split <;> omega
  · rw [len]
    split <;> split <;> omega
  · rintro i σ H1 hi ⟨v1, v2, v3, v4, v5, v6, v7, v8, v9, v10, v11, v12, rfl, s1⟩
    have hi2 : i ≤ 2 ∧ (i < ns.length ∨ ns = []) := by
      rw [len] at hi
      cases ns with
      | nil => exact ⟨by simp at hi; omega, .inr rfl⟩
      | cons n r =>
        simp only [List.length_cons] at hi ⊢
        refine ⟨?_, .inl ?_⟩
        · split at hi <;> split at hi <;> omega
        · split at hi <;> split at hi <;> omega
    refine ⟨_, rfl, _, rfl, a, ns, i, by rw [Int.zero_add]; rfl, s1.seq sq, few, hi2.1, hi2.2, fun H2 p s2 np x2 => ?_⟩
    have np0 : H p = none := s1.free np
    refine ⟨_, rfl, p, rfl, x2, fun h H3 t a' b' c' good but3 x3 nt et at_h3 => ?_⟩
    have sm3 : Same H H3 := But.same but3 (s1.trans s2) np0
    refine ⟨t, _, rfl, SqT.of et, rfl, _, _, rfl, _, _, rfl, _, _, rfl, ⟨rfl, _, rfl, _, rfl, _, rfl, fun ho dx nho ndx ndo => ?_⟩⟩
    have s4 : Same H3 (upd (upd H3 dx (.own ho)) ho (.ins C dx [])) := fun b o e => by
      rw [upd_ne (ne_of_none e nho), upd_ne (ne_of_none e ndx)]
      exact e
    refine ⟨ho, a', b', c', dx, h, rfl, upd_same, good, at_h3.same s4, fun H4 but4 hi4 => ⟨rfl, ?_⟩⟩
    have s34 : Same H3 H4 := fun b o e => but4 _ _ (ne_of_none e nho) (s4 _ _ e)
    have sm4 := sm3.trans s34
    have x4 := x3.same s34
    have at_h4 := at_h3.same s34
    obtain ⟨vc, hvc, pc⟩ := at_h4.ca
    obtain ⟨vd, hvd, pd⟩ := at_h4.da
    have lc := paired_len pc
    have ld := paired_len pd
    have d5 := good.d5
    have c3 := good.c3
    have p4 := good.p4
    refine ⟨by show 1 ≤ sizeLine; decide, fun t0 nt0 => ?_⟩
    have s5 := same_upd (o := .tup [.int 0]) nt0
    refine ⟨_, rfl, c', _, rfl, .inl (SqL.of (s5 _ _ hvc)), t0, _, _, rfl, rfl, upd_same, by simp, by omega, by omega, by decide, fun vn H5 s6 tv => ?_⟩
    have s46 := s5.trans s6
    have hvd5 := s46 _ _ hvd
    show Ends.nx _ _ H5
    dsimp only
    refine seq_asg (tup_first (cb_one ?_))
    refine comp_ixL (td := b') (i := 12) (j := 3) (ys := h.doors.map fun d => V.bl d.op) (fun R r => ⟨_, rfl, r⟩) hvd5 (by omega) (paired_map _ (paired_mono (fun v d x => ?_) pd)) (by intro; rfl) (by intro; rfl) fun H6 D6 s7 nD6 e6 => ⟨D6, _, rfl, .inl ⟨SqL.of e6, fun u nu => ?_⟩⟩
    · obtain ⟨t, rfl, ec⟩ := x
      exact ⟨t, _, rfl, s46 _ _ ec, rfl⟩
    have s8 := same_upd (o := .tup (h.doors.map fun d => V.bl d.op)) nu
    have s48 := (s46.trans s7).trans s8
    refine ⟨by show 1 ≤ sizeLine; decide, fun t2 nt2 => ?_⟩
    have s9 := same_upd (o := .tup [.bl true]) nt2
    have s49 := s48.trans s9
    refine ⟨_, rfl, a', _, rfl, .inl (SqL.of (s49 _ _ at_h4.pa)), t2, _, _, rfl, rfl, upd_same, by simp, by omega, by rw [List.length_map]; omega, by decide, fun v2' H8 s10 tv2 => ?_⟩
    have s410 := s49.trans s10
    refine ⟨_, rfl, _, rfl, _, rfl, by show 5 ≤ sizeLine; decide, fun z nz => ?_⟩
    have s11 := same_upd (o := .tup [.ref u, v2', vn, vn, vn]) nz
    have s411 := s410.trans s11
    have row : RowT (upd H8 z (.tup [.ref u, v2', vn, vn, vn])) z (firstRow h) := by
      have at_u : TupAt (upd H8 z (.tup [.ref u, v2', vn, vn, vn])) (.ref u) ((firstRow h).d.map V.bl) := ⟨u, rfl, s11 _ _ (s10 _ _ (s9 _ _ (by rw [upd_same]; simp [firstRow])))⟩
      have at_v2 : TupAt (upd H8 z (.tup [.ref u, v2', vn, vn, vn])) v2' ((firstRow h).p.map V.bl) := by
        obtain ⟨c, rfl, ec⟩ := tv2
        refine ⟨c, rfl, s11 _ _ ?_⟩
        rw [ec, rep_flat, Int.toNat_natCast, List.length_map, rep_map]
        simp [firstRow]
      have at_v : TupAt (upd H8 z (.tup [.ref u, v2', vn, vn, vn])) vn ((h.cells.map fun _ => (0 : Int)).map V.int) := by
        obtain ⟨c, rfl, ec⟩ := tv
        refine ⟨c, rfl, s11 _ _ (s10 _ _ (s9 _ _ (s8 _ _ (s7 _ _ ?_))))⟩
        rw [ec, rep_flat, Int.toNat_natCast, lc, rep_map, List.map_map]
        rfl
      exact ⟨_, upd_same, .cons at_u (.cons at_v2 (.cons at_v (.cons at_v (.cons at_v .nil))))⟩
    have smz : Same H (upd H8 z (.tup [.ref u, v2', vn, vn, vn])) := sm4.trans s411
    have xz := x4.same s411
    have at_hz := at_h4.same s411
    have hiz := hi4.same s411
    revert row smz xz at_hz hiz
    generalize upd H8 z (.tup [.ref u, v2', vn, vn, vn]) = G
    intro row smz xz at_hz hiz
    obtain ⟨f1, f2, f3, f4⟩ := rowD_fits good
    refine ⟨_, rfl, ho, h, rfl, hiz, good, fun H9 t9 s12 rt9 => ?_⟩
    have dp9 := rowD_dp (K := K) rt9
    have dp8 := rowD_dp (K := K) (row.same s12)
    generalize rowD h = d at dp9 dp8 f1 f2 f3 f4
    refine ⟨_, d, rfl, dp9, f1, f2, f3, f4, _, rfl, _, d, rfl, dp8, f1, f2, f3, f4, rfl, _, rfl, ?_⟩
    refine iteNS rfl ?_
    have row9 := row.same s12
    obtain ⟨ir, ok3⟩ := row9.isRow (first_good h)
    obtain ⟨vsz, ez, _⟩ := row9
    obtain ⟨tyz, htz, ktz, _, _⟩ := (OkV.tup ez).ty (K := K)
    refine ⟨_, rfl, _, rfl, ho, .ref z, h, tyz, rfl, hiz.same s12, good, htz, ktz, ok3, fun H10 s13 => ?_⟩
    rw [ir]
    refine ⟨_, .bool true, rfl, .bl true, rfl, rfl, by decide +kernel, by decide +kernel, rfl, _, rfl, iteNS rfl ?_⟩
    have sg := s12.trans s13
    have smg := smz.trans sg
    have xg := xz.same sg
    have at_hg := at_hz.same sg
    have hig := hiz.same sg
    clear s12 s13 sg ir ok3 ez htz ktz dp9 dp8 f1 f2 f3 f4 row rt9
    refine ⟨_, rfl, by decide, by decide, for_range (n := 8) (fun j σ H' => ∃ v9 v10 v11 : Option V, σ = [some (.ref a), some (.int (0 + (i : Nat))), some (.ref p), some (.ref a'), some (.ref b'), some (.ref c'), some (.ref ho), some vn, some (.ref z), v9, v10, v11, v12] ∧ Same H H' ∧ Box H' p ∧ HsAt H' h a' b' c' ∧ HouseIns H' C ho h)
      ⟨_, _, _, rfl, smg, xg, at_hg, hig⟩ ?_ ?_⟩
    · rintro j σ G1 hj ⟨v9, v10, v11, rfl, m1, x1, a1, h1⟩
      refine ⟨_, rfl, _, rfl, _, rfl, _, rfl, h, p, a', b', c', rfl, x1, good, a1, fun r G2 l gr but2 x2 nl rl => ?_⟩
      have m2 := But.same but2 m1 np0
      have a2 := a1.but but2 x1
      have h2 := h1.but but2 x1
      refine ⟨_, rfl, _, rfl, p, l, r, rfl, rl, fun G3 t3 s3 rt3 => ?_⟩
      obtain ⟨ir3, ok3⟩ := rt3.isRow gr
      obtain ⟨vs3, e3, _⟩ := rt3
      obtain ⟨ty3, ht3, kt3, _, _⟩ := (OkV.tup e3).ty (K := K)
      refine ⟨ho, .ref t3, h, ty3, rfl, h2.same s3, good, ht3, kt3, ok3, fun G4 s4 => ?_⟩
      rw [ir3]
      refine ⟨_, .bool true, rfl, .bl true, rfl, rfl, by decide +kernel, by decide +kernel, rfl, _, rfl, iteNS rfl ?_⟩
      have s34 := s3.trans s4
      have m4 := m2.trans s34
      have a4 := a2.same s34
      have h4 := h2.same s34
      have x4 := x2.same s34
      refine ⟨_, rfl, _, rfl, h, p, l, r, rfl, x4, rl.but (But.of_same s34), good, gr, fun G5 v but5 x5 hv => ?_⟩
      have m5 := But.same but5 m4 np0
      have a5 := a4.but but5 x4
      have h5 := h4.but but5 x4
      refine ⟨_, rfl, rfl, _, rfl, ?_⟩
      by_cases ev : v = .non
      · subst ev
        refine iteF ?_
        exact ⟨_, _, _, rfl, m5, x5, a5, h5⟩
      · rw [decide_eq_false ev]
        have nr : NoRow G5 h v := hv.resolve_left ev
        obtain ⟨ty5, ht5, kt5, _, _⟩ := nr.1.ty (K := K)
        refine iteT ⟨_, rfl, _, rfl, ho, v, h, ty5, rfl, h5, good, ht5, kt5, nr.2.1, fun G6 s6 => ?_⟩
        rw [nr.2.2]
        refine ⟨_, .bool false, rfl, .bl false, rfl, rfl, by decide +kernel, by decide +kernel, rfl, _, rfl, iteNS rfl ?_⟩
        exact ⟨_, _, _, rfl, m5.trans s6, x5.same s6, a5.same s6, h5.same s6⟩
    · rintro σ G1 ⟨v9, v10, v11, rfl, m1, x1, a1, h1⟩
      obtain ⟨dx', fs', tp', td', tc', vd', vc', eh, _⟩ := h1.ex
      have no : tupOf G1 (.ref ho) = none := by
        simp only [tupOf, eh]
      have nr : isRowB G1 h (.ref ho) = false := by
        unfold isRowB
        rw [no]
      refine ⟨_, rfl, _, rfl, ho, .ref ho, h, .ref C, rfl, h1, good, D.hty _ _ _ _ eh, by rw [no]; exact D.hno, (fun xs e => by
        rw [no] at e
        exact nomatch e), fun G2 s2 => ?_⟩
      rw [nr]
      refine ⟨_, rfl, iteF ?_⟩
      obtain ⟨tyn, htn, ktn, _, _⟩ := (OkV.non (H := G2)).ty (K := K)
      refine ⟨_, rfl, ho, .non, h, tyn, rfl, h1.same s2, good, htn, ktn, fun xs e => (nomatch e), fun G3 s3 => ⟨_, rfl, iteF ?_⟩⟩
      obtain ⟨tys, hts, kts, _, _⟩ := (OkV.str (H := G3) "row").ty (K := K)
      refine ⟨_, rfl, ho, .str "row", h, tys, rfl, (h1.same s2).same s3, good, hts, kts, fun xs e => (nomatch e), fun G4 s4 => ⟨_, rfl, iteF ?_⟩⟩
      exact ⟨_, _, _, _, _, _, _, _, _, _, _, _, rfl, ((m1.trans s2).trans s3).trans s4⟩
  · rintro σ H1 ⟨v1, v2, v3, v4, v5, v6, v7, v8, v9, v10, v11, v12, rfl, s1⟩
    rfl
end
end K03

namespace K03
open PySem PySem.Spec PyProof.Rows L2
open Cal EnuT

/-- what the written part must say of House, at once -/
def houseB (K : W.Frag) (C fI fM : Addr) : Bool :=
  W.plainGet K C Str.empty && W.hasDictIn K C && W.plainOver K C && decide (W.findIn K (.ref C) "__setattr__" = some (some (.builtin "object.__setattr__"))) &&
  decide (W.findIn K (.ref C) "parts" = some none) && decide (W.findIn K (.ref C) "doors" = some none) && decide (W.findIn K (.ref C) "cells" = some none) && decide (W.findIn K (.ref C) "_part_numbers" = some none) &&
  decide (W.findIn K (.ref C) "_door_numbers" = some none) && decide (W.findIn K (.ref C) "_cell_numbers" = some none) && decide (W.findIn K (.ref C) "ends" = some none) && decide (W.findIn K (.ref C) "cell_parts" = some none) &&
  decide (W.findIn K (.ref C) "kept" = some none) && W.makesIn K C && W.isFn K (.ref fI) && W.keepIn K (.ref C) && W.isFn K (.ref fM) && W.keepIn K (.ref fM) &&
  decide (W.findIn K (.ref C) "__class__" = some (some (.builtin "object.__class__"))) && decide (W.specialIn K (.builtin "object.__class__") "__get__" = some (some (.builtin "getset_descriptor.__get__"))) &&
  decide (W.takesIn K (.builtin "object.__class__") = some true) && decide (W.mroIn K C (.type "object") = some true) && decide (W.kitOne K (.ref C) (.type "tuple") = some false)
structure HouseF (K : W.Frag) (C fI fM : Addr) : Prop where
  h2 : HC2 K C
  mka : W.makesIn K C = true ∧ W.isFn K (.ref fI) = true ∧ W.keepIn K (.ref C) = true
  me : W.isFn K (.ref fM) = true ∧ W.keepIn K (.ref fM) = true
  ty : ∀ (H : Hp) (a dx : Addr) (fs : List (Str × V)), H a = some (.ins C dx fs) → TyX K H (.ref a) (.ref C)
  no : W.kitOne K (.ref C) (.type "tuple") = some false
theorem house_of {K : W.Frag} {C fI fM : Addr} (h : houseB K C fI fM = true) : HouseF K C fI fM := by
  unfold houseB at h
  simp only [Bool.and_eq_true, decide_eq_true_eq] at h
  obtain ⟨⟨⟨⟨⟨⟨⟨⟨⟨⟨⟨⟨⟨⟨⟨⟨⟨⟨⟨⟨⟨⟨h1, h2⟩, h3⟩, h4⟩, h5⟩, h6⟩, h7⟩, h8⟩, h9⟩, h10⟩, h11⟩, h12⟩, h13⟩, h14⟩, h15⟩, h16⟩, h17⟩, h18⟩, h19⟩, h20⟩, h21⟩, h22⟩, h23⟩ := h
  have cl : Cls K C := ⟨h1, h2, h3, h4⟩
  exact ⟨⟨cl, h5, h6, h7, h8, h9, h10, h11, h12, h13⟩, ⟨h14, h15, h16⟩, ⟨h17, h18⟩, fun H a dx fs e => .base (.ins e cl h19 h20 h21 h22), h23⟩
section
variable {P : Program} {w : World} {K : W.Frag} {h : Heap} {mg : Str → Option Value} {base : Heap}
theorem callee_mk {x : Str} {f : Addr} {ps : List Str} {sp : Sp} {k : Nat} {st : Stmt} {oc kV doc pm cdv ct : Value} {od an : Option Addr} {sl : Array (Option Value)} (X : K.In h) (G : h.Ns mainGlobals mg)
    (a : W.nsIn K mainGlobals x = some (some (.ref f))) (l : K.lookup f = some ⟨oc, od, .func (W.fnOf x x (defArgs st) (defBody st) (defScope st) .none kV doc pm an cdv ct), sl⟩) (c : W.codeIn K cdv x = true) (kp : W.keepIn K (.ref f) = true)
    (b : ∀ (kV doc pm : Value) (an : Option Addr) (cdv ct : Value) (us : List Value), us.length = ps.length → bindArgs (W.fnOf x x (defArgs st) (defBody st) (defScope st) .none kV doc pm an cdv ct) ⟨us, []⟩ = pure (ps.zip us))
    (ok : ∀ fd, Fun K x x st f fd → FnOk P w K mg base CX0 k f fd ps sp) : Callee P w K mg base x k ps sp := by
  have F := fun_mk (st := st) l c kp
  exact ⟨f, _, W.mg_of X G a, kp, F.binds b, ok _ F⟩
theorem calleeK_mk {x : Str} {f : Addr} {ps ks : List Str} {g : List Value → List Value → List Value} {gV : List V → List V → List V} {sp : Sp} {k : Nat} {st : Stmt} {oc kV doc pm cdv ct : Value} {od an : Option Addr} {sl : Array (Option Value)} (X : K.In h) (G : h.Ns mainGlobals mg)
    (a : W.nsIn K mainGlobals x = some (some (.ref f))) (l : K.lookup f = some ⟨oc, od, .func (W.fnOf x x (defArgs st) (defBody st) (defScope st) .none kV doc pm an cdv ct), sl⟩) (c : W.codeIn K cdv x = true) (kp : W.keepIn K (.ref f) = true)
    (b : ∀ (kV doc pm : Value) (an : Option Addr) (cdv ct : Value) (us ws : List Value), (g us ws).length = ps.length → bindArgs (W.fnOf x x (defArgs st) (defBody st) (defScope st) .none kV doc pm an cdv ct) ⟨us, ks.zip ws⟩ = pure (ps.zip (g us ws)))
    (rel : ∀ {vs : List V} {us : List Value} {zs : List V} {ws : List Value}, Vals vs us → Vals zs ws → Vals (gV vs zs) (g us ws))
    (ok : ∀ fd, Fun K x x st f fd → FnOk P w K mg base CX0 k f fd ps sp) : CalleeK P w K mg base x k ps ks g gV sp := by
  have F := fun_mk (st := st) l c kp
  exact ⟨f, _, W.mg_of X G a, kp, ⟨fun s us ws _ hl => .of_eq (b _ _ _ _ _ _ us ws hl), rel⟩, ok _ F⟩
end
theorem rel1 {vs : List V} {us : List Value} {zs : List V} {ws : List Value} (a : Vals vs us) (b : Vals zs ws) : Vals (gV1 vs zs) (g1 us ws) := by
  cases a with
  | nil =>
    cases b with
    | nil => exact .nil
    | cons r t =>
      cases t with
      | nil => exact .cons r .nil
      | cons _ _ => exact .nil
  | cons _ _ => exact .nil
theorem rel2 {vs : List V} {us : List Value} {zs : List V} {ws : List Value} (a : Vals vs us) (b : Vals zs ws) : Vals (gV2 vs zs) (g2 us ws) := by
  cases a with
  | nil =>
    cases b with
    | nil => exact .nil
    | cons r t =>
      cases t with
      | nil => exact .nil
      | cons r2 t =>
        cases t with
        | nil => exact .cons r2 (.cons r .nil)
        | cons _ _ => exact .nil
  | cons _ _ => exact .nil
theorem b1 (kV doc pm : Value) (an : Option Addr) (cdv ct : Value) (us ws : List Value) (hl : (g1 us ws).length = (["house"] : List Str).length) : bindArgs (W.fnOf "first_row" "first_row" (defArgs sFirst) (defBody sFirst) (defScope sFirst) .none kV doc pm an cdv ct) ⟨us, (["house"] : List Str).zip ws⟩ = pure ((["house"] : List Str).zip (g1 us ws)) := by
  match us, ws, hl with
  | [], [a], _ => rfl
theorem b2 (kV doc pm : Value) (an : Option Addr) (cdv ct : Value) (us ws : List Value) (hl : (g2 us ws).length = (["house", "value"] : List Str).length) : bindArgs (W.fnOf "is_row" "is_row" (defArgs sIsRow) (defBody sIsRow) (defScope sIsRow) .none kV doc pm an cdv ct) ⟨us, (["value", "house"] : List Str).zip ws⟩ = pure ((["house", "value"] : List Str).zip (g2 us ws)) := by
  match us, ws, hl with
  | [], [a, b], _ => rfl

theorem all_mk {P : Program} {w : World} {K : W.Frag} {h : Heap} {mg : Str → Option Value} {fa : Addr} {C fI fM : Addr} {tP tD tC : Tok} {o_I v_I d_I p_I c_I t_I : Value} {x_I n_I : Option Addr} {y_I : Array (Option Value)} {o_M v_M d_M p_M c_M t_M : Value} {x_M n_M : Option Addr} {y_M : Array (Option Value)} {f_isint : Addr} {o_isint v_isint d_isint p_isint c_isint t_isint : Value} {x_isint n_isint : Option Addr} {s_isint : Array (Option Value)} {f_isseq : Addr} {o_isseq v_isseq d_isseq p_isseq c_isseq t_isseq : Value} {x_isseq n_isseq : Option Addr} {s_isseq : Array (Option Value)} {f_isname : Addr} {o_isname v_isname d_isname p_isname c_isname t_isname : Value} {x_isname n_isname : Option Addr} {s_isname : Array (Option Value)} {f_chp : Addr} {o_chp v_chp d_chp p_chp c_chp t_chp : Value} {x_chp n_chp : Option Addr} {s_chp : Array (Option Value)} {f_isdoor : Addr} {o_isdoor v_isdoor d_isdoor p_isdoor c_isdoor t_isdoor : Value} {x_isdoor n_isdoor : Option Addr} {s_isdoor : Array (Option Value)} {f_iscell : Addr} {o_iscell v_iscell d_iscell p_iscell c_iscell t_iscell : Value} {x_iscell n_iscell : Option Addr} {s_iscell : Array (Option Value)} {f_cht : Addr} {o_cht v_cht d_cht p_cht c_cht t_cht : Value} {x_cht n_cht : Option Addr} {s_cht : Array (Option Value)} {f_nums : Addr} {o_nums v_nums d_nums p_nums c_nums t_nums : Value} {x_nums n_nums : Option Addr} {s_nums : Array (Option Value)} {f_numof : Addr} {o_numof v_numof d_numof p_numof c_numof t_numof : Value} {x_numof n_numof : Option Addr} {s_numof : Array (Option Value)} {f_first : Addr} {o_first v_first d_first p_first c_first t_first : Value} {x_first n_first : Option Addr} {s_first : Array (Option Value)} {f_bools : Addr} {o_bools v_bools d_bools p_bools c_bools t_bools : Value} {x_bools n_bools : Option Addr} {s_bools : Array (Option Value)} {f_values : Addr} {o_values v_values d_values p_values c_values t_values : Value} {x_values n_values : Option Addr} {s_values : Array (Option Value)} {f_isrow : Addr} {o_isrow v_isrow d_isrow p_isrow c_isrow t_isrow : Value} {x_isrow n_isrow : Option Addr} {s_isrow : Array (Option Value)} {f_box : Addr} {o_box v_box d_box p_box c_box t_box : Value} {x_box n_box : Option Addr} {s_box : Array (Option Value)} {f_take : Addr} {o_take v_take d_take p_take c_take t_take : Value} {x_take n_take : Option Addr} {s_take : Array (Option Value)} {f_pick : Addr} {o_pick v_pick d_pick p_pick c_pick t_pick : Value} {x_pick n_pick : Option Addr} {s_pick : Array (Option Value)} {f_mixed : Addr} {o_mixed v_mixed d_mixed p_mixed c_mixed t_mixed : Value} {x_mixed n_mixed : Option Addr} {s_mixed : Array (Option Value)} {f_things : Addr} {o_things v_things d_things p_things c_things t_things : Value} {x_things n_things : Option Addr} {s_things : Array (Option Value)} {f_drawn : Addr} {o_drawn v_drawn d_drawn p_drawn c_drawn t_drawn : Value} {x_drawn n_drawn : Option Addr} {s_drawn : Array (Option Value)} {f_asrow : Addr} {o_asrow v_asrow d_asrow p_asrow c_asrow t_asrow : Value} {x_asrow n_asrow : Option Addr} {s_asrow : Array (Option Value)} {f_spoilt : Addr} {o_spoilt v_spoilt d_spoilt p_spoilt c_spoilt t_spoilt : Value} {x_spoilt n_spoilt : Option Addr} {s_spoilt : Array (Option Value)} {f_law : Addr} {o_law v_law d_law p_law c_law t_law : Value} {x_law n_law : Option Addr} {s_law : Array (Option Value)}
    (X : K.In h) (G : h.Ns mainGlobals mg) (hfa : mg "law" = some (.ref fa))
    (eC : W.nsIn K mainGlobals "House" = some (some (.ref C))) (nI : W.findIn K (.ref C) "__init__" = some (some (.ref fI))) (nM : W.findIn K (.ref C) "number_of_part" = some (some (.ref fM)))
    (l_I : K.lookup fI = some ⟨o_I, x_I, .func (W.fnOf "__init__" "House.__init__" (defArgs sInit) (defBody sInit) (defScope sInit) .none v_I d_I p_I n_I c_I t_I), y_I⟩) (g_I : W.codeIn K c_I "House.__init__" = true) (k_I : W.keepIn K (.ref fI) = true)
    (l_M : K.lookup fM = some ⟨o_M, x_M, .func (W.fnOf "number_of_part" "House.number_of_part" (defArgs sNumPart) (defBody sNumPart) (defScope sNumPart) .none v_M d_M p_M n_M c_M t_M), y_M⟩) (g_M : W.codeIn K c_M "House.number_of_part" = true) (k_M : W.keepIn K (.ref fM) = true)
    (hB : houseB K C fI fM = true)
    (mP : W.nsIn K mainGlobals "MOST_PARTS" = some (some (.int 8 tP)))
    (mD : W.nsIn K mainGlobals "MOST_DOORS" = some (some (.int 12 tD)))
    (mC : W.nsIn K mainGlobals "MOST_CELLS" = some (some (.int 8 tC)))
    (e_isint : W.nsIn K mainGlobals "is_integer" = some (some (.ref f_isint))) (l_isint : K.lookup f_isint = some ⟨o_isint, x_isint, .func (W.fnOf "is_integer" "is_integer" (defArgs sIsInt) (defBody sIsInt) (defScope sIsInt) .none v_isint d_isint p_isint n_isint c_isint t_isint), s_isint⟩) (g_isint : W.codeIn K c_isint "is_integer" = true) (k_isint : W.keepIn K (.ref f_isint) = true)
    (e_isseq : W.nsIn K mainGlobals "is_sequence" = some (some (.ref f_isseq))) (l_isseq : K.lookup f_isseq = some ⟨o_isseq, x_isseq, .func (W.fnOf "is_sequence" "is_sequence" (defArgs sIsSeq) (defBody sIsSeq) (defScope sIsSeq) .none v_isseq d_isseq p_isseq n_isseq c_isseq t_isseq), s_isseq⟩) (g_isseq : W.codeIn K c_isseq "is_sequence" = true) (k_isseq : W.keepIn K (.ref f_isseq) = true)
    (e_isname : W.nsIn K mainGlobals "is_name" = some (some (.ref f_isname))) (l_isname : K.lookup f_isname = some ⟨o_isname, x_isname, .func (W.fnOf "is_name" "is_name" (defArgs sIsName) (defBody sIsName) (defScope sIsName) .none v_isname d_isname p_isname n_isname c_isname t_isname), s_isname⟩) (g_isname : W.codeIn K c_isname "is_name" = true) (k_isname : W.keepIn K (.ref f_isname) = true)
    (e_chp : W.nsIn K mainGlobals "_checked_parts" = some (some (.ref f_chp))) (l_chp : K.lookup f_chp = some ⟨o_chp, x_chp, .func (W.fnOf "_checked_parts" "_checked_parts" (defArgs sChParts) (defBody sChParts) (defScope sChParts) .none v_chp d_chp p_chp n_chp c_chp t_chp), s_chp⟩) (g_chp : W.codeIn K c_chp "_checked_parts" = true) (k_chp : W.keepIn K (.ref f_chp) = true)
    (e_isdoor : W.nsIn K mainGlobals "_is_door" = some (some (.ref f_isdoor))) (l_isdoor : K.lookup f_isdoor = some ⟨o_isdoor, x_isdoor, .func (W.fnOf "_is_door" "_is_door" (defArgs sIsDoor) (defBody sIsDoor) (defScope sIsDoor) .none v_isdoor d_isdoor p_isdoor n_isdoor c_isdoor t_isdoor), s_isdoor⟩) (g_isdoor : W.codeIn K c_isdoor "_is_door" = true) (k_isdoor : W.keepIn K (.ref f_isdoor) = true)
    (e_iscell : W.nsIn K mainGlobals "_is_cell" = some (some (.ref f_iscell))) (l_iscell : K.lookup f_iscell = some ⟨o_iscell, x_iscell, .func (W.fnOf "_is_cell" "_is_cell" (defArgs sIsCell) (defBody sIsCell) (defScope sIsCell) .none v_iscell d_iscell p_iscell n_iscell c_iscell t_iscell), s_iscell⟩) (g_iscell : W.codeIn K c_iscell "_is_cell" = true) (k_iscell : W.keepIn K (.ref f_iscell) = true)
    (e_cht : W.nsIn K mainGlobals "_checked_things" = some (some (.ref f_cht))) (l_cht : K.lookup f_cht = some ⟨o_cht, x_cht, .func (W.fnOf "_checked_things" "_checked_things" (defArgs sChThings) (defBody sChThings) (defScope sChThings) .none v_cht d_cht p_cht n_cht c_cht t_cht), s_cht⟩) (g_cht : W.codeIn K c_cht "_checked_things" = true) (k_cht : W.keepIn K (.ref f_cht) = true)
    (e_nums : W.nsIn K mainGlobals "_numbers" = some (some (.ref f_nums))) (l_nums : K.lookup f_nums = some ⟨o_nums, x_nums, .func (W.fnOf "_numbers" "_numbers" (defArgs sNumbers) (defBody sNumbers) (defScope sNumbers) .none v_nums d_nums p_nums n_nums c_nums t_nums), s_nums⟩) (g_nums : W.codeIn K c_nums "_numbers" = true) (k_nums : W.keepIn K (.ref f_nums) = true)
    (e_numof : W.nsIn K mainGlobals "_number_of" = some (some (.ref f_numof))) (l_numof : K.lookup f_numof = some ⟨o_numof, x_numof, .func (W.fnOf "_number_of" "_number_of" (defArgs sNumOf) (defBody sNumOf) (defScope sNumOf) .none v_numof d_numof p_numof n_numof c_numof t_numof), s_numof⟩) (g_numof : W.codeIn K c_numof "_number_of" = true) (k_numof : W.keepIn K (.ref f_numof) = true)
    (e_first : W.nsIn K mainGlobals "first_row" = some (some (.ref f_first))) (l_first : K.lookup f_first = some ⟨o_first, x_first, .func (W.fnOf "first_row" "first_row" (defArgs sFirst) (defBody sFirst) (defScope sFirst) .none v_first d_first p_first n_first c_first t_first), s_first⟩) (g_first : W.codeIn K c_first "first_row" = true) (k_first : W.keepIn K (.ref f_first) = true)
    (e_bools : W.nsIn K mainGlobals "_are_bools" = some (some (.ref f_bools))) (l_bools : K.lookup f_bools = some ⟨o_bools, x_bools, .func (W.fnOf "_are_bools" "_are_bools" (defArgs sBools) (defBody sBools) (defScope sBools) .none v_bools d_bools p_bools n_bools c_bools t_bools), s_bools⟩) (g_bools : W.codeIn K c_bools "_are_bools" = true) (k_bools : W.keepIn K (.ref f_bools) = true)
    (e_values : W.nsIn K mainGlobals "_are_values" = some (some (.ref f_values))) (l_values : K.lookup f_values = some ⟨o_values, x_values, .func (W.fnOf "_are_values" "_are_values" (defArgs sValues) (defBody sValues) (defScope sValues) .none v_values d_values p_values n_values c_values t_values), s_values⟩) (g_values : W.codeIn K c_values "_are_values" = true) (k_values : W.keepIn K (.ref f_values) = true)
    (e_isrow : W.nsIn K mainGlobals "is_row" = some (some (.ref f_isrow))) (l_isrow : K.lookup f_isrow = some ⟨o_isrow, x_isrow, .func (W.fnOf "is_row" "is_row" (defArgs sIsRow) (defBody sIsRow) (defScope sIsRow) .none v_isrow d_isrow p_isrow n_isrow c_isrow t_isrow), s_isrow⟩) (g_isrow : W.codeIn K c_isrow "is_row" = true) (k_isrow : W.keepIn K (.ref f_isrow) = true)
    (e_box : W.nsIn K mainGlobals "_law_box" = some (some (.ref f_box))) (l_box : K.lookup f_box = some ⟨o_box, x_box, .func (W.fnOf "_law_box" "_law_box" (defArgs sBox) (defBody sBox) (defScope sBox) .none v_box d_box p_box n_box c_box t_box), s_box⟩) (g_box : W.codeIn K c_box "_law_box" = true) (k_box : W.keepIn K (.ref f_box) = true)
    (e_take : W.nsIn K mainGlobals "_law_take" = some (some (.ref f_take))) (l_take : K.lookup f_take = some ⟨o_take, x_take, .func (W.fnOf "_law_take" "_law_take" (defArgs sTake) (defBody sTake) (defScope sTake) .none v_take d_take p_take n_take c_take t_take), s_take⟩) (g_take : W.codeIn K c_take "_law_take" = true) (k_take : W.keepIn K (.ref f_take) = true)
    (e_pick : W.nsIn K mainGlobals "_law_pick" = some (some (.ref f_pick))) (l_pick : K.lookup f_pick = some ⟨o_pick, x_pick, .func (W.fnOf "_law_pick" "_law_pick" (defArgs sPick) (defBody sPick) (defScope sPick) .none v_pick d_pick p_pick n_pick c_pick t_pick), s_pick⟩) (g_pick : W.codeIn K c_pick "_law_pick" = true) (k_pick : W.keepIn K (.ref f_pick) = true)
    (e_mixed : W.nsIn K mainGlobals "_law_mixed" = some (some (.ref f_mixed))) (l_mixed : K.lookup f_mixed = some ⟨o_mixed, x_mixed, .func (W.fnOf "_law_mixed" "_law_mixed" (defArgs sMixed) (defBody sMixed) (defScope sMixed) .none v_mixed d_mixed p_mixed n_mixed c_mixed t_mixed), s_mixed⟩) (g_mixed : W.codeIn K c_mixed "_law_mixed" = true) (k_mixed : W.keepIn K (.ref f_mixed) = true)
    (e_things : W.nsIn K mainGlobals "_law_things" = some (some (.ref f_things))) (l_things : K.lookup f_things = some ⟨o_things, x_things, .func (W.fnOf "_law_things" "_law_things" (defArgs sThings) (defBody sThings) (defScope sThings) .none v_things d_things p_things n_things c_things t_things), s_things⟩) (g_things : W.codeIn K c_things "_law_things" = true) (k_things : W.keepIn K (.ref f_things) = true)
    (e_drawn : W.nsIn K mainGlobals "_law_drawn_row" = some (some (.ref f_drawn))) (l_drawn : K.lookup f_drawn = some ⟨o_drawn, x_drawn, .func (W.fnOf "_law_drawn_row" "_law_drawn_row" (defArgs sDrawn) (defBody sDrawn) (defScope sDrawn) .none v_drawn d_drawn p_drawn n_drawn c_drawn t_drawn), s_drawn⟩) (g_drawn : W.codeIn K c_drawn "_law_drawn_row" = true) (k_drawn : W.keepIn K (.ref f_drawn) = true)
    (e_asrow : W.nsIn K mainGlobals "_law_as_row" = some (some (.ref f_asrow))) (l_asrow : K.lookup f_asrow = some ⟨o_asrow, x_asrow, .func (W.fnOf "_law_as_row" "_law_as_row" (defArgs sAsRow) (defBody sAsRow) (defScope sAsRow) .none v_asrow d_asrow p_asrow n_asrow c_asrow t_asrow), s_asrow⟩) (g_asrow : W.codeIn K c_asrow "_law_as_row" = true) (k_asrow : W.keepIn K (.ref f_asrow) = true)
    (e_spoilt : W.nsIn K mainGlobals "_law_spoilt" = some (some (.ref f_spoilt))) (l_spoilt : K.lookup f_spoilt = some ⟨o_spoilt, x_spoilt, .func (W.fnOf "_law_spoilt" "_law_spoilt" (defArgs sSpoilt) (defBody sSpoilt) (defScope sSpoilt) .none v_spoilt d_spoilt p_spoilt n_spoilt c_spoilt t_spoilt), s_spoilt⟩) (g_spoilt : W.codeIn K c_spoilt "_law_spoilt" = true) (k_spoilt : W.keepIn K (.ref f_spoilt) = true)
    (e_law : W.nsIn K mainGlobals "law" = some (some (.ref f_law))) (l_law : K.lookup f_law = some ⟨o_law, x_law, .func (W.fnOf "law" "law" (defArgs sLaw) (defBody sLaw) (defScope sLaw) .none v_law d_law p_law n_law c_law t_law), s_law⟩) (g_law : W.codeIn K c_law "law" = true) (k_law : W.keepIn K (.ref f_law) = true)
    (z_len : W.nsIn K mainGlobals "len" = some none)
    (z_abs : W.nsIn K mainGlobals "abs" = some none)
    (z_int : W.nsIn K mainGlobals "int" = some none)
    (z_range : W.nsIn K mainGlobals "range" = some none)
    (z_list : W.nsIn K mainGlobals "list" = some none)
    (z_tuple : W.nsIn K mainGlobals "tuple" = some none)
    (z_isinstance : W.nsIn K mainGlobals "isinstance" = some none)
    (z_enumerate : W.nsIn K mainGlobals "enumerate" = some none)
    (z_str : W.nsIn K mainGlobals "str" = some none)
    (z_bool : W.nsIn K mainGlobals "bool" = some none)
    (z_all : W.nsIn K mainGlobals "all" = some none)
    (z_repr : W.nsIn K mainGlobals "repr" = some none)
    (z_max : W.nsIn K mainGlobals "max" = some none)
    (z_min : W.nsIn K mainGlobals "min" = some none) :
    ∀ (s : Shared) (a : Addr) (ns : List Int) (base : Heap) (H : Hp), ns.length ≤ 63 → K.In base → base.Ns mainGlobals mg → Env0 P w K mg base callerA [] s H → Only H → SqL K H a (ns.map V.int) →
      codeAny (model P w) callerA (.call (.ref fa) ⟨[.ref a], []⟩) (CR CX0 [] P w H s (fun v _ => v = .bl true) E0) s := by
  intro s a ns base H few _ _ e0 _ sq
  have e := hfa.symm.trans (W.mg_of X G e_law)
  cases e
  have hf := house_of hB
  have N : Nums mg := ⟨W.mg_none_of X G z_len, W.mg_none_of X G z_abs, W.mg_none_of X G z_int⟩
  have B : Bl mg := ⟨N, W.mg_none_of X G z_range, W.mg_none_of X G z_list, W.mg_none_of X G z_tuple, W.mg_none_of X G z_isinstance, W.mg_none_of X G z_enumerate, W.mg_none_of X G z_str, W.mg_none_of X G z_bool, W.mg_none_of X G z_all, W.mg_none_of X G z_repr, W.mg_none_of X G z_max, W.mg_none_of X G z_min⟩
  have hc : HC K C := ⟨hf.h2.cl, hf.h2.n1, hf.h2.n2, hf.h2.n3⟩
  have cInt : Callee P w K mg base "is_integer" 1 ["value"] (spIsInt) := callee_mk (st := sIsInt) X G e_isint l_isint g_isint k_isint (fun _ _ _ _ _ _ us hl => match us, hl with | [_], _ => rfl) (fun fd F => ok_isint F B)
  have cSeq : Callee P w K mg base "is_sequence" 1 ["value"] (spSeq) := callee_mk (st := sIsSeq) X G e_isseq l_isseq g_isseq k_isseq (fun _ _ _ _ _ _ us hl => match us, hl with | [_], _ => rfl) (fun fd F => ok_isseq F B)
  have cName : Callee P w K mg base "is_name" 1 ["value"] (spName) := callee_mk (st := sIsName) X G e_isname l_isname g_isname k_isname (fun _ _ _ _ _ _ us hl => match us, hl with | [_], _ => rfl) (fun fd F => ok_isname F B)
  have cParts : Callee P w K mg base "_checked_parts" 2 ["parts"] (spParts) := callee_mk (st := sChParts) X G e_chp l_chp g_chp k_chp (fun _ _ _ _ _ _ us hl => match us, hl with | [_], _ => rfl) (fun fd F => ok_chparts F B cSeq cName (W.mg_of X G mP))
  have fD := fun_mk (st := sIsDoor) l_isdoor g_isdoor k_isdoor
  have fC := fun_mk (st := sIsCell) l_iscell g_iscell k_iscell
  have heldD : ∀ f sp, S1 f_isdoor spDoor f = some sp → Held P w K mg base 2 f sp := fun f sp hs => by
    unfold S1 at hs
    split at hs
    · rename_i hf
      obtain rfl := Option.some.inj hs
      subst hf
      exact ⟨_, _, ok_isdoor fD B cSeq cName, k_isdoor, fD.binds (ps := ["door", "parts"]) (fun _ _ _ _ _ _ us hl => match us, hl with | [_, _], _ => rfl)⟩
    · cases hs
  have heldC : ∀ f sp, S1 f_iscell spCell f = some sp → Held P w K mg base 2 f sp := fun f sp hs => by
    unfold S1 at hs
    split at hs
    · rename_i hf
      obtain rfl := Option.some.inj hs
      subst hf
      exact ⟨_, _, ok_iscell fC B cSeq cName, k_iscell, fC.binds (ps := ["cell", "parts"]) (fun _ _ _ _ _ _ us hl => match us, hl with | [_, _], _ => rfl)⟩
    · cases hs
  have cCh1 : Callee P w K mg base "_checked_things" 3 ["things", "most", "parts", "taken", "is_thing"] (spChecked (S1 f_isdoor spDoor)) := callee_mk (st := sChThings) X G e_cht l_cht g_cht k_cht (fun _ _ _ _ _ _ us hl => match us, hl with | [_, _, _, _, _], _ => rfl) (fun fd F => ok_chthings F B cSeq _ heldD)
  have cCh2 : Callee P w K mg base "_checked_things" 3 ["things", "most", "parts", "taken", "is_thing"] (spChecked (S1 f_iscell spCell)) := callee_mk (st := sChThings) X G e_cht l_cht g_cht k_cht (fun _ _ _ _ _ _ us hl => match us, hl with | [_, _, _, _, _], _ => rfl) (fun fd F => ok_chthings F B cSeq _ heldC)
  have cNums : Callee P w K mg base "_numbers" 1 ["names"] (spNums) := callee_mk (st := sNumbers) X G e_nums l_nums g_nums k_nums (fun _ _ _ _ _ _ us hl => match us, hl with | [_], _ => rfl) (fun fd F => ok_numbers F B)
  have cNumOf : Callee P w K mg base "_number_of" 1 ["numbers", "name"] (spNumOf) := callee_mk (st := sNumOf) X G e_numof l_numof g_numof k_numof (fun _ _ _ _ _ _ us hl => match us, hl with | [_, _], _ => rfl) (fun fd F => ok_numof F B)
  have cBools : Callee P w K mg base "_are_bools" 1 ["row", "many"] (spBools) := callee_mk (st := sBools) X G e_bools l_bools g_bools k_bools (fun _ _ _ _ _ _ us hl => match us, hl with | [_, _], _ => rfl) (fun fd F => ok_bools F B)
  have cValues : Callee P w K mg base "_are_values" 2 ["row", "many", "most"] (spValues) := callee_mk (st := sValues) X G e_values l_values g_values k_values (fun _ _ _ _ _ _ us hl => match us, hl with | [_, _, _], _ => rfl) (fun fd F => ok_values F B cInt)
  have cTake : Callee P w K mg base "_law_take" 1 ["_law_box_here", "_law_many"] (spTake) := callee_mk (st := sTake) X G e_take l_take g_take k_take (fun _ _ _ _ _ _ us hl => match us, hl with | [_, _], _ => rfl) (fun fd F => ok_take F N)
  have ft := fun_mk (st := sTake) l_take g_take k_take
  have cPick : Callee P w K mg base "_law_pick" 2 ["_law_box_here", "_law_some"] (spPick) := callee_mk (st := sPick) X G e_pick l_pick g_pick k_pick (fun _ _ _ _ _ _ us hl => match us, hl with | [_, _], _ => rfl) (fun fd F => ok_pick F N ft (ft.binds (ps := ["_law_box_here", "_law_many"]) (fun _ _ _ _ _ _ us hl => match us, hl with | [_, _], _ => rfl)) (W.mg_of X G e_take))
  have cMixed : Callee P w K mg base "_law_mixed" 2 ["_law_box_here", "_law_some"] (spMixed) := callee_mk (st := sMixed) X G e_mixed l_mixed g_mixed k_mixed (fun _ _ _ _ _ _ us hl => match us, hl with | [_, _], _ => rfl) (fun fd F => ok_mixed F B cTake)
  have fM' := fun_mk (st := sNumPart) l_M g_M k_M
  have fI' := fun_mk (st := sInit) l_I g_I k_I
  have me : Meth K C "number_of_part" fM := ⟨nM, hf.me.1, hf.me.2⟩
  have okM := ok_numpart (P := P) (w := w) (mg := mg) (base := base) fM' B hf.h2.cl hf.h2.n4 cNumOf
  have okI := ok_init (P := P) (w := w) (mg := mg) (base := base) fI' B hf.h2 cParts cCh1 cCh2 cNums (W.mg_of X G mD) (W.mg_of X G mC) (W.mg_of X G e_isdoor) (W.mg_of X G e_iscell) me okM (fM'.binds (ps := ["self", "name"]) (fun _ _ _ _ _ _ us hl => match us, hl with | [_, _], _ => rfl))
  have D : Defs P w K mg base C := {
    box := callee_mk (st := sBox) X G e_box l_box g_box k_box (fun _ _ _ _ _ _ us hl => match us, hl with | [_, _], _ => rfl) (fun fd F => ok_box F N)
    things := callee_mk (st := sThings) X G e_things l_things g_things k_things (fun _ _ _ _ _ _ us hl => match us, hl with | [_, _], _ => rfl) (fun fd F => ok_things F B cTake cMixed cPick)
    drawn := callee_mk (st := sDrawn) X G e_drawn l_drawn g_drawn k_drawn (fun _ _ _ _ _ _ us hl => match us, hl with | [_, _, _, _], _ => rfl) (fun fd F => ok_drawn F B cTake)
    asrow := callee_mk (st := sAsRow) X G e_asrow l_asrow g_asrow k_asrow (fun _ _ _ _ _ _ us hl => match us, hl with | [_], _ => rfl) (fun fd F => ok_asrow F B)
    spoilt := callee_mk (st := sSpoilt) X G e_spoilt l_spoilt g_spoilt k_spoilt (fun _ _ _ _ _ _ us hl => match us, hl with | [_, _], _ => rfl) (fun fd F => ok_spoilt F B cTake cPick)
    isrow := callee_mk (st := sIsRow) X G e_isrow l_isrow g_isrow k_isrow (fun _ _ _ _ _ _ us hl => match us, hl with | [_, _], _ => rfl) (fun fd F => ok_isrow F B hc cBools cValues)
    isrowK := calleeK_mk (st := sIsRow) X G e_isrow l_isrow g_isrow k_isrow b2 rel2 (fun fd F => ok_isrow F B hc cBools cValues)
    firstK := calleeK_mk (st := sFirst) X G e_first l_first g_first k_first b1 rel1 (fun fd F => ok_first F B hc)
    house := ⟨fI, _, W.mg_of X G eC, ⟨hf.mka.1, nI, hf.mka.2.1, hf.mka.2.2⟩, fI'.binds (ps := ["self", "parts", "doors", "cells"]) (fun _ _ _ _ _ _ us hl => match us, hl with | [_, _, _, _], _ => rfl), okI⟩
    hty := hf.ty
    hno := hf.no }
  have fl := fun_mk (st := sLaw) l_law g_law k_law
  exact law_ok fl B D e0 (fl.binds (ps := ["_law_script"]) (fun _ _ _ _ _ _ us hl => match us, hl with | [_], _ => rfl)) sq few
end K03

open PySem PySem.W PyProof.Rows in
set_option maxRecDepth 100000 in
set_option maxHeartbeats 0 in
theorem PySem.Challenge.cw_lightsout_k03_rows_of_houses_holds : PySem.Challenge.rw_lightsout_k03_rows_of_houses.Holds := by
  w_on; o_law; k_head; (case hw => w_witness2)
  k_fill
  refine Cal.walk (l := PySem.Challenge.rw_lightsout_k03_rows_of_houses) (n := 63) rfl (by decide) rfl (fun w h Y => PySem.W.kIn_of Y) ?F
  case F =>
    intro w mg fa h KX G hmg
    refine' K03.all_mk KX G hmg ?eC ?nI ?nM ?l_I ?g_I ?k_I ?l_M ?g_M ?k_M ?hB ?mP ?mD ?mC ?e_isint ?l_isint ?g_isint ?k_isint ?e_isseq ?l_isseq ?g_isseq ?k_isseq ?e_isname ?l_isname ?g_isname ?k_isname ?e_chp ?l_chp ?g_chp ?k_chp ?e_isdoor ?l_isdoor ?g_isdoor ?k_isdoor ?e_iscell ?l_iscell ?g_iscell ?k_iscell ?e_cht ?l_cht ?g_cht ?k_cht ?e_nums ?l_nums ?g_nums ?k_nums ?e_numof ?l_numof ?g_numof ?k_numof ?e_first ?l_first ?g_first ?k_first ?e_bools ?l_bools ?g_bools ?k_bools ?e_values ?l_values ?g_values ?k_values ?e_isrow ?l_isrow ?g_isrow ?k_isrow ?e_box ?l_box ?g_box ?k_box ?e_take ?l_take ?g_take ?k_take ?e_pick ?l_pick ?g_pick ?k_pick ?e_mixed ?l_mixed ?g_mixed ?k_mixed ?e_things ?l_things ?g_things ?k_things ?e_drawn ?l_drawn ?g_drawn ?k_drawn ?e_asrow ?l_asrow ?g_asrow ?k_asrow ?e_spoilt ?l_spoilt ?g_spoilt ?k_spoilt ?e_law ?l_law ?g_law ?k_law ?z_len ?z_abs ?z_int ?z_range ?z_list ?z_tuple ?z_isinstance ?z_enumerate ?z_str ?z_bool ?z_all ?z_repr ?z_max ?z_min
    (case eC => k_is)
    (case nI => k_is)
    (case nM => k_is)
    (case l_I => k_is)
    (case g_I => k_is)
    (case k_I => k_is)
    (case l_M => k_is)
    (case g_M => k_is)
    (case k_M => k_is)
    (case hB => kernel_rfl)
    (case mP => k_is)
    (case mD => k_is)
    (case mC => k_is)
    (case e_isint => k_is)
    (case l_isint => k_is)
    (case g_isint => k_is)
    (case k_isint => k_is)
    (case e_isseq => k_is)
    (case l_isseq => k_is)
    (case g_isseq => k_is)
    (case k_isseq => k_is)
    (case e_isname => k_is)
    (case l_isname => k_is)
    (case g_isname => k_is)
    (case k_isname => k_is)
    (case e_chp => k_is)
    (case l_chp => k_is)
    (case g_chp => k_is)
    (case k_chp => k_is)
    (case e_isdoor => k_is)
    (case l_isdoor => k_is)
    (case g_isdoor => k_is)
    (case k_isdoor => k_is)
    (case e_iscell => k_is)
    (case l_iscell => k_is)
    (case g_iscell => k_is)
    (case k_iscell => k_is)
    (case e_cht => k_is)
    (case l_cht => k_is)
    (case g_cht => k_is)
    (case k_cht => k_is)
    (case e_nums => k_is)
    (case l_nums => k_is)
    (case g_nums => k_is)
    (case k_nums => k_is)
    (case e_numof => k_is)
    (case l_numof => k_is)
    (case g_numof => k_is)
    (case k_numof => k_is)
    (case e_first => k_is)
    (case l_first => k_is)
    (case g_first => k_is)
    (case k_first => k_is)
    (case e_bools => k_is)
    (case l_bools => k_is)
    (case g_bools => k_is)
    (case k_bools => k_is)
    (case e_values => k_is)
    (case l_values => k_is)
    (case g_values => k_is)
    (case k_values => k_is)
    (case e_isrow => k_is)
    (case l_isrow => k_is)
    (case g_isrow => k_is)
    (case k_isrow => k_is)
    (case e_box => k_is)
    (case l_box => k_is)
    (case g_box => k_is)
    (case k_box => k_is)
    (case e_take => k_is)
    (case l_take => k_is)
    (case g_take => k_is)
    (case k_take => k_is)
    (case e_pick => k_is)
    (case l_pick => k_is)
    (case g_pick => k_is)
    (case k_pick => k_is)
    (case e_mixed => k_is)
    (case l_mixed => k_is)
    (case g_mixed => k_is)
    (case k_mixed => k_is)
    (case e_things => k_is)
    (case l_things => k_is)
    (case g_things => k_is)
    (case k_things => k_is)
    (case e_drawn => k_is)
    (case l_drawn => k_is)
    (case g_drawn => k_is)
    (case k_drawn => k_is)
    (case e_asrow => k_is)
    (case l_asrow => k_is)
    (case g_asrow => k_is)
    (case k_asrow => k_is)
    (case e_spoilt => k_is)
    (case l_spoilt => k_is)
    (case g_spoilt => k_is)
    (case k_spoilt => k_is)
    (case e_law => k_is)
    (case l_law => k_is)
    (case g_law => k_is)
    (case k_law => k_is)
    (case z_len => k_is)
    (case z_abs => k_is)
    (case z_int => k_is)
    (case z_range => k_is)
    (case z_list => k_is)
    (case z_tuple => k_is)
    (case z_isinstance => k_is)
    (case z_enumerate => k_is)
    (case z_str => k_is)
    (case z_bool => k_is)
    (case z_all => k_is)
    (case z_repr => k_is)
    (case z_max => k_is)
    (case z_min => k_is)
#print axioms PySem.Challenge.cw_lightsout_k03_rows_of_houses_holds

