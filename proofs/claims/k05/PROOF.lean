import PyProof.Rows.All
import Wide.All
import OpenK.AllK
import Wide.FinOn
import HandS.ForMost
import HandS.Wide
import HandS.IsInst
import HandS.CallLocal
import HandS.Evl
import HandS.Style
import HandS.Iter
import HandS.Walk
import HandS.Deep
import HandS.StrMore
import PySem.Challenge.RW_lookalike_k05_tokens_and_their_places
set_option Elab.async false
set_option linter.all false
set_option maxRecDepth 100000
section
set_option maxHeartbeats 4000000
/-! What every law of this program wants: a law's def where nothing is being shown, repr of data, calls by keywords alone. -/
namespace Zc
open PySem PySem.Spec PyProof.Rows L2

section
variable {P : Program} {w : World} {K : PySem.W.Frag} {mg : Str → Option Value} {base : Heap}

/-- a def's promise, kept wherever no repr runs around the call -/
structure FnG (P : Program) (w : World) (K : PySem.W.Frag) (mg : Str → Option Value)
    (base : Heap) (k : Nat) (f : Addr) (fd : FuncData) (ps : List Str) (sp : Sp) : Prop where
  len : ∀ vs H Q E, sp vs H Q E → vs.length = ps.length
  run : ∀ (A : Around) (outer : List Env) (s : Shared) (H : Hp) (args : Args)
    (us : List Value) (vs : List V) (Q : VK) (E : XK), Room k A → A.guards = some [] →
    Env0 P w K mg base A outer s H → BindsTo s fd args (ps.zip us) → Vals vs us → sp vs H Q E →
    codeAny (model P w) A (.call (.ref f) args) (CR CX0 outer P w H s Q E) s

/-- the rule for such a def -/
theorem fnG_ok {x qual : Str} {st : Stmt} {f : Addr} {fd : FuncData} {N ps : List Str} {k : Nat} {sp : Sp}
    (F : Fun K x qual st f fd) (S : FnScope N ps (defScope st))
    (len : ∀ vs H Q E, sp vs H Q E → vs.length = ps.length)
    (body : ∀ (cdv : Value) (A : Around) (outer : List Env) (s : Shared) (H : Hp) (vs : List V) (Q : VK) (E : XK),
      Room k (A.deeper (envOfC qual (defScope st) s.heap.objs.size f cdv)) → A.guards = some [] → sp vs H Q E →
      ∃ t, PSs (cxOf CX0 P w K mg base N qual (defScope st) f cdv A outer s H E).nox (defBody st) t ∧
        t { nx := fun _ H' => Q .non H', rt := Q } (start N vs) H) :
    FnG P w K mg base (k + 1) f fd ps sp := by
  obtain ⟨oc, od, kV, doc, pm, an, cdv, ct, osl, rfl, lk, hcd⟩ := F.ex
  constructor
  · exact len
  intro A outer s H args us vs Q E hr hg e0 hb r hsp
  have l0 := len _ _ _ _ hsp
  have kin : K.In s.heap :=
    e0.mod.kin.keeps fun b o e => (e0.bs b o e).1
  have nolim : s.heap.NoLimit :=
    e0.mod.nolimit.keeps fun b o e => (e0.bs b o e).1
  have kinds : ∀ y ∈ ps.zip us, (defScope st).names.lookup y.1 = some .local ∨
      ((defScope st).names.lookup y.1 = some .cell ∧
        ((cellsFrom (s.heap.objs.size + 1) (defScope st).names []).lookup y.1).isSome = true) := by
    rintro ⟨n, v⟩ hy
    cases S.par n (List.of_mem_zip hy).1 with
    | inl q => exact Or.inl q
    | inr q => exact Or.inr ⟨q, PySem.W.cellsFrom_some _ _ _ (Or.inl q)⟩
  apply codeAny_call_function hr.depth (kin _ _ lk) rfl S.co S.gen rfl (PySem.W.codeRec_of kin hcd)
    (hb _ _ _ _ ?_)
  apply wpAny_newFunctionEnv_cells S.kind kinds
  intro env he s1 x
  subst he
  refine And.intro (nolim.keeps x.toInCall.keep) (codeAny_func ?_)
  obtain ⟨t, ht, hq⟩ := body cdv A outer s H vs Q E (hr.deeper _) hg hsp
  have J : Inv (cxOf CX0 P w K mg base N qual (defScope st) f cdv A outer s H E) [] (start N vs) H s1 :=
    inv_start S hr.hd e0 l0 r x
  apply wpAny_mono (ht.nox.run [] s1 (start N vs) H _ J hq)
  · intro fl s' hs
    have fin : ∀ {σ' : L2.St} {H' : Hp} {v : V} {u : Value},
        Inv (cxOf CX0 P w K mg base N qual (defScope st) f cdv A outer s H E) [] σ' H' s' →
        RelV v u → Q v H' → CE outer P w H s Q u s' := by
      intro σ' H' v u J' rv q
      exact ⟨v, H', J'.os, J'.bare, J'.base, J'.hok, rv, q⟩
    match fl, hs with
    | .ret u, hs =>
      obtain ⟨v, σ', H', J', rv, q⟩ := hs
      exact fin J' rv q
    | .next, hs =>
      obtain ⟨σ', H', J', q⟩ := hs
      exact fin (v := V.non) (u := Value.none) J' rfl q
    | .brk, hs =>
      obtain ⟨_, _, _, q⟩ := hs
      exact q.elim
    | .cont, hs =>
      obtain ⟨_, _, _, q⟩ := hs
      exact q.elim
  · intro e s' hs
    exact hs

/-- a law's call, from such a promise -/
theorem callG {mb : Str → Option Value} {k : Nat} {fa a : Addr} {fd : FuncData} {x : Str} {sp : Sp}
    {s₁ : Shared} {vs : List Value} {ns : List Int}
    (KX : K.In s₁.heap) (gl : s₁.heap.Ns mainGlobals mg) (bn : s₁.heap.Ns builtinsNs mb)
    (bb : ∀ x : Str, x ≠ "__name__" → mb x = bootBuiltins x)
    (lim : s₁.heap.NoLimit) (gens : s₁.gens = #[])
    (ha : s₁.heap.get? a = some { cls := .type "list", data := .seq vs.toArray })
    (hi : IntsAre vs ns) (hl : ns.length ≤ sizeLine) (hr : Room k callerA)
    (F : ∀ base : Heap, K.In base → base.Ns mainGlobals mg → FnG P w K mg base k fa fd [x] sp)
    (bind : ∀ (s : Shared) (u : Value), BindsTo s fd ⟨[u], []⟩ [(x, u)])
    (hsp : ∀ H : Hp, SqL K H a (ns.map V.int) → sp [.ref a] H (fun v _ => v = .bl true) fun _ _ _ => False) :
    codeAny (model P w) callerA (.call (.ref fa) ⟨[.ref a], []⟩)
      (fun r s' => r = .ok (.ret (.bool true)) ∧ OldK s₁.heap s'.heap ∧ s'.os = s₁.os ∧ AllBare s'.gens) s₁ := by
  have rv := vals_ints hi
  have lv := hi.length
  have main : ∀ H : Hp, Only H → SqL K H a (ns.map V.int) → HOk P w H s₁.heap →
      (∀ b, H b ≠ none → b = a) → (H a ≠ none → K.lookup a = none) →
      codeAny (model P w) callerA (.call (.ref fa) ⟨[.ref a], []⟩)
        (fun r s' => r = .ok (.ret (.bool true)) ∧ OldK s₁.heap s'.heap ∧ s'.os = s₁.os ∧ AllBare s'.gens) s₁ := by
    intro H only hS ok one away
    have offA : ∀ {b : Addr} {u : HO}, H b = some u → b = a := fun {b u} q =>
      one b (by rw [q]; intro z; cases z)
    have dictFree : ∀ {b : Addr} {o : Obj} {es : Array DictEntry} {ep : Nat},
        s₁.heap.get? b = some o → o.data = .dict es ep → H b = none := by
      intro b o es ep e d
      match q : H b with
      | none => rfl
      | some u =>
        have z := offA q
        rw [z, ha] at e
        have e' := Option.some.inj e
        rw [← e'] at d
        have d' : Data.seq vs.toArray _ = Data.dict es ep := d
        exact Data.noConfusion d'
    have nsHid : ∀ {b : Addr} {m : Str → Option Value}, s₁.heap.Ns b m → (hidT s₁.heap H).Ns b m := by
      rintro b m ⟨o, es, ep, e, d, r⟩
      exact ⟨o, es, ep, hidT_get e (dictFree e d), d, r⟩
    have kinHid : K.In (hidT s₁.heap H) := by
      intro b o e
      apply hidT_get (KX b o e)
      match q : H b with
      | none => rfl
      | some u =>
        have z := offA q
        rw [z] at e
        have z2 := away (by rw [← z, q]; intro y; cases y)
        rw [z2] at e
        cases e
    have md : Mod K mg (hidT s₁.heap H) := by
      refine ⟨kinHid, nsHid gl, ⟨mb, nsHid bn, bb⟩, ?_⟩
      obtain ⟨mc, h1, h2⟩ := lim
      exact ⟨mc, nsHid h1, h2⟩
    have e0 : Env0 P w K mg (hidT s₁.heap H) callerA [] s₁ H := by
      refine ⟨rfl, md, fun b o e => of_hidT e, Nat.le_of_eq (hidT_size _ _), trivial, ?_, ok, .of_eq gens⟩
      intro b hb
      exact absurd (show b ∈ ([] : List Addr) from hb) List.not_mem_nil
    have run := (F _ kinHid (nsHid gl)).run callerA [] s₁ H ⟨[.ref a], []⟩ [.ref a] [.ref a] _ _ hr rfl e0
      (bind s₁ (.ref a)) (.cons rfl .nil) (hsp H hS)
    apply codeAny_mono run
    intro r s' h
    match r, h with
    | .error e, h => exact False.elim h
    | .ok .next, h => exact False.elim h
    | .ok .brk, h => exact False.elim h
    | .ok .cont, h => exact False.elim h
    | .ok (.ret u), h =>
      obtain ⟨v, H', os, bare, un, ok', r', q⟩ := h
      have q' : v = .bl true := q
      subst q'
      have r2 : u = Value.bool true := r'
      subst r2
      refine ⟨rfl, OldK.of_keep ?_, os, bare⟩
      intro b o e
      match q : H b with
      | none => exact un.keep b o e q (fun z => absurd (show b ∈ ([] : List Addr) from z) List.not_mem_nil) List.not_mem_nil
      | some u =>
        cases only b with
        | inl z =>
          rw [q] at z
          cases z
        | inr z =>
          obtain ⟨ob, xs, z⟩ := z
          obtain ⟨e1, _⟩ := ok b _ z
          obtain ⟨e2, _⟩ := ok' b _ (un.frzs b ob _ z)
          rw [e] at e1
          rw [Option.some.inj e1]
          exact e2
  match hk : K.lookup a with
  | some o =>
    have e := KX a o hk
    rw [ha] at e
    have e' := Option.some.inj e
    subst e'
    apply main (fun _ => none)
    · intro b
      exact Or.inl rfl
    · exact Or.inr ⟨_, vs.toArray, _, hk, rfl, rfl, rfl, by rw [List.size_toArray, lv]; exact hl, by simpa using rv⟩
    · intro b u z
      have z' : (none : Option HO) = some u := z
      cases z'
    · intro b z
      exact absurd rfl z
    · intro z
      exact absurd rfl z
  | none =>
    have yes : ∀ {b : Addr}, b = a → (fun b => if b = a then some (HO.frz { cls := .type "list", data := .seq vs.toArray } (.lst (ns.map V.int))) else none : Hp) b
        = some (HO.frz { cls := .type "list", data := .seq vs.toArray } (.lst (ns.map V.int))) := fun h => if_pos h
    have no : ∀ {b : Addr}, ¬ b = a → (fun b => if b = a then some (HO.frz { cls := .type "list", data := .seq vs.toArray } (.lst (ns.map V.int))) else none : Hp) b = none := fun h => if_neg h
    apply main (fun b => if b = a then some (HO.frz { cls := .type "list", data := .seq vs.toArray } (.lst (ns.map V.int))) else none)
    · intro b
      by_cases hb : b = a
      · exact Or.inr ⟨_, _, yes hb⟩
      · exact Or.inl (no hb)
    · exact Or.inl (Or.inr ⟨_, yes rfl⟩)
    · intro b u z
      by_cases hb : b = a
      · have z' := (yes hb).symm.trans z
        have z2 := Option.some.inj z'
        subst z2
        subst hb
        exact ⟨ha, by rw [List.length_map]; exact hl, vs, _, rv, ha⟩
      · have z' := (no hb).symm.trans z
        cases z'
    · intro b z
      by_cases hb : b = a
      · exact hb
      · exact absurd (no hb) z
    · intro _
      exact hk
end

/-- the goal that the head leaves, from such a promise -/
theorem walkG {l : PySem.W.OpenLaw} {n k : Nat} {q : Program} {loose : List Str}
    {XP : (Str → Option Value) → Heap → Prop} {YP : World → Heap → Prop} {d : DefRec}
    {K : Params → PySem.W.Frag} {sp : PySem.W.Frag → Sp} {x : Str}
    (hn : l.most = some n) (hn2 : n ≤ sizeLine) (hdf : d.params.defaults = []) (hr : Room k callerA)
    (hY : ∀ (w : World) (h : Heap), YP w h → (K w.params).In h)
    (F : ∀ (w : World) (mg : Str → Option Value) (fa : Addr) (h : Heap), (K w.params).In h → h.Ns mainGlobals mg →
      mg d.name = some (.ref fa) →
      ∃ fd : FuncData, (∀ (s : Shared) (u : Value), BindsTo s fd ⟨[u], []⟩ [(x, u)]) ∧
        ∀ base : Heap, (K w.params).In base → base.Ns mainGlobals mg →
          FnG l.prog w (K w.params) mg base k fa fd [x] (sp (K w.params)))
    (hsp : ∀ (K : PySem.W.Frag) (H : Hp) (a : Addr) (ns : List Int), ns.length ≤ n → SqL K H a (ns.map V.int) →
      sp K [.ref a] H (fun v _ => v = .bl true) fun _ _ _ => False) :
    PySem.W.WalkO q loose XP YP l.row.toRowW d [] (fun f vs => PySem.call f vs) := by
  apply Att.attach_call hn hdf
  intro w s₀ s₁ mg mb fa o pm cd doc a vs ns G Y ho hd hcd hmg hobj hints hlen hg
  have kx := hY w _ Y
  obtain ⟨fd, hb, hF⟩ := F w mg fa _ kx G.T.g hmg
  exact callG kx G.T.g G.T.b G.T.builtins G.T.nolimit hg hobj hints (Nat.le_trans hlen hn2) hr hF hb
    (fun H hS => hsp (K w.params) H a ns hlen hS)

section
variable {X : Cx}
/-- repr of data: what Python shows of it -/
theorem call_repr_D (hg : X.A.guards = some []) (hu : X.A.units + 64 < cLine) : CallR X (.builtin "repr")
    (fun xs H Q => ∃ v d, xs = [v] ∧ isDisplay d = true ∧ Dp X.K H v d ∧ d.showable = true ∧ d.hasDict = false ∧ d.depth < 40 ∧ d.shown.length ≤ sizeLine ∧ Q (.str d.shown) H) := by
  intro pins s σ H xs us Q I r h
  obtain ⟨v, d, rfl, hdsp, hD, hsh, hnd, hdp, hsz, q⟩ := h
  obtain ⟨u, rfl, ru⟩ := vals1 r
  obtain ⟨as, rd⟩ := Dp.reads I d v u hD ru
  obtain ⟨a, rfl⟩ := isRef_of_reads rd hdsp
  refine repr_of_reads' rd hsh (PyData.noDict_hsm hnd) hg (by omega) (fun _ _ e => e) (fun h' u tk hk => ?_) hsz
  exact ⟨.str d.shown, H, I.kept hk, ⟨_, rfl⟩, q⟩

/-- f(k = v, ..), no value without a name -/
theorem pe_callKw {CX : CXT} {k : Nat} {f : Addr} {fd : FuncData} {ps ks : List Str} {sp : Sp} {E : XK} {x : Str} {p pos : Pos}
    {kws : List Keyword} {tk : TA} {g : List Value → List Value → List Value} {gV : List V → List V → List V}
    (F : FnOk X.prog X.w X.K X.mg X.base CX k f fd ps sp) (hr : Room k X.A) (hg : Gl X x) (hm : X.mg x = some (.ref f))
    (hk : PySem.W.keepIn X.K (.ref f) = true) (hb : KBinds X.K fd ps ks g gV) (hx : Passes CX X E) (hkw : PK X kws tk)
    (hall : (backToKw pos (keywordEach kws X.env)).all (·.1.isSome) = true := by rfl)
    (hks : (backToKw pos (keywordEach kws X.env)).filterMap (·.1) = ks := by rfl)
    (hdb : (x == ("__debug__" : Str)) = false := by decide)
    (hpl : ((backTo pos (starEach [] X.env)).any (·.1) || (backToKw pos (keywordEach kws X.env)).any (·.1.isNone)) = false := by rfl) :
    PE X (.Call (.Name x p) [] kws pos) (tCallK sp gV E tNil tk) := by
  constructor
  intro pins s σ H Q I h
  apply wpAny_Call_Name_kw (ld_glob I hg hm ?_ hdb)
  apply PySem.W.callWith_KW0 (h₀ := X.base) I.ok.mod.kin hk hall ?_ hpl
  apply thn (hkw.run pos pins s σ H _ I h)
  rintro ws s2 ⟨zs, H2, I2, rz, q2⟩
  refine ⟨I2.kIn, ?_⟩
  rw [hks]
  exact run_fnk (us := []) (vs := []) F hr hb hx I2 .nil rz q2
end
end Zc
end

section
set_option maxHeartbeats 1000000
/-! The deal from which every law of this program draws: what it holds, and that a draw is some number below its bound. -/
namespace Zc
open PySem PySem.Spec PyProof.Rows L2

/-- a def of the text: where it stands, by what name, how its arguments bind -/
structure At (K : PySem.W.Frag) (mg : Str → Option Value) (x : Str) (st : Stmt) (ps : List Str) (f : Addr) (fd : FuncData) : Prop where
  F : Fun K x x st f fd
  g : mg x = some (.ref f)
  b : Binds K fd ps []

/-- a deal at d, its list at l -/
def Deal (H : Hp) (d l : Addr) : Prop := ∃ (xs : List Int) (b : Int), d ≠ l ∧ H d = some (.lst [.ref l, .int b]) ∧
  H l = some (.lst (xs.map V.int)) ∧ xs.length ≤ 48 ∧ (∀ x ∈ xs, 0 ≤ x) ∧ 0 ≤ b ∧ b < 2147483647
/-- all that was tracked beside the deal is as it was -/
def But (d l : Addr) (H H' : Hp) : Prop := ∀ b o, b ≠ d → b ≠ l → H b = some o → H' b = some o
theorem But.refl (d l : Addr) (H : Hp) : But d l H H := fun _ _ _ _ h => h
theorem But.trans {d l : Addr} {H H1 H2 : Hp} (a : But d l H H1) (b : But d l H1 H2) : But d l H H2 :=
  fun c o n1 n2 h => b c o n1 n2 (a c o n1 n2 h)
theorem But.of {d l : Addr} {H H' : Hp} (a : Same H H') : But d l H H' := fun c o _ _ h => a c o h
theorem But.updD {d l : Addr} {H H' : Hp} {o : HO} (a : But d l H H') : But d l H (upd H' d o) := fun c u n1 n2 h => by
  rw [upd_ne n1]
  exact a c u n1 n2 h
theorem But.updL {d l : Addr} {H H' : Hp} {o : HO} (a : But d l H H') : But d l H (upd H' l o) := fun c u n1 n2 h => by
  rw [upd_ne n2]
  exact a c u n1 n2 h
theorem same_new {H : Hp} {p : Addr} {o : HO} (h : H p = none) : Same H (upd H p o) := fun b x e => by
  rw [upd_ne (ne_of_none e h)]
  exact e

/-! ### lists of ints as data -/
theorem dp_ints {K : PySem.W.Frag} {H : Hp} : ∀ ns : List Int, DpAll K H (ns.map V.int) (ns.map PyData.int)
  | [] => .nil
  | n :: r => .cons (.int n) (dp_ints r)
theorem can_ints : ∀ ns : List Int, PyData.canLayAll0 (ns.map PyData.int) = true
  | [] => by simp [PyData.canLayAll0]
  | n :: r => by simp [PyData.canLayAll0, PyData.canLay0, can_ints r]
theorem depth_ints : ∀ ns : List Int, PyData.depthAll (ns.map PyData.int) = 0
  | [] => by simp [PyData.depthAll]
  | n :: r => by simp [PyData.depthAll, PyData.depth, depth_ints r]
theorem shaped_ints (ns : List Int) : SeqAt.shaped (.list (ns.map PyData.int)) = true := by
  simp [SeqAt.shaped, PyData.canLay0, can_ints, PyData.depth, depth_ints]
theorem eqv_nil (ns : List Int) : PyData.eqv (.list (ns.map PyData.int)) (.list []) = ns.isEmpty := by
  cases ns <;> simp [PyData.eqv, PyData.eqvAll]
theorem shaped_nil : SeqAt.shaped (.list []) = true := by decide +kernel
theorem ne_nil_read {K : PySem.W.Frag} {H : Hp} {l p : Addr} {ns : List Int} {Q : VK} (h : SqL K H l (ns.map V.int)) (hp : SqL K H p [])
    (q : Q (.bl (!ns.isEmpty)) H) : rNeD K (.ref l) (.ref p) H Q := by
  refine ⟨.list (ns.map .int), .list [], .lst h (dp_ints ns), .lst hp .nil, shaped_ints ns, shaped_nil, ?_⟩
  rw [eqv_nil]
  exact q

theorem snoc_cases (xs : List Int) : xs = [] ∨ ∃ ys z, xs = ys ++ [z] := by
  cases xs with
  | nil => exact .inl rfl
  | cons x r => exact .inr ⟨_, _, (List.dropLast_concat_getLast (List.cons_ne_nil x r)).symm⟩
theorem snoc_map (ys : List Int) (z : Int) : (ys ++ [z]).map V.int = ys.map V.int ++ [V.int z] := by
  rw [List.map_append]
  rfl
theorem snoc_len (ys : List Int) (z : Int) : (ys ++ [z]).length = ys.length + 1 := by
  rw [List.length_append]
  rfl
theorem snoc_last (ys : List V) (z : V) : (ys ++ [z])[(ys ++ [z]).length - 1]? = some z := by
  rw [List.length_append]
  simp
theorem snoc_ne (ys : List Int) (z : Int) : (!(ys ++ [z]).isEmpty) = true := by
  cases ys <;> rfl
theorem iteTe {c : Bool} {A B : Prop} (e : c = true) (h : A) : if c = true then A else B := by
  rw [if_pos e]
  exact h
theorem iteFe {c : Bool} {A B : Prop} (e : c = false) (h : B) : if c = true then A else B := by
  rw [if_neg (by rw [e]; exact Bool.false_ne_true)]
  exact h
/-- the deal's list after a change of it -/
theorem Deal.list {H : Hp} {d l : Addr} {b : Int} {xs : List Int} (ndl : d ≠ l) (hd : H d = some (.lst [.ref l, .int b])) (hlen : xs.length ≤ 48)
    (hpos : ∀ x ∈ xs, 0 ≤ x) (b0 : 0 ≤ b) (b1 : b < 2147483647) : Deal (upd H l (.lst (xs.map V.int))) d l :=
  ⟨xs, b, ndl, by rw [upd_ne ndl]; exact hd, upd_same, hlen, hpos, b0, b1⟩
theorem Deal.num {H : Hp} {d l : Addr} {b : Int} {xs : List Int} (ndl : d ≠ l) (hl : H l = some (.lst (xs.map V.int))) (hlen : xs.length ≤ 48)
    (hpos : ∀ x ∈ xs, 0 ≤ x) (b0 : 0 ≤ b) (b1 : b < 2147483647) : Deal (upd H d (.lst [.ref l, .int b])) d l :=
  ⟨xs, b, ndl, upd_same, by rw [upd_ne (fun e => ndl e.symm)]; exact hl, hlen, hpos, b0, b1⟩

/-! ### the promises -/
def spAny : Sp := fun vs H Q _ => ∃ (d l : Addr) (n : Int), vs = [.ref d, .int n] ∧ Deal H d l ∧ 0 < n ∧ n < 2 ^ 64 ∧
  ∀ (r : Int) (H' : Hp), 0 ≤ r → r < n → Deal H' d l → But d l H H' → Q (.int r) H'
def spDraw (K : PySem.W.Frag) : Sp := fun vs H Q _ => ∃ (a : Addr) (ns : List Int) (z : Int), vs = [.ref a, .int z] ∧ SqL K H a (ns.map V.int) ∧
  ns.length ≤ 63 ∧ 0 ≤ z ∧ z ≤ 100 ∧ ∀ (d l : Addr) (H' : Hp), H d = none → H l = none → Deal H' d l → Same H H' → Q (.ref d) H'
def spOf (K : PySem.W.Frag) : Sp := fun vs H Q _ => ∃ (d l a : Addr) (xs : List V), vs = [.ref d, .ref a] ∧ Deal H d l ∧
  (∀ H', But d l H H' → SqL K H' a xs) ∧ 0 < xs.length ∧ xs.length ≤ 1000 ∧
  ∀ (i : Nat) (x : V) (H' : Hp), xs[i]? = some x → Deal H' d l → But d l H H' → Q x H'
theorem map_at {ns : List Int} {i : Nat} {x : V} (h : (ns.map V.int)[i]? = some x) : ∃ n, ns[i]? = some n ∧ x = .int n := by
  rw [List.getElem?_map] at h
  cases e : ns[i]? with
  | none =>
    rw [e] at h
    cases h
  | some n =>
    rw [e] at h
    exact ⟨n, rfl, (Option.some.inj h).symm⟩
theorem cut_ints (ns : List Int) (hi : Int) : ∃ ms : List Int, cutV (ns.map V.int) none (some hi) = ms.map V.int ∧ ms.length ≤ ns.length := by
  refine ⟨(ns.drop (HT.sIx ns.length 0 none)).take (HT.sIx ns.length ns.length (some hi) - HT.sIx ns.length 0 none), ?_, ?_⟩
  · unfold cutV
    rw [List.length_map, List.map_take, List.map_drop]
  · rw [List.length_take, List.length_drop]
    omega
theorem cut48 (ns : List Int) : ∃ ms : List Int, cutV (ns.map V.int) none (some 48) = ms.map V.int ∧ ms.length ≤ 48 := by
  refine ⟨ns.take 48, ?_, by rw [List.length_take]; omega⟩
  unfold cutV
  rw [HT.sIx_none, show HT.sIx (ns.map V.int).length (ns.map V.int).length (some 48) = min 48 (ns.map V.int).length from HT.sIx_nat _ _ 48, List.drop_zero, Nat.sub_zero, List.length_map, List.map_take]
  by_cases h : 48 ≤ ns.length
  · rw [Nat.min_eq_left h]
  · rw [Nat.min_eq_right (by omega), List.take_of_length_le (by rw [List.length_map]; omega), List.take_of_length_le (by rw [List.length_map]; omega)]
/-! ### calls by keywords alone, the last parameter's first -/
def revK {α : Type} : List α → List α → List α
  | [], ws => ws.reverse
  | _ :: _, _ => []
theorem kb_rev {K : PySem.W.Frag} {x qual : Str} {st : Stmt} {f : Addr} {fd : FuncData} {ps ks : List Str} (F : Fun K x qual st f fd) (hp : ps ≠ []) (hk : ks.length = ps.length)
    (h : ∀ (kV doc pm : Value) (an : Option Addr) (cdv ct : Value) (ws : List Value), ws.length = ks.length →
      bindArgs (PySem.W.fnOf x qual (defArgs st) (defBody st) (defScope st) .none kV doc pm an cdv ct) ⟨[], ks.zip ws⟩ = pure (ps.zip ws.reverse)) :
    KBinds K fd ps ks revK revK := by
  obtain ⟨oc, od, kV, doc, pm, an, cdv, ct, osl, rfl, lk, hcd⟩ := F.ex
  constructor
  · intro s us ws _ hl
    cases us with
    | cons u r =>
      exact absurd (List.eq_nil_of_length_eq_zero hl.symm) hp
    | nil =>
      have hl' : ws.reverse.length = ps.length := hl
      rw [List.length_reverse] at hl'
      exact .of_eq (h kV doc pm an cdv ct ws (hl'.trans hk.symm))
  · intro vs us zs ws r1 r2
    cases r1 with
    | nil => exact r2.reverse
    | cons _ _ => exact .nil
end Zc
end

section
set_option maxHeartbeats 2000000
/-! enumerate of a text: its signs, each in a new pair with its place. -/
namespace Zc
open PySem PySem.Spec PyProof.Rows L2
def Its2 (z : Str) : It :=
  ⟨fun i _ => i < z.cps.size,
   fun i H v H' => ∃ T c, v = .ref T ∧ H T = none ∧ z.cps[i]? = some c ∧ H' = upd H T (.tup [.int (i : Nat), .str ⟨#[c]⟩]),
   fun i _ => z.cps.size ≤ i⟩
theorem draws_of {prog : Program} {w : World} {A : Around} (hh : A.handled = none) (it : Addr) (z : Str) (t : Tok) :
    Draws prog w A it [it] z.cps.size (fun i v => ∃ c u, z.cps[i]? = some c ∧ v = .str ⟨#[c]⟩ u) (fun i h => h.IsStrIter it (strIterType z) z t i) := by
  cases ha : z.cps.all (· < 128) with
  | true =>
    have e : strIterType z = "str_ascii_iterator" := by simp [strIterType, ha]
    rw [e]
    exact Draws.strAscii hh it z t
  | false =>
    have e : strIterType z = "str_iterator" := by simp [strIterType, ha]
    rw [e]
    exact Draws.strWide hh it z t
theorem turn_enumS {P : Program} {w : World} {K : PySem.W.Frag} {elts : List Expr} {kk : Nat} {tpos : Pos} (z : Str) (t : Tok) (e it : Addr) (hne : e ≠ it) :
    Turn P w K (.Tuple elts kk tpos) (Its2 z) [e, it] e (fun i h => (∃ old, IsEnum h e it ((i : Nat) : Int) old) ∧ h.IsStrIter it (strIterType z) z t i) where
  mem := List.mem_cons_self
  obj := by
    rintro i h ⟨⟨old, he⟩, ⟨o, ho, _, hd⟩⟩ b hb
    rcases List.mem_cons.mp hb with rfl | hb
    · refine ⟨_, he, ?_⟩
      intro v q
      cases q
    · rw [List.mem_singleton.mp hb]
      refine ⟨o, ho, ?_⟩
      intro v q
      rw [hd] at q
      cases q
  keep := by
    rintro i h h' ⟨⟨old, he⟩, ⟨o, ho, r⟩⟩ k
    exact ⟨⟨old, k e List.mem_cons_self _ he⟩, ⟨o, k it (by simp) o ho, r⟩⟩
  item := by
    intro X hP hw hK hc i pins s σ H E I hf st hg
    subst hP hw hK
    obtain ⟨⟨old, he⟩, hit⟩ := st
    have hel : e < s.heap.objs.size := Heap.lt_size he
    have hil : it < s.heap.objs.size := by
      obtain ⟨_, q, _⟩ := hit
      exact Heap.lt_size q
    have hh : X.A.in1.handled = none := I.ok.hd hc
    refine wpAny_pyNext_enum_itemD (draws_of hh it z t) he hit hg hne (fun q => hne (List.mem_singleton.mp q)) ?_
    intro x h' tk hx ho hit' hT hsz hk
    obtain ⟨c, u, hcx, rfl⟩ := hx
    refine ⟨_, rfl, wpAny_letOwnedTupleGo_enum (s := { s with heap := h', toks := tk + 1 }) ho ?_⟩
    intro h'' he' sb
    have hT2 : h''.get? s.heap.objs.size = some { cls := .type "tuple", data := .seq #[.int i tk, .str ⟨#[c]⟩ u] } :=
      (sb.2 _ (Nat.ne_of_gt hel)).trans hT
    have fresh : ObjOk X.prog X.w (upd H s.heap.objs.size (.tup [.int (i : Nat), .str ⟨#[c]⟩])) h'' s.heap.objs.size (.tup [.int (i : Nat), .str ⟨#[c]⟩]) := by
      refine ⟨by show 2 ≤ sizeLine; decide, [.int i tk, .str ⟨#[c]⟩ u], ?_, ⟨_, hT2, rfl, _, rfl⟩⟩
      exact .cons ⟨_, rfl⟩ (.cons ⟨_, rfl⟩ .nil)
    have J : Inv X pins σ (upd H s.heap.objs.size (.tup [.int (i : Nat), .str ⟨#[c]⟩])) { s with heap := h'', toks := tk + 1 } := by
      refine I.turnedNew (ch := [e, it]) ?_ hf (Nat.le_refl _) fresh
      intro b ob hb q
      have b1 : b ≠ e := fun y => hb (by rw [y]; exact List.mem_cons_self)
      have b2 : b ≠ it := fun y => hb (by rw [y]; exact List.mem_cons_of_mem _ List.mem_cons_self)
      exact (sb.2 b b1).trans (hk b ob b1 b2 q)
    refine ⟨.ref s.heap.objs.size, _, J, rfl, ⟨_, c, rfl, I.hok.fresh (Nat.le_refl _), hcx, rfl⟩, ⟨⟨.str ⟨#[c]⟩ u, ?_⟩, ?_⟩, ?_⟩
    · rw [show ((i + 1 : Nat) : Int) = (i : Int) + 1 by omega]
      exact he'
    · obtain ⟨o, q, r⟩ := hit'
      exact ⟨o, (sb.2 it (Ne.symm hne)).trans q, r⟩
    · intro b hb
      have lt : b < s.heap.objs.size := by
        rcases List.mem_cons.mp hb with y | y
        · rw [y]
          exact hel
        · rw [List.mem_singleton.mp y]
          exact hil
      rw [upd_ne (Nat.ne_of_lt lt)]
      exact (hf b hb).1
  done := by
    intro X hP hw hK hc i pins s σ H E I hf st hg
    subst hP hw hK
    obtain ⟨⟨old, he⟩, hit⟩ := st
    have hh : X.A.in1.handled = none := I.ok.hd hc
    obtain ⟨f0, f1, f2, f3, f4, f5⟩ := hf it (by simp)
    have D := draws_of (prog := X.prog) (w := X.w) hh it z t
    have D2 : Draws X.prog X.w X.A.in1 it [it] z.cps.size (fun i v => ∃ c u, z.cps[i]? = some c ∧ v = .str ⟨#[c]⟩ u) (fun j h => h.IsStrIter it (strIterType z) z t i ∧ j = z.cps.size ∨ h.IsStrIter it (strIterType z) z t j) := by
      refine ⟨?_, ?_, ?_, ?_⟩
      · rintro j h (⟨q, _⟩ | q)
        · exact D.live _ _ q
        · exact D.live _ _ q
      · rintro j h h' (⟨q, r⟩ | q) k
        · exact .inl ⟨D.frame _ _ _ q k, r⟩
        · exact .inr (D.frame _ _ _ q k)
      · rintro j s Q E hj (⟨_, r⟩ | q) hQ
        · omega
        · exact D.item j s Q E hj q fun x h' tk a b c => hQ x h' tk a (.inr b) c
      · rintro s Q E (⟨q, _⟩ | q) hE
        · have hx : z.cps[i]? = none := Array.getElem?_eq_none hg
          cases ha : z.cps.all (· < 128) with
          | true =>
            rw [show strIterType z = "str_ascii_iterator" by simp [strIterType, ha]] at q
            exact wpAny_nextOf_ascii_end hh q hx hE
          | false =>
            rw [show strIterType z = "str_iterator" by simp [strIterType, ha]] at q
            exact wpAny_nextOf_wide_end hh q hx hE
        · exact D.done s Q E q hE
    exact wpAny_pyNext_enum_endD D2 he (.inl ⟨hit, rfl⟩) fun h' eb => ⟨rfl, I.turned (t' := s.toks) (fun b o hb q => eb b o hb q) f0 f1 f3 f4 f5⟩
  self := by
    rintro A i s Q E ⟨⟨_, he⟩, _⟩ h
    exact wpAny_pyIter_enum he h
def iEnumS (ta : TA) : TI := fun σ H R => ta σ H fun vs H1 => ∃ z, vs = [.str z] ∧ R (Its2 z) H1
theorem pi_enumS {X : Cx} {e : Expr} {ta : TA} {p pos tpos : Pos} {elts : List Expr} {kk : Nat} (hg : Gl X "enumerate") (hm : X.mg "enumerate" = none) (ha : PA X [e] ta)
    (hs : starEach [e] X.env = [(false, eval e X.env)] := by rfl) : PI X (.Tuple elts kk tpos) (.Call (.Name "enumerate" p) [e] [] pos) (iEnumS ta) := by
  constructor
  intro pins s σ H R I h
  refine Call_ (ld_blt I hg hm boot_enumerate (PyProof.Rows.callWith_type1
    (thn (ha.run pos pins s σ H _ I h) ?_) hs rfl))
  rintro us s1 ⟨vs, H1, I1, r1, z, rfl, q⟩
  obtain ⟨u, rfl, t, rfl⟩ := vals1 r1
  refine call_enumerate_str fun h' he hit hsz hk => wpAny_pyIter_enum he ?_
  have I2 : Inv X pins σ H1 { s1 with heap := h' } := I1.kept (t' := s1.toks) hk
  refine ⟨s1.heap.objs.size + 1, [s1.heap.objs.size + 1, s1.heap.objs.size], _, _, H1, rfl, I2, turn_enumS z t (s1.heap.objs.size + 1) s1.heap.objs.size (Nat.succ_ne_self _), ⟨⟨.none, he⟩, hit⟩, ?_, q⟩
  intro b hb
  have le : s1.heap.objs.size ≤ b := by
    rcases List.mem_cons.mp hb with y | y
    · rw [y]
      exact Nat.le_succ _
    · rw [List.mem_singleton.mp y]
      exact Nat.le_refl _
  exact I1.fpOk le (I1.hok.fresh le)
theorem walk_enumS {z : Str} : Walk (Its2 z) z.cps.size (fun _ => True)
    (fun i H v H' => ∃ T c, v = .ref T ∧ H T = none ∧ z.cps[i]? = some c ∧ H' = upd H T (.tup [.int (i : Nat), .str ⟨#[c]⟩])) :=
  ⟨fun _ _ hi _ => hi, fun _ _ => Nat.le_refl _, fun _ _ _ _ _ _ y => y⟩
end Zc
end

section
set_option maxHeartbeats 1000000
/-! Data of any depth: kept from heap to heap, shown, compared. -/
namespace Zc
open PySem PySem.Spec PyProof.Rows L2
section
variable {K : PySem.W.Frag} {H H' : Hp}
theorem Same.seqT {a : Addr} {xs : List V} (e : Same H H') (h : SqT K H a xs) : SqT K H' a xs := by
  rcases h with (h | ⟨o, h⟩) | h
  · exact .inl (.inl (e _ _ h))
  · exact .inl (.inr ⟨o, e _ _ h⟩)
  · exact .inr h
mutual
theorem dp_same (e : Same H H') : ∀ (d : PyData) (v : V), Dp K H v d → Dp K H' v d
  | .none, _, h => by cases h; exact .non
  | .bool b, _, h => by cases h; exact .bl b
  | .int i, _, h => by cases h; exact .int i
  | .str x, _, h => by cases h; exact .str x
  | .list ds, _, h => by
    cases h with
    | lst hs ha => exact .lst (e.seq hs) (dpAll_same e ds _ ha)
  | .tuple ds, _, h => by
    cases h with
    | tup hs ha => exact .tup (Same.seqT e hs) (dpAll_same e ds _ ha)
  | .dict _, _, h => by cases h
theorem dpAll_same (e : Same H H') : ∀ (ds : List PyData) (vs : List V), DpAll K H vs ds → DpAll K H' vs ds
  | [], _, h => by cases h; exact .nil
  | d :: ds, _, h => by
    cases h with
    | cons h1 h2 => exact .cons (dp_same e d _ h1) (dpAll_same e ds _ h2)
end
theorem Dp.keep {d : PyData} {v : V} (h : Dp K H v d) (e : Same H H') : Dp K H' v d := dp_same e d v h
theorem DpAll.keep {ds : List PyData} {vs : List V} (h : DpAll K H vs ds) (e : Same H H') : DpAll K H' vs ds := dpAll_same e ds vs h
theorem DpAll.len : ∀ {ds : List PyData} {vs : List V}, DpAll K H vs ds → vs.length = ds.length
  | [], _, h => by cases h; rfl
  | d :: ds, _, h => by
    cases h with
    | cons h1 h2 => rw [List.length_cons, List.length_cons, DpAll.len h2]
theorem DpAll.get : ∀ {ds : List PyData} {vs : List V} {i : Nat} {x : V}, DpAll K H vs ds → vs[i]? = some x → ∃ d, ds[i]? = some d ∧ Dp K H x d
  | [], _, i, x, h, e => by cases h; cases e
  | d :: ds, _, 0, x, h, e => by
    cases h with
    | cons h1 h2 =>
      cases e
      exact ⟨d, rfl, h1⟩
  | d :: ds, _, i + 1, x, h, e => by
    cases h with
    | cons h1 h2 => exact DpAll.get (i := i) h2 e
theorem DpAll.at : ∀ {ds : List PyData} {vs : List V} {i : Nat} {d : PyData}, DpAll K H vs ds → ds[i]? = some d → ∃ x, vs[i]? = some x ∧ Dp K H x d
  | [], _, i, x, h, e => by cases e
  | d :: ds, _, 0, x, h, e => by
    cases h with
    | cons h1 h2 =>
      cases e
      exact ⟨_, rfl, h1⟩
  | d :: ds, _, i + 1, x, h, e => by
    cases h with
    | cons h1 h2 => exact DpAll.at (i := i) h2 e
theorem DpAll.app : ∀ {ds es : List PyData} {vs us : List V}, DpAll K H vs ds → DpAll K H us es → DpAll K H (vs ++ us) (ds ++ es)
  | [], es, _, us, h, g => by cases h; exact g
  | d :: ds, es, _, us, h, g => by
    cases h with
    | cons h1 h2 => exact .cons h1 (DpAll.app h2 g)
theorem DpAll.snoc {ds : List PyData} {vs : List V} {d : PyData} {v : V} (h : DpAll K H vs ds) (g : Dp K H v d) : DpAll K H (vs ++ [v]) (ds ++ [d]) := DpAll.app h (.cons g .nil)
theorem DpAll.dropLast : ∀ {ds : List PyData} {vs : List V}, DpAll K H vs ds → DpAll K H vs.dropLast ds.dropLast
  | [], _, h => by cases h; exact .nil
  | [d], _, h => by
    cases h with
    | cons h1 h2 =>
      cases h2
      exact .nil
  | d :: e :: ds, _, h => by
    cases h with
    | cons h1 h2 =>
      cases h2 with
      | cons h3 h4 => exact .cons h1 (DpAll.dropLast (.cons h3 h4))
theorem DpAll.take : ∀ {ds : List PyData} {vs : List V} (k : Nat), DpAll K H vs ds → DpAll K H (vs.take k) (ds.take k)
  | _, _, 0, h => by
    rw [List.take_zero, List.take_zero]
    exact .nil
  | [], _, k + 1, h => by cases h; exact .nil
  | d :: ds, _, k + 1, h => by
    cases h with
    | cons h1 h2 => exact .cons h1 (DpAll.take k h2)
theorem DpAll.drop : ∀ {ds : List PyData} {vs : List V} (k : Nat), DpAll K H vs ds → DpAll K H (vs.drop k) (ds.drop k)
  | _, _, 0, h => h
  | [], _, k + 1, h => by cases h; exact .nil
  | d :: ds, _, k + 1, h => by
    cases h with
    | cons h1 h2 => exact DpAll.drop k h2
theorem dp_strs {α : Type} (g : α → Str) : ∀ ss : List α, DpAll K H (ss.map fun a => V.str (g a)) (ss.map fun a => PyData.str (g a))
  | [] => .nil
  | s :: r => .cons (.str _) (dp_strs g r)
theorem dp_intsG {α : Type} (g : α → Int) : ∀ ss : List α, DpAll K H (ss.map fun a => V.int (g a)) (ss.map fun a => PyData.int (g a))
  | [] => .nil
  | s :: r => .cons (.int _) (dp_intsG g r)
theorem strs_of {α : Type} (g : α → Str) : ∀ (ss : List α) (vs : List V), DpAll K H vs (ss.map fun a => PyData.str (g a)) → vs = ss.map fun a => V.str (g a)
  | [], _, h => by cases h; rfl
  | s :: r, _, h => by
    cases h with
    | cons h1 h2 =>
      cases h1
      rw [strs_of g r _ h2]
      rfl
theorem ints_of {α : Type} (g : α → Int) : ∀ (ss : List α) (vs : List V), DpAll K H vs (ss.map fun a => PyData.int (g a)) → vs = ss.map fun a => V.int (g a)
  | [], _, h => by cases h; rfl
  | s :: r, _, h => by
    cases h with
    | cons h1 h2 =>
      cases h1
      rw [ints_of g r _ h2]
      rfl
end

/-! ### a heap without some addresses -/
open Classical in
noncomputable def cut (S : Addr → Prop) (H : Hp) : Hp := fun b => if S b then none else H b
theorem cut_in {S : Addr → Prop} {H : Hp} {b : Addr} {o : HO} (h : cut S H b = some o) : ¬ S b ∧ H b = some o := by
  unfold cut at h
  split at h
  · cases h
  · rename_i n
    exact ⟨n, h⟩
theorem cut_of {S : Addr → Prop} {H : Hp} {b : Addr} {o : HO} (n : ¬ S b) (h : H b = some o) : cut S H b = some o := by
  unfold cut
  rw [if_neg n]
  exact h
theorem same_cut {S S' : Addr → Prop} {H H' : Hp} (h : ∀ b o, ¬ S b → H b = some o → ¬ S' b ∧ H' b = some o) : Same (cut S H) (cut S' H') := fun b o e => by
  obtain ⟨n, e'⟩ := cut_in e
  obtain ⟨n', e2⟩ := h b o n e'
  exact cut_of n' e2
theorem cut_same {S : Addr → Prop} {H H' : Hp} (s : Same H H') : Same (cut S H) (cut S H') := same_cut fun b o n e => ⟨n, s b o e⟩
theorem cut_less {S S' : Addr → Prop} {H : Hp} (s : ∀ b, S' b → S b) : Same (cut S H) (cut S' H) := same_cut fun b o n e => ⟨fun x => n (s b x), e⟩
theorem cut_full {S : Addr → Prop} {H : Hp} : Same (cut S H) H := fun b o e => (cut_in e).2
/-- the deal's two addresses -/
def dl (d l : Addr) : Addr → Prop := fun b => b = d ∨ b = l
theorem cut_but {d l : Addr} {H H' : Hp} (h : But d l H H') : Same (cut (dl d l) H) (cut (dl d l) H') :=
  same_cut fun b o n e => ⟨n, h b o (fun x => n (.inl x)) (fun x => n (.inr x)) e⟩
/-- one more address left out, that was free when the heap was H -/
def orA (S : Addr → Prop) (a : Addr) : Addr → Prop := fun b => S b ∨ b = a
theorem cut_or {S : Addr → Prop} {H H' : Hp} {a : Addr} (n : H a = none) (s : Same H H') : Same (cut S H) (cut (orA S a) H') :=
  same_cut fun b o m e => by
    refine ⟨fun x => ?_, s b o e⟩
    rcases x with x | x
    · exact m x
    · rw [x, n] at e
      cases e
theorem cut_upd {S : Addr → Prop} {H : Hp} {a : Addr} {o : HO} (h : S a) : Same (cut S H) (cut S (upd H a o)) :=
  same_cut fun b u n e => ⟨n, by rw [upd_ne (fun x => n (by rw [x]; exact h))]; exact e⟩
theorem cut_at {S : Addr → Prop} {H : Hp} {a : Addr} {o : HO} (h : ¬ S a) : cut S (upd H a o) a = some o := cut_of h upd_same

/-! ### how long data are when they are shown; what can be compared -/
mutual
def bulk : PyData → Nat
  | .none => 4
  | .bool _ => 5
  | .int _ => 66
  | .str x => 10 * x.length + 2
  | .list xs => bulkAll xs + 3
  | .tuple xs => bulkAll xs + 3
  | .dict _ => 0
def bulkAll : List PyData → Nat
  | [] => 0
  | x :: xs => bulk x + 2 + bulkAll xs
end
mutual
def plainD : PyData → Bool
  | .none => true
  | .bool _ => true
  | .int i => decide (i.natAbs < 2 ^ 64)
  | .str x => PyData.strOk x
  | .list xs => plainAll xs
  | .tuple xs => plainAll xs
  | .dict _ => false
def plainAll : List PyData → Bool
  | [] => true
  | x :: xs => plainD x && plainAll xs
end
mutual
theorem plain_lay : ∀ d : PyData, plainD d = true → d.canLay0 = true ∧ d.hasDict = false ∧ d.showable = true
  | .none, _ => by simp [PyData.canLay0, PyData.hasDict, PyData.showable]
  | .bool _, _ => by simp [PyData.canLay0, PyData.hasDict, PyData.showable]
  | .int i, h => by
    have h' : i.natAbs < 2 ^ 64 := by simpa [plainD] using h
    have : i.natAbs.log2 < 64 := PySem.Flt.log2_lt_of (by decide) h'
    simp only [PyData.canLay0, PyData.hasDict, PyData.showable, true_and, decide_eq_true_eq]
    omega
  | .str x, h => by
    have h' : PyData.strOk x = true := by simpa [plainD] using h
    simp [PyData.canLay0, PyData.hasDict, PyData.showable, h']
  | .list xs, h => by
    have h' : plainAll xs = true := by simpa [plainD] using h
    simpa [PyData.canLay0, PyData.hasDict, PyData.showable] using plainAll_lay xs h'
  | .tuple xs, h => by
    have h' : plainAll xs = true := by simpa [plainD] using h
    simpa [PyData.canLay0, PyData.hasDict, PyData.showable] using plainAll_lay xs h'
  | .dict _, h => by simp [plainD] at h
theorem plainAll_lay : ∀ ds : List PyData, plainAll ds = true → PyData.canLayAll0 ds = true ∧ PyData.hasDictAll ds = false ∧ PyData.showableAll ds = true
  | [], _ => by simp [PyData.canLayAll0, PyData.hasDictAll, PyData.showableAll]
  | d :: ds, h => by
    have h' : plainD d = true ∧ plainAll ds = true := by simpa [plainAll] using h
    obtain ⟨a, b, c⟩ := plain_lay d h'.1
    obtain ⟨a', b', c'⟩ := plainAll_lay ds h'.2
    simp [PyData.canLayAll0, PyData.hasDictAll, PyData.showableAll, a, b, c, a', b', c']
end
theorem piled_tuple (ts : List Str) : (tupleText ts).length ≤ piled ts + 3 := by
  unfold tupleText
  rw [strLen_append, strLen_append]
  have e1 : (("(" : String) : Str).length = 1 := rfl
  have e2 : ((if ts.length == 1 then ",)" else ")" : String) : Str).length ≤ 2 := by
    split
    · exact Nat.le_refl 2
    · exact Nat.le_succ 1
  have e3 : (Str.join ", " ts).length ≤ piled ts := by
    cases ts with
    | nil => exact Nat.zero_le _
    | cons t r =>
      have := join_length_add (t :: r) (by simp)
      omega
  omega
theorem piled_list (ts : List Str) : (listText ts).length ≤ piled ts + 3 := by
  cases ts with
  | nil => show 2 ≤ 0 + 3; decide
  | cons t r =>
    have h := textFrom_length_pos r 1 (("[" : Str) ++ (if (0 : Nat) > 0 then ", " else "" : String) ++ t) (Nat.succ_pos 0)
    have e : ((("[" : Str) ++ (if (0 : Nat) > 0 then ", " else "" : String) ++ t)).length = 1 + t.length := by
      rw [strLen_append, strLen_append]; rfl
    have hX : (listText (t :: r)).length = (textFrom 0 "[" (t :: r)).length + 1 := by
      show (textFrom 0 "[" (t :: r) ++ "]").length = _
      rw [strLen_append]
      rfl
    have hY : textFrom 0 "[" (t :: r) = textFrom 1 (("[" : Str) ++ (if (0 : Nat) > 0 then ", " else "" : String) ++ t) r := rfl
    rw [hX, hY, h, e, piled_cons]
    omega
mutual
theorem bulk_shown : ∀ d : PyData, plainD d = true → d.shown.length ≤ bulk d
  | .none, _ => by simp only [PyData.shown, bulk]; decide
  | .bool b, _ => by cases b <;> (simp only [PyData.shown, bulk]; decide)
  | .int i, h => by
    have h' : i.natAbs < 2 ^ 64 := by simpa [plainD] using h
    have h2 : i.natAbs.log2 < 64 := PySem.Flt.log2_lt_of (by decide) h'
    have h3 := int_text_length_le (a := i) (k := 64) (by decide) h2
    simp only [PyData.shown, bulk]
    show (Str.ofString (toString i)).length ≤ 66
    rw [PySem.ofString_length]
    omega
  | .str x, h => by
    have h' : PyData.strOk x = true := by simpa [plainD] using h
    simp only [PyData.shown, bulk]
    refine PySem.StrLaws.reprText_len x fun c hc => ?_
    unfold PyData.strOk at h'
    rw [← Array.all_toList, List.all_eq_true] at h'
    have h2 : c < 1114112 := of_decide_eq_true (h' c hc)
    have h3 : (16 : Nat) ^ 8 = 4294967296 := rfl
    omega
  | .list xs, h => by
    have h' : plainAll xs = true := by simpa [plainD] using h
    simp only [PyData.shown, bulk]
    exact Nat.le_trans (piled_list _) (Nat.add_le_add_right (bulkAll_shown xs h') 3)
  | .tuple xs, h => by
    have h' : plainAll xs = true := by simpa [plainD] using h
    simp only [PyData.shown, bulk]
    exact Nat.le_trans (piled_tuple _) (Nat.add_le_add_right (bulkAll_shown xs h') 3)
  | .dict _, h => by simp [plainD] at h
theorem bulkAll_shown : ∀ ds : List PyData, plainAll ds = true → piled (PyData.shownAll ds) ≤ bulkAll ds
  | [], _ => by simp [PyData.shownAll, bulkAll, piled]
  | d :: ds, h => by
    have h' : plainD d = true ∧ plainAll ds = true := by simpa [plainAll] using h
    have a := bulk_shown d h'.1
    have b := bulkAll_shown ds h'.2
    simp only [PyData.shownAll, bulkAll, piled_cons]
    omega
end
theorem plain_shaped {d : PyData} (h : plainD d = true) (hd : d.depth ≤ 64) : SeqAt.shaped d = true := by
  unfold SeqAt.shaped
  rw [(plain_lay d h).1, decide_eq_true hd]
  rfl
/-- repr of plain data -/
theorem repr_ans {K : PySem.W.Frag} {H : Hp} {Q : VK} {v : V} {d : PyData} (hD : Dp K H v d) (hdsp : isDisplay d = true) (hp : plainD d = true) (hd : d.depth < 40) (hb : bulk d ≤ sizeLine) (q : Q (.str d.shown) H) :
    ∃ v' d', [v] = [v'] ∧ isDisplay d' = true ∧ Dp K H v' d' ∧ d'.showable = true ∧ d'.hasDict = false ∧ d'.depth < 40 ∧ d'.shown.length ≤ sizeLine ∧ Q (.str d'.shown) H :=
  ⟨v, d, rfl, hdsp, hD, (plain_lay d hp).2.2, (plain_lay d hp).2.1, hd, Nat.le_trans (bulk_shown d hp) hb, q⟩
theorem ne_ans {K : PySem.W.Frag} {H : Hp} {Q : VK} {v u : V} {d e : PyData} (hD : Dp K H v d) (hE : Dp K H u e) (hp : plainD d = true) (hq : plainD e = true) (hd : d.depth ≤ 64) (he : e.depth ≤ 64) (q : Q (.bl (!PyData.eqv d e)) H) : rNeD K v u H Q :=
  ⟨d, e, hD, hE, plain_shaped hp hd, plain_shaped hq he, q⟩
theorem eq_ans {K : PySem.W.Frag} {H : Hp} {Q : VK} {v u : V} {d e : PyData} (hD : Dp K H v d) (hE : Dp K H u e) (hp : plainD d = true) (hq : plainD e = true) (hd : d.depth ≤ 64) (he : e.depth ≤ 64) (q : Q (.bl (PyData.eqv d e)) H) : rEqD K v u H Q :=
  ⟨d, e, hD, hE, plain_shaped hp hd, plain_shaped hq he, q⟩
theorem eqv_self {d : PyData} (h : plainD d = true) : PyData.eqv d d = true := SeqAt.eqv_refl d (plain_lay d h).1
/-! ### lists of texts, of ints -/
theorem plain_strs {α : Type} (g : α → Str) : ∀ ss : List α, (∀ s ∈ ss, PyData.strOk (g s) = true) → plainAll (ss.map fun a => PyData.str (g a)) = true
  | [], _ => by simp [plainAll]
  | s :: r, h => by
    have h1 := h s List.mem_cons_self
    have h2 := plain_strs g r fun x hx => h x (List.mem_cons_of_mem _ hx)
    simp [plainAll, plainD, h1, h2]
theorem plain_ints {α : Type} (g : α → Int) : ∀ ss : List α, (∀ s ∈ ss, (g s).natAbs < 2 ^ 64) → plainAll (ss.map fun a => PyData.int (g a)) = true
  | [], _ => by simp [plainAll]
  | s :: r, h => by
    have h1 := h s List.mem_cons_self
    have h2 := plain_ints g r fun x hx => h x (List.mem_cons_of_mem _ hx)
    simp only [List.map_cons, plainAll, plainD, decide_eq_true h1, h2, Bool.and_self]
theorem depth_flat : ∀ ds : List PyData, (∀ d ∈ ds, d.depth = 0) → PyData.depthAll ds = 0
  | [], _ => by simp [PyData.depthAll]
  | d :: r, h => by
    have h1 := h d List.mem_cons_self
    have h2 := depth_flat r fun x hx => h x (List.mem_cons_of_mem _ hx)
    simp [PyData.depthAll, h1, h2]
theorem depth_strs {α : Type} (g : α → Str) (ss : List α) : PyData.depthAll (ss.map fun a => PyData.str (g a)) = 0 :=
  depth_flat _ fun d hd => by
    obtain ⟨a, _, rfl⟩ := List.mem_map.mp hd
    simp [PyData.depth]
theorem depth_intsG {α : Type} (g : α → Int) (ss : List α) : PyData.depthAll (ss.map fun a => PyData.int (g a)) = 0 :=
  depth_flat _ fun d hd => by
    obtain ⟨a, _, rfl⟩ := List.mem_map.mp hd
    simp [PyData.depth]
theorem bulk_strs {α : Type} (g : α → Str) : ∀ ss : List α, bulkAll (ss.map fun a => PyData.str (g a)) = 10 * (ss.map fun a => (g a).length).sum + 4 * ss.length
  | [] => by simp [bulkAll]
  | s :: r => by
    simp only [List.map_cons, bulkAll, bulk, bulk_strs g r, List.sum_cons, List.length_cons]
    omega
theorem bulk_intsG {α : Type} (g : α → Int) : ∀ ss : List α, bulkAll (ss.map fun a => PyData.int (g a)) = 68 * ss.length
  | [] => by simp [bulkAll]
  | s :: r => by
    simp only [List.map_cons, bulkAll, bulk, bulk_intsG g r, List.length_cons]
    omega
theorem str_len_mk (l : List Nat) : (⟨l.toArray⟩ : Str).length = l.length := by simp [Str.length]
theorem strOk_mk {l : List Nat} (h : ∀ c ∈ l, c < 0x110000) : PyData.strOk ⟨l.toArray⟩ = true := by
  unfold PyData.strOk
  rw [← Array.all_toList, List.all_eq_true]
  intro c hc
  exact decide_eq_true (h c (by simpa using hc))
end Zc
end

section
set_option maxHeartbeats 1000000
/-! What data at a value look like. -/
namespace Zc
open PySem PySem.Spec PyProof.Rows L2
section
variable {K : PySem.W.Frag} {H H' : Hp}
theorem dp_int {v : V} {i : Int} (h : Dp K H v (.int i)) : v = .int i := by cases h; rfl
theorem dp_str {v : V} {x : Str} (h : Dp K H v (.str x)) : v = .str x := by cases h; rfl
theorem dp_bl {v : V} {x : Bool} (h : Dp K H v (.bool x)) : v = .bl x := by cases h; rfl
theorem dp_tup {v : V} {ds : List PyData} (h : Dp K H v (.tuple ds)) : ∃ t xs, v = .ref t ∧ SqT K H t xs ∧ DpAll K H xs ds := by
  cases h with
  | tup a b => exact ⟨_, _, rfl, a, b⟩
theorem dp_lst {v : V} {ds : List PyData} (h : Dp K H v (.list ds)) : ∃ t xs, v = .ref t ∧ SqL K H t xs ∧ DpAll K H xs ds := by
  cases h with
  | lst a b => exact ⟨_, _, rfl, a, b⟩
theorem dp_two {vs : List V} {d e : PyData} (h : DpAll K H vs [d, e]) : ∃ v u, vs = [v, u] ∧ Dp K H v d ∧ Dp K H u e := by
  cases h with
  | cons a b =>
    cases b with
    | cons c b =>
      cases b
      exact ⟨_, _, rfl, a, c⟩
theorem dp_pair {v : V} {d e : PyData} (h : Dp K H v (.tuple [d, e])) : ∃ t x y, v = .ref t ∧ SqT K H t [x, y] ∧ Dp K H x d ∧ Dp K H y e := by
  obtain ⟨t, xs, rfl, a, b⟩ := dp_tup h
  obtain ⟨x, y, rfl, c, d⟩ := dp_two b
  exact ⟨t, x, y, rfl, a, c, d⟩
theorem dp_map {α : Type} {f : α → PyData} {vs : List V} {ss : List α} {i : Nat} {x : V} (h : DpAll K H vs (ss.map f)) (e : vs[i]? = some x) : ∃ a, ss[i]? = some a ∧ Dp K H x (f a) := by
  obtain ⟨d, h1, h2⟩ := DpAll.get h e
  rw [List.getElem?_map] at h1
  cases q : ss[i]? with
  | none =>
    rw [q] at h1
    cases h1
  | some a =>
    rw [q] at h1
    cases h1
    exact ⟨a, rfl, h2⟩
theorem dp_snoc : ∀ {ds : List PyData} {vs : List V} {d : PyData}, DpAll K H vs (ds ++ [d]) → ∃ us v, vs = us ++ [v] ∧ DpAll K H us ds ∧ Dp K H v d
  | [], _, d, h => by
    cases h with
    | cons a b =>
      cases b
      exact ⟨[], _, rfl, .nil, a⟩
  | e :: ds, _, d, h => by
    cases h with
    | cons a b =>
      obtain ⟨us, v, rfl, h1, h2⟩ := dp_snoc b
      exact ⟨_ :: us, v, rfl, .cons a h1, h2⟩
theorem set_last {α : Type} (xs : List α) (x y : α) : (xs ++ [x]).set ((xs ++ [x]).length - 1) y = xs ++ [y] := by
  induction xs with
  | nil => rfl
  | cons a r ih =>
    cases r with
    | nil => rfl
    | cons b r =>
      have e : (a :: b :: r ++ [x]).length - 1 = ((b :: r ++ [x]).length - 1) + 1 := by simp
      rw [e]
      show a :: ((b :: r ++ [x]).set _ y) = _
      rw [ih]
      rfl
theorem ix_last {n : Nat} (h : 0 < n) : L2.ixN n (-1) = some (n - 1) := by
  unfold L2.ixN
  rw [if_neg (by omega), if_pos (by omega)]
  congr 1
  omega
theorem take_snoc {α β : Type} {f : α → β} {ss : List α} {i : Nat} {a : α} (h : ss[i]? = some a) : (ss.take (i + 1)).map f = (ss.take i).map f ++ [f a] := by
  rw [List.take_add_one, h, List.map_append]
  rfl
end
end Zc
end

section
set_option maxHeartbeats 1000000
/-! Rules whose readings speak of the written part, for places within a comprehension: the written part named. -/
namespace Zc
open PySem PySem.Spec PyProof.Rows L2
section
variable {X : Cx} (K : PySem.W.Frag)
theorem pi_listK (h : X.K = K) {tg l : Expr} {tl : TE} (hl : PE X l tl) : PI X tg l (iList K tl) := h ▸ pi_list hl
theorem pi_tupK (h : X.K = K) {tg l : Expr} {tl : TE} (hl : PE X l tl) : PI X tg l (iTup K tl) := h ▸ pi_tup hl
theorem sl_tupK (h : X.K = K) : SlR X (rSlT K) := h ▸ sl_tup
theorem sl_listK (h : X.K = K) : SlR X (rSlL K) := h ▸ sl_list
theorem ix_listK (h : X.K = K) : IxR X (rIxL K) := h ▸ ix_list
theorem ix_tupK (h : X.K = K) : IxR X (rIxT K) := h ▸ ix_tup
theorem op_in_seqK (h : X.K = K) : OpR X (compareOp .In) (rIn K false) := h ▸ op_in_seq
theorem op_catTK (h : X.K = K) : OpR X (binaryOp .Add) (rCatT K) := h ▸ op_catT
theorem op_eqDK (h : X.K = K) (hu : X.A.units + 64 < cLine) : OpR X (compareOp .Eq) (rEqD K) := h ▸ op_eqD hu
theorem op_neDK (h : X.K = K) (hu : X.A.units + 64 < cLine) : OpR X (compareOp .NotEq) (rNeD K) := h ▸ op_neD hu
theorem call_len_seqK (h : X.K = K) : CallR X (.builtin "len") (fun xs H Q => ∃ p ys, xs = [.ref p] ∧ (SqL K H p ys ∨ SqT K H p ys) ∧ Q (.int ys.length) H) := h ▸ call_len_seq
theorem call_list_ofK (h : X.K = K) : CallR X (.type "list") (fun xs H Q => ∃ p ys, xs = [.ref p] ∧ (SqL K H p ys ∨ SqT K H p ys) ∧ ∀ l, H l = none → Q (.ref l) (upd H l (.lst ys))) := h ▸ call_list_of
theorem call_tuple_ofK (h : X.K = K) : CallR X (.type "tuple") (fun xs H Q => ∃ p ys, xs = [.ref p] ∧ ((SqL K H p ys ∧ ∀ l, H l = none → Q (.ref l) (upd H l (.tup ys))) ∨ (SqT K H p ys ∧ Q (.ref p) H))) := h ▸ call_tuple_of
theorem cr_sumK (h : X.K = K) (hc : X.calm = true) : CallR X (.builtin "sum") (rSum K) := h ▸ cr_sum hc
end
theorem blkOk_any {N : List Str} {sc scope : Scope} {own : List (Str × Nat)} (h : blkC N sc scope own = true) : BlkOk N sc scope own := blkOk_by h
end Zc
end

section
set_option maxHeartbeats 400000
/-! The mathematics of tokens: texts as lists of codes. -/
namespace K05
/-- a letter, a digit or _ -/
def isL (c : Nat) : Bool := c == 95 || (97 ≤ c && c ≤ 122) || (65 ≤ c && c ≤ 90) || (48 ≤ c && c ≤ 57)
/-- how many signs the token has with which a text begins -/
def tl (c : Nat) (r : List Nat) : Nat := if c = 45 ∧ r.head? = some 62 then 2 else max 1 ((c :: r).takeWhile isL).length
def noNl (c : Nat) : Bool := c != 10
theorem tl_pos (c : Nat) (r : List Nat) : 1 ≤ tl c r := by
  unfold tl
  split <;> omega
theorem tw_le {p : Nat → Bool} : ∀ l : List Nat, (l.takeWhile p).length ≤ l.length
  | [] => Nat.le_refl _
  | c :: r => by
    rw [List.takeWhile_cons]
    split
    · rw [List.length_cons, List.length_cons]
      have := tw_le (p := p) r
      omega
    · exact Nat.zero_le _
theorem tl_le (c : Nat) (r : List Nat) : tl c r ≤ (c :: r).length := by
  unfold tl
  split
  · rename_i h
    cases r with
    | nil => cases h.2
    | cons d r => simp
  · have := tw_le (p := isL) (c :: r)
    rw [List.length_cons] at *
    omega
def sk (l : List Nat) : Nat := (l.takeWhile noNl).length
theorem sk_hash (r : List Nat) : sk (35 :: r) = sk r + 1 := by
  unfold sk
  rw [List.takeWhile_cons]
  rfl
/-- the tokens of a text that begins at a place -/
def tok (i : Nat) (l : List Nat) : List (Nat × List Nat) :=
  match l with
  | [] => []
  | c :: r =>
    if c = 35 then tok (i + (sk r + 1)) (r.drop (sk r))
    else if c = 32 ∨ c = 10 then tok (i + 1) r
    else (i, (c :: r).take (tl c r)) :: tok (i + tl c r) ((c :: r).drop (tl c r))
  termination_by l.length
  decreasing_by
    · rw [List.length_drop, List.length_cons]
      omega
    · simp
    · have := tl_pos c r
      rw [List.length_drop, List.length_cons]
      omega
theorem tok_nil (i : Nat) : tok i [] = [] := by rw [tok]
theorem tok_hash (i : Nat) (r : List Nat) : tok i (35 :: r) = tok (i + (sk r + 1)) (r.drop (sk r)) := by rw [tok, if_pos rfl]
theorem tok_gap {c : Nat} (h : c = 32 ∨ c = 10) (i : Nat) (r : List Nat) : tok i (c :: r) = tok (i + 1) r := by
  rw [tok, if_neg (by omega), if_pos h]
theorem tok_tok {c : Nat} (h1 : c ≠ 35) (h2 : c ≠ 32) (h3 : c ≠ 10) (i : Nat) (r : List Nat) :
    tok i (c :: r) = (i, (c :: r).take (tl c r)) :: tok (i + tl c r) ((c :: r).drop (tl c r)) := by
  rw [tok, if_neg h1, if_neg (by omega)]
theorem isL_not {c : Nat} (h : isL c = true) : c ≠ 35 ∧ c ≠ 32 ∧ c ≠ 10 ∧ c ≠ 45 ∧ c ≠ 62 := by
  refine ⟨?_, ?_, ?_, ?_, ?_⟩ <;> (intro e; rw [e] at h; revert h; decide)

/-! ### the law's walk -/
inductive Wst where
  | gap | remark | word | dash | sign
  deriving DecidableEq
/-- the last token grows by a sign -/
def grow : List (Nat × List Nat) → Nat → List (Nat × List Nat)
  | [], _ => []
  | [(p, s)], c => [(p, s ++ [c])]
  | x :: y :: r, c => x :: grow (y :: r) c
theorem grow_snoc : ∀ (f : List (Nat × List Nat)) (p : Nat) (s : List Nat) (c : Nat), grow (f ++ [(p, s)]) c = f ++ [(p, s ++ [c])]
  | [], p, s, c => rfl
  | [x], p, s, c => rfl
  | x :: y :: r, p, s, c => by
    show x :: grow ((y :: r) ++ [(p, s)]) c = _
    rw [grow_snoc (y :: r) p s c]
    rfl
/-- one sign -/
def wstep (st : Wst) (f : List (Nat × List Nat)) (i c : Nat) : Wst × List (Nat × List Nat) :=
  if st = .remark then (if c = 10 then .gap else .remark, f)
  else if c = 35 then (.remark, f)
  else if c = 32 ∨ c = 10 then (.gap, f)
  else if (isL c = true ∧ st = .word) ∨ (c = 62 ∧ st = .dash) then (if st = .word then .word else .sign, grow f c)
  else (if isL c = true then .word else if c = 45 then .dash else .sign, f ++ [(i, [c])])
def wgo (st : Wst) (f : List (Nat × List Nat)) (i : Nat) : List Nat → List (Nat × List Nat)
  | [] => f
  | c :: r => wgo (wstep st f i c).1 (wstep st f i c).2 (i + 1) r
/-- what it comes to from each state -/
def want (st : Wst) (f : List (Nat × List Nat)) (i : Nat) (l : List Nat) : List (Nat × List Nat) := match st with
  | .gap => f ++ tok i l
  | .sign => f ++ tok i l
  | .remark => f ++ tok (i + sk l) (l.drop (sk l))
  | .word => f.dropLast ++ (match f.getLast? with | some (p, s) => [(p, s ++ l.takeWhile isL)] | none => []) ++ tok (i + (l.takeWhile isL).length) (l.drop (l.takeWhile isL).length)
  | .dash => f.dropLast ++ (match f.getLast? with | some (p, s) => (match l with | 62 :: r => [(p, s ++ [62])] ++ tok (i + 1) r | _ => [(p, s)] ++ tok i l) | none => [])
theorem want_word (f : List (Nat × List Nat)) (p : Nat) (s : List Nat) (i : Nat) (l : List Nat) :
    want .word (f ++ [(p, s)]) i l = f ++ [(p, s ++ l.takeWhile isL)] ++ tok (i + (l.takeWhile isL).length) (l.drop (l.takeWhile isL).length) := by
  simp [want]
theorem want_dash (f : List (Nat × List Nat)) (p : Nat) (s : List Nat) (i : Nat) (l : List Nat) :
    want .dash (f ++ [(p, s)]) i l = f ++ (match l with | 62 :: r => [(p, s ++ [62])] ++ tok (i + 1) r | _ => [(p, s)] ++ tok i l) := by
  simp [want]
theorem tl_letter {c : Nat} (h : isL c = true) (r : List Nat) : tl c r = (r.takeWhile isL).length + 1 := by
  have := isL_not h
  unfold tl
  rw [if_neg (by omega), List.takeWhile_cons, h]
  simp
theorem tl_other {c : Nat} (h : isL c = false) {r : List Nat} (h2 : ¬ (c = 45 ∧ r.head? = some 62)) : tl c r = 1 := by
  unfold tl
  rw [if_neg h2, List.takeWhile_cons, h]
  simp
/-- the walk is right from each state -/
theorem wgo_ok : ∀ (l : List Nat) (i : Nat) (f : List (Nat × List Nat)),
    wgo .gap f i l = f ++ tok i l ∧ wgo .sign f i l = f ++ tok i l ∧ wgo .remark f i l = want .remark f i l ∧
    (∀ p s, wgo .word (f ++ [(p, s)]) i l = want .word (f ++ [(p, s)]) i l) ∧ (∀ p s, wgo .dash (f ++ [(p, s)]) i l = want .dash (f ++ [(p, s)]) i l)
  | [], i, f => by
    refine ⟨?_, ?_, ?_, fun p s => ?_, fun p s => ?_⟩
    · simp [wgo, tok_nil]
    · simp [wgo, tok_nil]
    · simp [wgo, want, sk, tok_nil]
    · rw [want_word]
      simp [wgo, tok_nil]
    · rw [want_dash]
      simp [wgo, tok_nil]
  | c :: r, i, f => by
    have ih := fun j g => wgo_ok r j g
    have g0 : ∀ (st : Wst) (F : List (Nat × List Nat)), st ≠ .remark → (st = .word → isL c = false) → (st = .dash → c ≠ 62) → wgo st F i (c :: r) = F ++ tok i (c :: r) := by
      intro st F h1 h2 h3
      rw [wgo]
      by_cases c35 : c = 35
      · have e : wstep st F i c = (.remark, F) := by
          unfold wstep
          rw [if_neg h1, if_pos c35]
        rw [e, (ih (i + 1) F).2.2.1, c35, tok_hash]
        show F ++ tok (i + 1 + sk r) (r.drop (sk r)) = _
        rw [show i + 1 + sk r = i + (sk r + 1) by omega]
      · by_cases cg : c = 32 ∨ c = 10
        · have e : wstep st F i c = (.gap, F) := by
            unfold wstep
            rw [if_neg h1, if_neg c35, if_pos cg]
          rw [e, (ih (i + 1) F).1, tok_gap cg]
        · have nx : ¬ ((isL c = true ∧ st = .word) ∨ (c = 62 ∧ st = .dash)) := by
            rintro (⟨a, b⟩ | ⟨a, b⟩)
            · rw [h2 b] at a
              cases a
            · exact h3 b a
          have e : wstep st F i c = (if isL c = true then .word else if c = 45 then .dash else .sign, F ++ [(i, [c])]) := by
            unfold wstep
            rw [if_neg h1, if_neg c35, if_neg cg, if_neg nx]
          rw [e]
          rw [tok_tok c35 (fun z => cg (.inl z)) (fun z => cg (.inr z))]
          cases hL : isL c with
          | true =>
            show wgo .word (F ++ [(i, [c])]) (i + 1) r = _
            rw [(ih (i + 1) F).2.2.2.1, want_word, tl_letter hL]
            rw [List.take_succ_cons, List.drop_succ_cons, show i + 1 + (r.takeWhile isL).length = i + ((r.takeWhile isL).length + 1) by omega]
            have et : r.take (r.takeWhile isL).length = r.takeWhile isL := by
              exact (List.prefix_iff_eq_take.mp (List.takeWhile_prefix isL)).symm
            rw [et, List.append_assoc]
            rfl
          | false =>
            by_cases c45 : c = 45
            · show wgo (if c = 45 then .dash else .sign) (F ++ [(i, [c])]) (i + 1) r = _
              rw [if_pos c45, (ih (i + 1) F).2.2.2.2, want_dash]
              cases r with
              | nil =>
                rw [tl_other hL (by rintro ⟨_, h⟩; cases h)]
                rfl
              | cons d q =>
                by_cases d62 : d = 62
                · rw [d62, c45]
                  have e2 : tl 45 (62 :: q) = 2 := by
                    unfold tl
                    rw [if_pos ⟨rfl, rfl⟩]
                  rw [e2]
                  rfl
                · rw [tl_other hL (by rintro ⟨_, h⟩; exact d62 (Option.some.inj h))]
                  have em : (match d :: q with | 62 :: r => [(i, [c] ++ [62])] ++ tok (i + 1 + 1) r | _ => [(i, [c])] ++ tok (i + 1) (d :: q)) = [(i, [c])] ++ tok (i + 1) (d :: q) := by
                    split
                    · rename_i r' heq
                      exact absurd (List.cons.inj heq).1 d62
                    · rfl
                  rw [em]
                  rfl
            · show wgo (if c = 45 then .dash else .sign) (F ++ [(i, [c])]) (i + 1) r = _
              rw [if_neg c45, (ih (i + 1) _).2.1, tl_other hL (by rintro ⟨h, _⟩; exact c45 h)]
              simp
    refine ⟨g0 .gap f (by decide) (by intro h; cases h) (by intro h; cases h), g0 .sign f (by decide) (by intro h; cases h) (by intro h; cases h), ?_, fun p s => ?_, fun p s => ?_⟩
    · rw [wgo]
      have e : wstep .remark f i c = (if c = 10 then .gap else .remark, f) := by
        unfold wstep
        rw [if_pos rfl]
      rw [e]
      by_cases h : c = 10
      · show wgo (if c = 10 then .gap else .remark) f (i + 1) r = _
        rw [if_pos h, (ih (i + 1) f).1, h]
        have e2 : sk (10 :: r) = 0 := by
          unfold sk
          rw [List.takeWhile_cons]
          rfl
        show _ = f ++ tok (i + sk (10 :: r)) ((10 :: r).drop (sk (10 :: r)))
        rw [e2, List.drop_zero, Nat.add_zero, tok_gap (.inr rfl)]
      · show wgo (if c = 10 then .gap else .remark) f (i + 1) r = _
        rw [if_neg h, (ih (i + 1) f).2.2.1]
        have e2 : sk (c :: r) = sk r + 1 := by
          unfold sk
          rw [List.takeWhile_cons, show noNl c = true by simp [noNl, h]]
          rfl
        show f ++ tok (i + 1 + sk r) (r.drop (sk r)) = f ++ tok (i + sk (c :: r)) ((c :: r).drop (sk (c :: r)))
        rw [e2, List.drop_succ_cons, show i + 1 + sk r = i + (sk r + 1) by omega]
    · cases hL : isL c with
      | true =>
        have hn := isL_not hL
        rw [wgo]
        have e : wstep .word (f ++ [(p, s)]) i c = (.word, f ++ [(p, s ++ [c])]) := by
          unfold wstep
          rw [if_neg (by decide), if_neg hn.1, if_neg (by omega), if_pos (.inl ⟨hL, rfl⟩), grow_snoc]
          rfl
        rw [e, (ih (i + 1) f).2.2.2.1, want_word, want_word, List.takeWhile_cons, hL]
        simp only [if_true, List.length_cons, List.drop_succ_cons]
        rw [show i + 1 + (r.takeWhile isL).length = i + ((r.takeWhile isL).length + 1) by omega, List.append_assoc s]
        rfl
      | false =>
        rw [g0 .word _ (by decide) (fun _ => hL) (by intro h; cases h), want_word, List.takeWhile_cons, hL]
        simp
    · by_cases h62 : c = 62
      · rw [wgo, h62]
        have e : wstep .dash (f ++ [(p, s)]) i 62 = (.sign, f ++ [(p, s ++ [62])]) := by
          unfold wstep
          rw [if_neg (by decide), if_neg (by decide), if_neg (by decide), if_pos (.inr ⟨rfl, rfl⟩), grow_snoc]
          rfl
        rw [e, (ih (i + 1) _).2.1, want_dash]
        simp
      · rw [g0 .dash _ (by decide) (by intro h; cases h) (fun _ => h62), want_dash]
        have em : (match c :: r with | 62 :: r => [(p, s ++ [62])] ++ tok (i + 1) r | _ => [(p, s)] ++ tok i (c :: r)) = [(p, s)] ++ tok i (c :: r) := by
          split
          · rename_i r' heq
            exact absurd (List.cons.inj heq).1 h62
          · rfl
        rw [em, List.append_assoc]
end K05
end

section
set_option maxHeartbeats 400000
namespace K05
/-! ### what a token is, and tokens put together -/
def IsTok (s : List Nat) : Prop := s = [45, 62] ∨ (s ≠ [] ∧ ∀ c ∈ s, isL c = true) ∨ ∃ c, s = [c] ∧ isL c = false ∧ c ≠ 35 ∧ c ≠ 32 ∧ c ≠ 10
theorem tw_all {p : Nat → Bool} : ∀ (l : List Nat), ∀ c ∈ l.takeWhile p, p c = true
  | [], c, h => by cases h
  | d :: r, c, h => by
    rw [List.takeWhile_cons] at h
    split at h
    · rename_i hd
      rcases List.mem_cons.mp h with rfl | h
      · exact hd
      · exact tw_all r c h
    · cases h
theorem tw_take {p : Nat → Bool} (l : List Nat) : l.take (l.takeWhile p).length = l.takeWhile p :=
  (List.prefix_iff_eq_take.mp (List.takeWhile_prefix p)).symm
/-- what the first token is -/
theorem first_tok {c : Nat} (h1 : c ≠ 35) (h2 : c ≠ 32) (h3 : c ≠ 10) (r : List Nat) : IsTok ((c :: r).take (tl c r)) := by
  by_cases ha : c = 45 ∧ r.head? = some 62
  · left
    have e : tl c r = 2 := by
      unfold tl
      rw [if_pos ha]
    rw [e]
    cases r with
    | nil => cases ha.2
    | cons d q =>
      have := Option.some.inj ha.2
      rw [ha.1, this]
      rfl
  · cases hL : isL c with
    | true =>
      right
      left
      rw [tl_letter hL, List.take_succ_cons, tw_take]
      refine ⟨List.cons_ne_nil _ _, fun d hd => ?_⟩
      rcases List.mem_cons.mp hd with rfl | hd
      · exact hL
      · exact tw_all r d hd
    | false =>
      right
      right
      rw [tl_other hL ha]
      exact ⟨c, rfl, hL, h1, h2, h3⟩
/-- a token with a space or a newline behind it -/
theorem tok_sep {s : List Nat} (h : IsTok s) {g : Nat} (hg : g = 32 ∨ g = 10) (i : Nat) (l : List Nat) : tok i (s ++ g :: l) = (i, s) :: tok (i + (s.length + 1)) l := by
  have gL : isL g = false := by rcases hg with rfl | rfl <;> decide
  rcases h with rfl | ⟨hne, hall⟩ | ⟨c, rfl, hL, c35, c32, c10⟩
  · show tok i (45 :: 62 :: g :: l) = _
    rw [tok_tok (by decide) (by decide) (by decide)]
    have e : tl 45 (62 :: g :: l) = 2 := by
      unfold tl
      rw [if_pos ⟨rfl, rfl⟩]
    rw [e]
    show (i, [45, 62]) :: tok (i + 2) (g :: l) = _
    rw [tok_gap hg]
    rfl
  · cases s with
    | nil => exact absurd rfl hne
    | cons c r =>
      have hc := hall c List.mem_cons_self
      have hn := isL_not hc
      have tw : (r ++ g :: l).takeWhile isL = r := by
        have hr : ∀ d ∈ r, isL d = true := fun d hd => hall d (List.mem_cons_of_mem _ hd)
        clear hall hne
        induction r with
        | nil => rw [List.nil_append, List.takeWhile_cons, gL]; rfl
        | cons d q ih =>
          rw [List.cons_append, List.takeWhile_cons, hr d List.mem_cons_self]
          simp only [if_true]
          rw [ih fun x hx => hr x (List.mem_cons_of_mem _ hx)]
      show tok i (c :: (r ++ g :: l)) = _
      rw [tok_tok hn.1 hn.2.1 hn.2.2.1, tl_letter hc, tw, List.take_succ_cons, List.take_left, List.drop_succ_cons, List.drop_left, tok_gap hg, List.length_cons]
      rw [show i + (r.length + 1) + 1 = i + (r.length + 1 + 1) by omega]
  · show tok i (c :: g :: l) = _
    rw [tok_tok c35 c32 c10, tl_other hL (by rintro ⟨_, h⟩; have := Option.some.inj h; omega)]
    show (i, [c]) :: tok (i + 1) (g :: l) = _
    rw [tok_gap hg]
    rfl
theorem tok_last {s : List Nat} (h : IsTok s) (i : Nat) : tok i s = [(i, s)] := by
  rcases h with rfl | ⟨hne, hall⟩ | ⟨c, rfl, hL, c35, c32, c10⟩
  · rw [tok_tok (by decide) (by decide) (by decide)]
    have e : tl 45 [62] = 2 := by
      unfold tl
      rw [if_pos ⟨rfl, rfl⟩]
    rw [e]
    show (i, [45, 62]) :: tok (i + 2) [] = _
    rw [tok_nil]
  · cases s with
    | nil => exact absurd rfl hne
    | cons c r =>
      have hc := hall c List.mem_cons_self
      have hn := isL_not hc
      have tw : r.takeWhile isL = r := by
        have hr : ∀ d ∈ r, isL d = true := fun d hd => hall d (List.mem_cons_of_mem _ hd)
        clear hall hne
        induction r with
        | nil => rfl
        | cons d q ih =>
          rw [List.takeWhile_cons, hr d List.mem_cons_self]
          simp only [if_true]
          rw [ih fun x hx => hr x (List.mem_cons_of_mem _ hx)]
      rw [tok_tok hn.1 hn.2.1 hn.2.2.1, tl_letter hc, tw, List.take_succ_cons, List.take_length, List.drop_succ_cons, List.drop_length, tok_nil]
  · rw [tok_tok c35 c32 c10, tl_other hL (by rintro ⟨_, h⟩; cases h)]
    show (i, [c]) :: tok (i + 1) [] = _
    rw [tok_nil]
/-- tokens with a sign between two of them -/
def glue (g : Nat) : List (List Nat) → List Nat
  | [] => []
  | [s] => s
  | s :: t :: r => s ++ g :: glue g (t :: r)
/-- each at its place -/
def placed : Nat → List (List Nat) → List (Nat × List Nat)
  | _, [] => []
  | i, s :: r => (i, s) :: placed (i + (s.length + 1)) r
theorem tok_glue {g : Nat} (hg : g = 32 ∨ g = 10) : ∀ (ss : List (List Nat)) (i : Nat), (∀ s ∈ ss, IsTok s) → tok i (glue g ss) = placed i ss
  | [], i, _ => by rw [glue, tok_nil]; rfl
  | [s], i, h => by rw [glue, tok_last (h s List.mem_cons_self)]; rfl
  | s :: t :: r, i, h => by
    rw [glue, tok_sep (h s List.mem_cons_self) hg, tok_glue hg (t :: r) _ fun x hx => h x (List.mem_cons_of_mem _ hx)]
    rfl
theorem placed_snd : ∀ (ss : List (List Nat)) (i : Nat), (placed i ss).map (·.2) = ss
  | [], _ => rfl
  | s :: r, i => by
    show s :: (placed (i + (s.length + 1)) r).map (·.2) = s :: r
    rw [placed_snd r]
def upto (ss : List (List Nat)) (k : Nat) : Nat := ((ss.take k).map fun s => s.length + 1).sum
theorem placed_fst : ∀ (ss : List (List Nat)) (i : Nat), (placed i ss).map (·.1) = (List.range ss.length).map fun k => i + upto ss k
  | [], _ => rfl
  | s :: r, i => by
    show i :: (placed (i + (s.length + 1)) r).map (·.1) = _
    rw [placed_fst r, List.length_cons, List.range_succ_eq_map, List.map_cons, List.map_map]
    congr 1
    apply List.map_congr_left
    intro k _
    show i + (s.length + 1) + upto r k = i + upto (s :: r) (k + 1)
    unfold upto
    rw [List.take_succ_cons, List.map_cons, List.sum_cons]
    omega

/-! ### what the tokens of a text are like -/
theorem tok_facts (l : List Nat) (i : Nat) : (∀ q ∈ tok i l, IsTok q.2 ∧ ∀ c ∈ q.2, c ∈ l) ∧ (tok i l).length ≤ l.length ∧ ((tok i l).map fun q => q.2.length).sum ≤ l.length ∧ ∀ q ∈ tok i l, i ≤ q.1 ∧ q.1 + q.2.length ≤ i + l.length := by
  match l with
  | [] =>
    rw [tok_nil]
    refine ⟨fun q h => absurd h List.not_mem_nil, Nat.le_refl _, Nat.le_refl _, fun q h => absurd h List.not_mem_nil⟩
  | c :: r =>
    by_cases c35 : c = 35
    · rw [c35, tok_hash]
      have ih := tok_facts (r.drop (sk r)) (i + (sk r + 1))
      have hs : sk r ≤ r.length := tw_le r
      rw [List.length_drop] at ih
      rw [List.length_cons]
      refine ⟨fun q h => ⟨(ih.1 q h).1, fun d hd => List.mem_cons_of_mem _ (List.mem_of_mem_drop ((ih.1 q h).2 d hd))⟩, by omega, by omega, fun q h => ?_⟩
      have := ih.2.2.2 q h
      omega
    · by_cases cg : c = 32 ∨ c = 10
      · rw [tok_gap cg]
        have ih := tok_facts r (i + 1)
        rw [List.length_cons]
        refine ⟨fun q h => ⟨(ih.1 q h).1, fun d hd => List.mem_cons_of_mem _ ((ih.1 q h).2 d hd)⟩, by omega, by omega, fun q h => ?_⟩
        have := ih.2.2.2 q h
        omega
      · have c32 : c ≠ 32 := fun z => cg (.inl z)
        have c10 : c ≠ 10 := fun z => cg (.inr z)
        rw [tok_tok c35 c32 c10]
        have ih := tok_facts ((c :: r).drop (tl c r)) (i + tl c r)
        have t1 := tl_pos c r
        have t2 := tl_le c r
        rw [List.length_drop] at ih
        have lt : ((c :: r).take (tl c r)).length = tl c r := by
          rw [List.length_take]
          omega
        refine ⟨fun q h => ?_, ?_, ?_, fun q h => ?_⟩
        · rcases List.mem_cons.mp h with rfl | h
          · exact ⟨first_tok c35 c32 c10 r, fun d hd => List.mem_of_mem_take hd⟩
          · exact ⟨(ih.1 q h).1, fun d hd => List.mem_of_mem_drop ((ih.1 q h).2 d hd)⟩
        · rw [List.length_cons]
          omega
        · rw [List.map_cons, List.sum_cons]
          show ((c :: r).take (tl c r)).length + _ ≤ _
          omega
        · rcases List.mem_cons.mp h with rfl | h
          · show i ≤ i ∧ i + ((c :: r).take (tl c r)).length ≤ _
            omega
          · have := ih.2.2.2 q h
            omega
  termination_by l.length
  decreasing_by
    · rw [List.length_drop, List.length_cons]
      omega
    · simp
    · have := tl_pos c r
      rw [List.length_drop, List.length_cons]
      omega

/-! ### a remark put behind a token -/
def shift (d : Nat) (T : List (Nat × List Nat)) : List (Nat × List Nat) := T.map fun q => (q.1 + d, q.2)
theorem tok_shift (d : Nat) (l : List Nat) (i : Nat) : tok (i + d) l = shift d (tok i l) := by
  match l with
  | [] => rw [tok_nil, tok_nil]; rfl
  | c :: r =>
    by_cases c35 : c = 35
    · rw [c35, tok_hash, tok_hash, show i + d + (sk r + 1) = (i + (sk r + 1)) + d by omega, tok_shift d (r.drop (sk r))]
    · by_cases cg : c = 32 ∨ c = 10
      · rw [tok_gap cg, tok_gap cg, show i + d + 1 = (i + 1) + d by omega, tok_shift d r]
      · rw [tok_tok c35 (fun z => cg (.inl z)) (fun z => cg (.inr z)), tok_tok c35 (fun z => cg (.inl z)) (fun z => cg (.inr z)), show i + d + tl c r = (i + tl c r) + d by omega, tok_shift d ((c :: r).drop (tl c r))]
        rfl
  termination_by l.length
  decreasing_by
    · rw [List.length_drop, List.length_cons]
      omega
    · simp
    · have := tl_pos c r
      rw [List.length_drop, List.length_cons]
      omega
/-- the first token is the same whatever stands behind it, if its next sign is the same, or a # -/
theorem tl_same {c : Nat} {r : List Nat} (X : List Nat) (hX : X.head? = some 35 ∨ X.head? = ((c :: r).drop (tl c r)).head?) :
    ∃ r', (c :: r).take (tl c r) ++ X = c :: r' ∧ tl c r' = tl c r ∧ (c :: r').take (tl c r) = (c :: r).take (tl c r) ∧ (c :: r').drop (tl c r) = X := by
  have t1 := tl_pos c r
  have t2 := tl_le c r
  have lt : ((c :: r).take (tl c r)).length = tl c r := by
    rw [List.length_take]
    omega
  have e0 : (c :: r).take (tl c r) ++ X = c :: (r.take (tl c r - 1) ++ X) := by
    obtain ⟨k, hk⟩ : ∃ k, tl c r = k + 1 := ⟨tl c r - 1, by omega⟩
    rw [hk, List.take_succ_cons]
    rfl
  refine ⟨r.take (tl c r - 1) ++ X, e0, ?_, ?_, ?_⟩
  · by_cases ha : c = 45 ∧ r.head? = some 62
    · have e : tl c r = 2 := by
        unfold tl
        rw [if_pos ha]
      cases r with
      | nil => cases ha.2
      | cons d q =>
        have hd := Option.some.inj ha.2
        rw [e]
        unfold tl
        rw [if_pos]
        exact ⟨ha.1, by rw [hd]; rfl⟩
    · cases hL : isL c with
      | true =>
        rw [tl_letter hL, tl_letter hL, Nat.add_sub_cancel, tw_take]
        congr 1
        have hx : ∀ x, X.head? = some x → isL x = false := by
          intro x hx
          rcases hX with h | h
          · rw [h] at hx
            rw [← Option.some.inj hx]
            decide
          · rw [tl_letter hL, List.drop_succ_cons] at h
            rw [h] at hx
            have : ∀ l : List Nat, ∀ x, (l.drop (l.takeWhile isL).length).head? = some x → isL x = false := by
              intro l
              induction l with
              | nil => intro x h; cases h
              | cons d q ih =>
                intro x h
                rw [List.takeWhile_cons] at h
                cases hd : isL d with
                | true =>
                  rw [hd] at h
                  exact ih x h
                | false =>
                  rw [hd] at h
                  have := Option.some.inj h
                  rw [← this]
                  exact hd
            exact this r x hx
        have ha2 := tw_all (p := isL) r
        generalize r.takeWhile isL = y at *
        induction y with
        | nil =>
          cases X with
          | nil => rfl
          | cons x q =>
            rw [List.nil_append, List.takeWhile_cons, hx x rfl]
            rfl
        | cons d q ih =>
          rw [List.cons_append, List.takeWhile_cons, ha2 d List.mem_cons_self]
          simp only [if_true, List.length_cons]
          rw [ih (by
            have := ha2
            exact fun z hz => this z (List.mem_cons_of_mem _ hz))]
      | false =>
        have e1 := tl_other hL ha
        rw [e1, Nat.sub_self, List.take_zero, List.nil_append]
        refine tl_other hL ?_
        rintro ⟨h45, h62⟩
        rcases hX with h | h
        · rw [h] at h62
          have := Option.some.inj h62
          omega
        · rw [e1] at h
          rw [h] at h62
          exact ha ⟨h45, h62⟩
  · rw [← e0, List.take_left' lt]
  · rw [← e0, List.drop_left' lt]
theorem sk_append {y X : List Nat} (hy : ∀ c ∈ y, noNl c = true) (hX : X.head? = some 10) : sk (y ++ X) = y.length := by
  unfold sk
  induction y with
  | nil =>
    cases X with
    | nil => cases hX
    | cons x q =>
      have := Option.some.inj hX
      rw [List.nil_append, List.takeWhile_cons, this]
      rfl
  | cons d q ih =>
    rw [List.cons_append, List.takeWhile_cons, hy d List.mem_cons_self]
    simp only [if_true, List.length_cons]
    rw [ih fun x hx => hy x (List.mem_cons_of_mem _ hx)]
theorem sk_next (l : List Nat) : l.drop (sk l) = [] ∨ (l.drop (sk l)).head? = some 10 := by
  unfold sk
  induction l with
  | nil => exact .inl rfl
  | cons d q ih =>
    rw [List.takeWhile_cons]
    by_cases h : noNl d = true
    · rw [h]
      exact ih
    · have hd : d = 10 := by
        simp [noNl] at h
        exact h
      rw [hd]
      right
      rfl
theorem head_take {l X : List Nat} {e : Nat} (he : 1 ≤ e) (hl : l ≠ []) : (l.take e ++ X).head? = l.head? := by
  cases l with
  | nil => exact absurd rfl hl
  | cons d q =>
    obtain ⟨k, rfl⟩ : ∃ k, e = k + 1 := ⟨e - 1, by omega⟩
    rfl
/-- cut behind its a-th token -/
theorem tok_cut (l : List Nat) (i a : Nat) (q : Nat × List Nat) (h : (tok i l)[a]? = some q) :
    ∃ e, 1 ≤ e ∧ e ≤ l.length ∧ q.1 + q.2.length = i + e ∧ (tok i l).drop (a + 1) = tok (i + e) (l.drop e) ∧
      ∀ X : List Nat, X.head? = some 35 → tok i (l.take e ++ X) = (tok i l).take (a + 1) ++ tok (i + e) X := by
  match l with
  | [] =>
    rw [tok_nil] at h
    cases h
  | c :: r =>
    by_cases c35 : c = 35
    · subst c35
      rw [tok_hash] at h
      obtain ⟨e, e1, e2, e3, e4, e5⟩ := tok_cut (r.drop (sk r)) (i + (sk r + 1)) a q h
      have hs : sk r ≤ r.length := tw_le r
      rw [List.length_drop] at e2
      refine ⟨e + (sk r + 1), by omega, by rw [List.length_cons]; omega, by omega, ?_, fun X hX => ?_⟩
      · rw [tok_hash, e4, List.drop_drop, show (35 :: r).drop (e + (sk r + 1)) = r.drop (sk r + e) by rw [show e + (sk r + 1) = (sk r + e) + 1 by omega]; rfl, show i + (sk r + 1) + e = i + (e + (sk r + 1)) by omega]
      · have ne : r.drop (sk r) ≠ [] := by
          intro z
          rw [z, tok_nil] at h
          cases h
        have hd : (r.drop (sk r)).head? = some 10 := (sk_next r).resolve_left ne
        have et : (35 :: r).take (e + (sk r + 1)) ++ X = 35 :: (r.takeWhile noNl ++ ((r.drop (sk r)).take e ++ X)) := by
          rw [show e + (sk r + 1) = (sk r + e) + 1 by omega, List.take_succ_cons, List.take_add, List.cons_append, ← List.append_assoc]
          congr 2
          rw [show r.take (sk r) = r.takeWhile noNl from tw_take r]
        have sa : sk (r.takeWhile noNl ++ ((r.drop (sk r)).take e ++ X)) = sk r := sk_append (tw_all r) (by rw [head_take e1 ne, hd])
        have ed : (r.takeWhile noNl ++ ((r.drop (sk r)).take e ++ X)).drop (sk r) = (r.drop (sk r)).take e ++ X := List.drop_left' rfl
        rw [et, tok_hash, tok_hash, sa, ed, e5 X hX, show i + (sk r + 1) + e = i + (e + (sk r + 1)) by omega]
    · by_cases cg : c = 32 ∨ c = 10
      · rw [tok_gap cg] at h
        obtain ⟨e, e1, e2, e3, e4, e5⟩ := tok_cut r (i + 1) a q h
        refine ⟨e + 1, by omega, by rw [List.length_cons]; omega, by omega, ?_, fun X hX => ?_⟩
        · rw [tok_gap cg, e4, List.drop_succ_cons, show i + 1 + e = i + (e + 1) by omega]
        · rw [List.take_succ_cons, List.cons_append, tok_gap cg, tok_gap cg, e5 X hX, show i + 1 + e = i + (e + 1) by omega]
      · have c32 : c ≠ 32 := fun z => cg (.inl z)
        have c10 : c ≠ 10 := fun z => cg (.inr z)
        have t1 := tl_pos c r
        have t2 := tl_le c r
        have lt : ((c :: r).take (tl c r)).length = tl c r := by
          rw [List.length_take]
          omega
        rw [tok_tok c35 c32 c10] at h
        cases a with
        | zero =>
          have hq := Option.some.inj h
          subst hq
          refine ⟨tl c r, t1, t2, by show i + ((c :: r).take (tl c r)).length = _; rw [lt], ?_, fun X hX => ?_⟩
          · rw [tok_tok c35 c32 c10]
            rfl
          · obtain ⟨r', f1, f2, f3, f4⟩ := tl_same (c := c) (r := r) X (.inl hX)
            rw [f1, tok_tok c35 c32 c10, f2, f3, f4, tok_tok c35 c32 c10]
            rfl
        | succ a =>
          have h' : (tok (i + tl c r) ((c :: r).drop (tl c r)))[a]? = some q := by simpa using h
          obtain ⟨e, e1, e2, e3, e4, e5⟩ := tok_cut ((c :: r).drop (tl c r)) (i + tl c r) a q h'
          rw [List.length_drop] at e2
          refine ⟨tl c r + e, by omega, by omega, by omega, ?_, fun X hX => ?_⟩
          · rw [tok_tok c35 c32 c10, List.drop_succ_cons, e4, List.drop_drop, Nat.add_assoc]
          · have ne : (c :: r).drop (tl c r) ≠ [] := by
              intro z
              rw [z, tok_nil] at h'
              cases h'
            obtain ⟨r', f1, f2, f3, f4⟩ := tl_same (c := c) (r := r) (((c :: r).drop (tl c r)).take e ++ X) (.inr (head_take e1 ne))
            rw [List.take_add, List.append_assoc, f1, tok_tok c35 c32 c10, f2, f3, f4, e5 X hX, tok_tok c35 c32 c10, List.take_succ_cons, Nat.add_assoc]
            rfl
  termination_by l.length
  decreasing_by
    · rw [List.length_drop, List.length_cons]
      omega
    · simp
    · have := tl_pos c r
      rw [List.length_drop, List.length_cons]
      omega
/-- the remark of the law: # -> 3 ; x and a newline -/
def rem11 : List Nat := [35, 32, 45, 62, 32, 51, 32, 59, 32, 120, 10]
theorem tok_rem (i : Nat) (l : List Nat) : tok i (rem11 ++ l) = shift 11 (tok i l) := by
  show tok i (35 :: ([32, 45, 62, 32, 51, 32, 59, 32, 120] ++ 10 :: l)) = _
  have e : sk ([32, 45, 62, 32, 51, 32, 59, 32, 120] ++ 10 :: l) = 9 := sk_append (by decide) rfl
  rw [tok_hash, e, ← tok_shift 11]
  show tok (i + 10) (10 :: l) = _
  rw [tok_gap (.inr rfl)]
theorem tok_more {l : List Nat} {a : Nat} {q : Nat × List Nat} (h : (tok 0 l)[a]? = some q) :
    q.1 + q.2.length ≤ l.length ∧ tok 0 (l.take (q.1 + q.2.length) ++ (rem11 ++ l.drop (q.1 + q.2.length))) = (tok 0 l).take (a + 1) ++ shift 11 ((tok 0 l).drop (a + 1)) := by
  obtain ⟨e, e1, e2, e3, e4, e5⟩ := tok_cut l 0 a q h
  rw [Nat.zero_add] at e3 e4
  rw [e3]
  refine ⟨e2, ?_⟩
  have := e5 (rem11 ++ l.drop e) rfl
  rw [this, Nat.zero_add, tok_rem, e4]
end K05
end

section
set_option maxHeartbeats 400000
namespace K05
open PySem PySem.Spec PyProof.Rows L2 Zc
/-- the statement at a place of the program's top -/
def topS (i : Nat) : Stmt :=
  PySem.Challenge.pw_lookalike_k05_tokens_and_their_places.main.body.getD i (.Pass ⟨0, 0, 0, 0⟩)
abbrev s_tokens_of : Stmt := topS 2
theorem sc_tokens_of : FnScope ["text", "start", "end"]
    ["text"] (defScope s_tokens_of) :=
  ⟨rfl, rfl, rfl, by decide +kernel, rfl, by decide +kernel, by decide +kernel⟩
abbrev s_token_places : Stmt := topS 3
theorem sc_token_places : FnScope ["text", "start", "_"]
    ["text"] (defScope s_token_places) :=
  ⟨rfl, rfl, rfl, by decide +kernel, rfl, by decide +kernel, by decide +kernel⟩
abbrev s_token_spans : Stmt := topS 4
theorem sc_token_spans : FnScope ["text", "spans", "at", "end"]
    ["text"] (defScope s_token_spans) :=
  ⟨rfl, rfl, rfl, by decide +kernel, rfl, by decide +kernel, by decide +kernel⟩
abbrev s_line_end : Stmt := topS 5
theorem sc_line_end : FnScope ["text", "at", "end"]
    ["text", "at"] (defScope s_line_end) :=
  ⟨rfl, rfl, rfl, by decide +kernel, rfl, by decide +kernel, by decide +kernel⟩
abbrev s_token_end : Stmt := topS 6
theorem sc_token_end : FnScope ["text", "at", "end"]
    ["text", "at"] (defScope s_token_end) :=
  ⟨rfl, rfl, rfl, by decide +kernel, rfl, by decide +kernel, by decide +kernel⟩
abbrev s__law_draw : Stmt := topS 8
theorem sc__law_draw : FnScope ["script", "salt", "cells", "blend", "cell"]
    ["script", "salt"] (defScope s__law_draw) :=
  ⟨rfl, rfl, rfl, by decide +kernel, rfl, by decide +kernel, by decide +kernel⟩
abbrev s__law_any : Stmt := topS 9
theorem sc__law_any : FnScope ["deal", "bound", "rest"]
    ["deal", "bound"] (defScope s__law_any) :=
  ⟨rfl, rfl, rfl, by decide +kernel, rfl, by decide +kernel, by decide +kernel⟩
abbrev s__law_of : Stmt := topS 10
theorem sc__law_of : FnScope ["deal", "some"]
    ["deal", "some"] (defScope s__law_of) :=
  ⟨rfl, rfl, rfl, by decide +kernel, rfl, by decide +kernel, by decide +kernel⟩
abbrev s__law_text : Stmt := topS 11
theorem sc__law_text : FnScope ["deal", "some", "turn"]
    ["deal"] (defScope s__law_text) :=
  ⟨rfl, rfl, rfl, by decide +kernel, rfl, by decide +kernel, by decide +kernel⟩
abbrev s__law_is_letter : Stmt := topS 12
theorem sc__law_is_letter : FnScope ["sign"]
    ["sign"] (defScope s__law_is_letter) :=
  ⟨rfl, rfl, rfl, by decide +kernel, rfl, by decide +kernel, by decide +kernel⟩
abbrev s__law_walk : Stmt := topS 13
theorem sc__law_walk : FnScope ["text", "found", "state", "at", "sign"]
    ["text"] (defScope s__law_walk) :=
  ⟨rfl, rfl, rfl, by decide +kernel, rfl, by decide +kernel, by decide +kernel⟩
abbrev s_law : Stmt := topS 14
theorem sc_law : FnScope ["script", "deal", "text", "due", "tokens", "places", "turn", "at", "end", "more", "token", "place"]
    ["script"] (defScope s_law) :=
  ⟨rfl, rfl, rfl, by decide +kernel, rfl, by decide +kernel, by decide +kernel⟩
end K05
end

section
set_option maxHeartbeats 1000000
namespace K05
open PySem PySem.Spec PyProof.Rows L2 Zc
section
variable {P : Program} {w : World} {K : PySem.W.Frag} {mg : Str → Option Value} {base : Heap}

theorem ok_any {f : Addr} {fd : FuncData} (D : At K mg "_law_any" s__law_any ["deal", "bound"] f fd) (mi : mg "int" = none) :
    FnOk P w K mg base CX0 1 f fd ["deal", "bound"] spAny := by
  refine D.F.ok sc__law_any (fun vs H Q E h => ?_) (fun cdv A outer s H vs Q E hr h => ?_)
  · obtain ⟨d, l, n, rfl, _⟩ := h
    rfl
  obtain ⟨d, l, n, rfl, hD, n0, n1, k⟩ := h
  have hu := hr.units
  refine ⟨_, pss_cons (ps_while PassesOwn.never (PW.pt (pw_and
        (pt_cmpR (op_neD hu) (pe_ix ix_list (pv 0) pe_int (fun _ _ => rfl)) (pe_lst pa_nil) (nomark _))
        (pw_and1 (pt_cmpR op_eq (pe_ix ix_list (pe_ix ix_list (pv 0) pe_int (fun _ _ => rfl)) (pe_un un_neg pe_int) (fun _ _ => rfl)) pe_int (nomark _)))))
      (pss_one (ps_expr (pe_bm0 PySem.F.plainAttrs_list PySem.F.slot_list_pop PySem.F.type_list_pop mt_pop (pe_ix ix_list (pv 0) pe_int (fun _ _ => rfl))))))
    (pss_cons (ps_if (pt_cmpR (op_neD hu) (pe_ix ix_list (pv 0) pe_int (fun _ _ => rfl)) (pe_lst pa_nil) (nomark _))
      (pss_cons (ps_set (i := 2) sc__law_any.nd rfl (.inl rfl) (pe_callTy call_int1 (by rfl) mi boot_int (pa_cons (pe_bm0 PySem.F.plainAttrs_list PySem.F.slot_list_pop PySem.F.type_list_pop mt_pop (pe_ix ix_list (pv 0) pe_int (fun _ _ => rfl))) pa_nil)))
      (pss_cons (ps_expr (pe_bm PySem.F.plainAttrs_list PySem.F.slot_list_append PySem.F.type_list_append mt_append (pe_ix ix_list (pv 0) pe_int (fun _ _ => rfl)) (pa_cons (pe_op op_fdivW (pv 2) (pv 1)) pa_nil)))
      (pss_one (ps_ret (pe_op op_mod (pv 2) (pv 1)))))) pss_nil)
    (pss_cons (ps_asg (pe_op op_mod (pe_callTy call_int1 (by rfl) mi boot_int (pa_cons (pe_op op_add (pe_op op_mul (pe_ix ix_list (pv 0) pe_int (fun _ _ => rfl)) pe_int) pe_int) pa_nil)) pe_int)
        (pg_sub (pv 0) pe_int set_list))
    (pss_one (ps_ret (pe_op op_mod (pe_callTy call_int1 (by rfl) mi boot_int (pa_cons (pe_op op_fdivW (pe_ix ix_list (pv 0) pe_int (fun _ _ => rfl)) pe_int) pa_nil)) (pv 1)))))), ?_⟩
  refine while_by (fun σ H' => ∃ y, σ = [some (.ref d), some (.int n), y] ∧ Deal H' d l ∧ But d l H H')
    (fun _ H' => match H' l with | some (.lst xs) => xs.length | _ => 0) ⟨none, rfl, hD, But.refl _ _ _⟩ ?_ ?_
  · rintro σ H1 ⟨y, rfl, ⟨xs, b, ndl, hd, hl, hlen, hpos, b0, b1⟩, hB⟩
    refine ⟨.ref d, rfl, d, _, 0, .ref l, rfl, rfl, .inl (.inl hd), rfl, Nat.zero_le _, fun p np => ?_⟩
    have nld : l ≠ p := ne_of_none hl np
    have ndp : d ≠ p := ne_of_none hd np
    refine ne_nil_read (.inl (.inl (by rw [upd_ne nld]; exact hl))) (.inl (.inl upd_same)) ⟨_, rfl, ?_⟩
    have hd1 : (upd H1 p (.lst [])) d = some (.lst [.ref l, .int b]) := by rw [upd_ne ndp]; exact hd
    have hl1 : (upd H1 p (.lst [])) l = some (.lst (xs.map V.int)) := by rw [upd_ne nld]; exact hl
    have hB1 : But d l H (upd H1 p (.lst [])) := hB.trans (.of (same_new np))
    have at0 : atI [V.ref l, V.int b] 0 = some (V.ref l) := rfl
    have at1 : atI [V.ref l, V.int b] 1 = some (V.int b) := rfl
    rcases snoc_cases xs with rfl | ⟨ys, z, rfl⟩
    · -- the list is empty: the loop ends, the int is turned
      refine iteFe rfl (iteFe rfl ?_)
      refine ⟨.ref d, rfl, d, _, 0, .ref l, rfl, rfl, .inl (.inl hd1), at0, Nat.zero_le _, fun p2 np2 => ?_⟩
      have nl2 : l ≠ p2 := ne_of_none hl1 np2
      have nd2 : d ≠ p2 := ne_of_none hd1 np2
      refine ne_nil_read (.inl (.inl (by rw [upd_ne nl2]; exact hl1))) (.inl (.inl upd_same)) ⟨_, rfl, iteFe rfl ?_⟩
      have hd2 : (upd (upd H1 p (.lst [])) p2 (.lst [])) d = some (.lst [.ref l, .int b]) := by rw [upd_ne nd2]; exact hd1
      have hl2 : (upd (upd H1 p (.lst [])) p2 (.lst [])) l = some (.lst (([] : List Int).map V.int)) := by rw [upd_ne nl2]; exact hl1
      have hB2 := hB1.trans (.of (same_new (o := .lst []) np2))
      refine ⟨.ref d, rfl, d, _, 1, .int b, rfl, rfl, .inl (.inl hd2), at1, _, _, rfl, rfl, .inr ⟨by decide, by decide⟩, _, _, rfl, rfl, .inl ⟨_, rfl, _, _, rfl, rfl, by show (0 : Int) < 2147483647; decide, ?_⟩⟩
      refine ⟨.ref d, rfl, d, _, 1, 1, rfl, rfl, hd2, rfl, ?_⟩
      have c0 : 0 ≤ (b * 40693 + 71) % 2147483647 := Int.emod_nonneg _ (by decide)
      have c1 : (b * 40693 + 71) % 2147483647 < 2147483647 := Int.emod_lt_of_pos _ (by decide)
      refine ⟨.ref d, rfl, d, _, 1, _, rfl, rfl, .inl (.inl upd_same), rfl, _, _, rfl, rfl, ⟨by decide, by decide⟩, .inl ⟨_, rfl, .int n, rfl, _, _, rfl, rfl, n0, ?_⟩⟩
      exact k _ _ (Int.emod_nonneg _ (by omega)) (Int.emod_lt_of_pos _ n0) (Deal.num ndl hl2 (Nat.zero_le _) (fun x hx => absurd hx List.not_mem_nil) c0 c1) hB2.updD
    · refine iteTe (snoc_ne ys z) ?_
      rw [snoc_map] at hl hl1
      refine ⟨.ref d, rfl, d, _, 0, .ref l, rfl, rfl, .inl (.inl hd1), at0, 1, rfl, l, _, -1, .int z, rfl, rfl, .inl (.inl hl1), atI_last _ _, rfl, _, rfl, ?_⟩
      have lenY : ys.length + 1 ≤ 48 := by rw [← snoc_len ys z]; exact hlen
      have posY : ∀ x ∈ ys, 0 ≤ x := fun x hx => hpos x (List.mem_append_left _ hx)
      have z0 : 0 ≤ z := hpos z (List.mem_append_right _ (List.mem_singleton.mpr rfl))
      refine ite2 (fun e => ?_) (fun e => ?_)
      · -- its last number is 0: it goes
        refine ⟨.ref d, rfl, d, _, 0, .ref l, rfl, rfl, .inl (.inl hd1), at0, .inl ⟨rfl, _, .inl (.inl hl1)⟩, l, _, .int z, rfl, rfl, hl1, snoc_last _ _, ?_⟩
        refine ⟨⟨y, rfl, ?_, hB1.updL⟩, ?_⟩
        · rw [List.dropLast_concat]
          exact Deal.list ndl hd1 (by omega) posY b0 b1
        · show (match upd (upd H1 p (.lst [])) l (.lst (ys.map V.int ++ [V.int z]).dropLast) l with | some (.lst xs) => xs.length | _ => 0) < (match H1 l with | some (.lst xs) => xs.length | _ => 0)
          rw [upd_same, hl]
          simp
      · -- it is not: it is parted
        refine ⟨.ref d, rfl, d, _, 0, .ref l, rfl, rfl, .inl (.inl hd1), at0, Nat.zero_le _, fun p2 np2 => ?_⟩
        have nl2 : l ≠ p2 := ne_of_none hl1 np2
        have nd2 : d ≠ p2 := ne_of_none hd1 np2
        have hd2 : (upd (upd H1 p (.lst [])) p2 (.lst [])) d = some (.lst [.ref l, .int b]) := by rw [upd_ne nd2]; exact hd1
        have hl2 : (upd (upd H1 p (.lst [])) p2 (.lst [])) l = some (.lst (ys.map V.int ++ [V.int z])) := by rw [upd_ne nl2]; exact hl1
        have hB2 := hB1.trans (.of (same_new (o := .lst []) np2))
        refine ne_nil_read (ns := ys ++ [z]) (.inl (.inl (by rw [snoc_map]; exact hl2))) (.inl (.inl upd_same)) ⟨_, rfl, iteTe (snoc_ne ys z) ?_⟩
        -- rest = int(deal[0].pop())
        refine ⟨.ref d, rfl, d, _, 0, .ref l, rfl, rfl, .inl (.inl hd2), at0, .inl ⟨rfl, _, .inl (.inl hl2)⟩, l, _, .int z, rfl, rfl, hl2, snoc_last _ _, .inl ⟨z, rfl, ?_⟩⟩
        rw [List.dropLast_concat]
        -- deal[0].append(rest // bound)
        have hd3 : (upd (upd (upd H1 p (.lst [])) p2 (.lst [])) l (.lst (ys.map V.int))) d = some (.lst [.ref l, .int b]) := by rw [upd_ne ndl]; exact hd2
        refine ⟨.ref d, rfl, d, _, 0, .ref l, rfl, rfl, .inl (.inl hd3), at0, .inl ⟨rfl, _, .inl (.inl upd_same)⟩, .int z, rfl, .int n, rfl, z, n, rfl, rfl, wide_div n0 (b := 64) (by omega) (by decide) (by decide), l, _, _, rfl, rfl, upd_same, by rw [List.length_map]; exact Nat.lt_of_le_of_lt (show ys.length ≤ 48 by omega) (by decide), ?_⟩
        -- return rest % bound
        refine ⟨.int z, rfl, .int n, rfl, z, n, rfl, rfl, n0, ?_⟩
        refine k _ _ (Int.emod_nonneg _ (by omega)) (Int.emod_lt_of_pos _ n0) ?_ hB2.updL.updL
        rw [← snoc_map]
        refine Deal.list ndl hd3 (by rw [snoc_len]; omega) (fun x hx => ?_) b0 b1
        rcases List.mem_append.mp hx with hx | hx
        · exact posY x hx
        · rw [List.mem_singleton.mp hx]
          exact Int.ediv_nonneg z0 (by omega)
  · intro σ H1 Q1 Q2 hq h
    obtain ⟨v, e1, p, xs, i, v', e2, e3, e4, e5, e6, h2⟩ := h
    refine ⟨v, e1, p, xs, i, v', e2, e3, e4, e5, e6, fun p2 np2 => ?_⟩
    obtain ⟨d1, d2, g1, g2, g3, g4, c, e7, h3⟩ := h2 p2 np2
    refine ⟨d1, d2, g1, g2, g3, g4, c, e7, ?_⟩
    cases c with
    | false => exact iteF (hq _ _ (by rw [if_neg Bool.false_ne_true] at h3; exact h3))
    | true =>
      rw [if_pos rfl] at h3
      refine iteT ?_
      obtain ⟨v, e1, p, xs, i, v', e2, e3, e4, e5, j, e6, q, zs, j2, v2, f2, f3, f4, f5, f6, c, f7, h4⟩ := h3
      exact ⟨v, e1, p, xs, i, v', e2, e3, e4, e5, j, e6, q, zs, j2, v2, f2, f3, f4, f5, f6, c, f7, hq _ _ h4⟩
theorem ok_of {f fA : Addr} {fd fdA : FuncData} (D : At K mg "_law_of" s__law_of ["deal", "some"] f fd)
    (DA : At K mg "_law_any" s__law_any ["deal", "bound"] fA fdA) (mi : mg "int" = none) (ml : mg "len" = none) :
    FnOk P w K mg base CX0 2 f fd ["deal", "some"] (spOf K) := by
  have GA : FnOk P w K mg base CX0 1 fA fdA ["deal", "bound"] spAny := ok_any DA mi
  refine D.F.ok sc__law_of (fun vs H Q E h => ?_) (fun cdv A outer s H vs Q E hr h => ?_)
  · obtain ⟨d, l, a, xs, rfl, _⟩ := h
    rfl
  obtain ⟨d, l, a, xs, rfl, hD, hS, n0, n1, k⟩ := h
  refine ⟨_, pss_one (ps_ret (pe_ix ix_list (pv 1) (pe_call GA hr (by rfl) DA.g DA.F.kp DA.b .nil pass0 (pa_cons (pv 0) (pa_cons (pe_callB call_len_seq (by rfl) ml PySem.boot_len (pa_cons (pv 1) pa_nil)) pa_nil))) (fun _ _ => rfl))), ?_⟩
  refine ⟨.ref a, rfl, .ref d, rfl, .ref a, rfl, a, xs, rfl, .inl (hS H (But.refl _ _ _)), d, l, (xs.length : Int), rfl, hD, by omega, by omega, fun r H' r0 r1 hD' hB => ?_⟩
  have hr1 : r.toNat < xs.length := by omega
  refine ⟨a, xs, r, xs[r.toNat], rfl, rfl, hS H' hB, ?_, k r.toNat _ H' (List.getElem?_eq_getElem hr1) hD' hB⟩
  have e : atI xs ((r.toNat : Nat) : Int) = some xs[r.toNat] := atI_nat (List.getElem?_eq_getElem hr1)
  rw [Int.toNat_of_nonneg r0] at e
  exact e

theorem ok_draw {f : Addr} {fd : FuncData} (D : At K mg "_law_draw" s__law_draw ["script", "salt"] f fd) (mi : mg "int" = none) (ma : mg "abs" = none) :
    FnOk P w K mg base CX0 1 f fd ["script", "salt"] (spDraw K) := by
  refine D.F.ok sc__law_draw (fun vs H Q E h => ?_) (fun cdv A outer s H vs Q E hr h => ?_)
  · obtain ⟨a, ns, z, rfl, _⟩ := h
    rfl
  obtain ⟨a, ns, z, rfl, hS, hlen, z0, z1, k⟩ := h
  have nd := sc__law_draw.nd
  refine ⟨_, pss_cons (ps_setLc (i := 2) (own := [("cell", 4)]) (g := gName 4) (tt := tYes) (by rfl) nd rfl rfl (sw_true rfl rfl rfl (by decide +kernel))
      (pi_list (pe_slice sl_list (pv 0) po_none (po_some pe_int))) (blkOk_by (own := [("cell", 4)]) (N := ["script", "salt", "cells", "blend", "cell"]) (sc := defScope s__law_draw) (by decide +kernel))
      (fun _ _ _ _ _ => pg_name (i := 4) nd rfl (Or.inl rfl)) (fun _ _ _ _ _ => pts_nil)
      (fun _ _ _ _ _ => pe_callB call_abs (by rfl) ma boot_abs (pa_cons (pe_callTy call_int1 (by rfl) mi boot_int (pa_cons (pv 4) pa_nil)) pa_nil)))
    (pss_cons (ps_set (i := 3) nd rfl (.inl rfl) (pe_op op_add pe_int (pe_op op_mul pe_int (pv 1))))
    (pss_cons (ps_for PassesOwn.never rfl (pi_list (pv 2)) (pg_name (i := 4) nd rfl (.inl rfl))
      (pss_one (ps_set (i := 3) nd rfl (.inl rfl) (pe_op op_mod (pe_callTy call_int1 (by rfl) mi boot_int (pa_cons (pe_op op_add (pe_op op_add (pe_op op_mul (pv 3) pe_int) (pe_op op_mod (pv 4) pe_int)) pe_int) pa_nil)) pe_int))))
    (pss_one (ps_ret (pe_lst (pa_cons (pe_revL (pe_lc (own := [("cell", 4)]) (g := gName 4) (by rfl) nd (pi_list (pv 2))
        (blkOk_by (own := [("cell", 4)]) (N := ["script", "salt", "cells", "blend", "cell"]) (sc := defScope s__law_draw) (by decide +kernel))
        (fun _ _ _ _ _ => pg_name (i := 4) nd rfl (Or.inl rfl)) (fun _ _ _ _ _ => pts_one (pt_cmpR op_ge (pv 4) (pe_op op_pow pe_int pe_int) (nomark _)))
        (fun _ _ _ _ _ => pv 4))) (pa_cons (pv 3) pa_nil))))))), ?_⟩
  obtain ⟨ms, ems, lms⟩ := cut48 ns
  -- cells
  refine ⟨.ref a, rfl, 48, rfl, a, _, rfl, hS, fun c nc => ⟨c, rfl, ⟨_, .inl (.inl upd_same)⟩, fun D nD => ?_⟩⟩
  rw [ems] at nD ⊢
  have scl : Same H (upd H c (.lst (ms.map V.int))) := same_new nc
  have ncD : c ≠ D := ne_of_none upd_same nD
  refine lc_list (xs := ms.map V.int) (fun i H' => ∃ acc : List Int, H' c = some (.lst (ms.map V.int)) ∧ H' D = some (.lst (acc.map V.int)) ∧ acc.length ≤ i ∧ (∀ x ∈ acc, 0 ≤ x) ∧ Same H H')
    ⟨[], by rw [upd_ne ncD, upd_same], upd_same, Nat.le_refl _, fun x hx => absurd hx List.not_mem_nil, scl.trans (same_new nD)⟩
    (fun i H' _ ⟨_, h1, _⟩ => .inl (.inl h1)) ?_ ?_
  · rintro i x H' hx ⟨acc, h1, h2, h3, h4, h5⟩
    obtain ⟨n, _, rfl⟩ := map_at hx
    have hlt : i < 48 := by
      have q := (List.getElem?_eq_some_iff.mp hx).1
      rw [List.length_map] at q
      omega
    refine ⟨rfl, .int n, rfl, .inl ⟨n, rfl, n, rfl, acc.map V.int, h2, ?_, acc ++ [if n < 0 then -n else n], ?_, ?_, ?_, ?_, ?_⟩⟩
    · rw [List.length_map]
      exact Nat.lt_of_le_of_lt (show acc.length ≤ 48 by omega) (by decide)
    · rw [upd_ne ncD]
      exact h1
    · rw [upd_same, snoc_map]
    · rw [snoc_len]
      omega
    · intro x hx
      rcases List.mem_append.mp hx with hx | hx
      · exact h4 x hx
      · rw [List.mem_singleton.mp hx]
        split <;> omega
    · intro b o e
      by_cases hb : b = D
      · exact absurd e (by rw [hb]; intro e; have := scl.free nD; rw [this] at e; cases e)
      · rw [upd_ne hb]
        exact h5 b o e
  rintro H1 ⟨cs, h1, h2, h3, h4, h5⟩
  have lcs : cs.length ≤ 48 := by
    rw [List.length_map] at h3
    omega
  -- blend
  refine ⟨.int z, rfl, 104729, z, rfl, rfl, .inl ⟨by decide, by decide⟩, 7919, _, rfl, rfl, ?_⟩
  refine ⟨.ref D, rfl, D, rfl, ⟨_, .inl (.inl h2)⟩, for_list (K := K) (a := D) (xs := cs.map V.int)
    (fun i σ H' => ∃ (b : Int) (y : Option V), σ = [some (.ref a), some (.int z), some (.ref D), some (.int b), y] ∧ H' = H1 ∧ 0 ≤ b ∧ b < 2147483647)
    ⟨_, none, rfl, rfl, by omega, by omega⟩ (fun i σ H' _ ⟨_, _, _, e, _⟩ => by rw [e]; exact .inl (.inl h2)) ?_ ?_⟩
  · rintro i x σ H' hx ⟨b, y, rfl, rfl, b0, b1⟩
    obtain ⟨n, _, rfl⟩ := map_at hx
    refine ⟨.int b, rfl, b, 48271, rfl, rfl, .inr ⟨by decide, by decide⟩, .int n, rfl, n, 2147483549, rfl, rfl, by show (0 : Int) < 2147483549; decide, _, _, rfl, rfl, _, _, rfl, rfl, .inl ⟨_, rfl, _, 2147483647, rfl, rfl, by show (0 : Int) < 2147483647; decide, ?_⟩⟩
    exact ⟨_, _, rfl, rfl, Int.emod_nonneg _ (by decide), Int.emod_lt_of_pos _ (by decide)⟩
  rintro σ H' ⟨b, y, rfl, rfl, b0, b1⟩
  -- what is handed back
  refine ⟨.ref D, rfl, D, rfl, ⟨_, .inl (.inl h2)⟩, fun L nL => ?_⟩
  have nDL : D ≠ L := ne_of_none h2 nL
  refine lc_list (xs := cs.map V.int) (fun i H2 => ∃ acc : List Int, H2 D = some (.lst (cs.map V.int)) ∧ H2 L = some (.lst (acc.map V.int)) ∧ acc.length ≤ i ∧ (∀ x ∈ acc, 0 ≤ x) ∧ Same H H2)
    ⟨[], by rw [upd_ne nDL]; exact h2, upd_same, Nat.le_refl _, fun x hx => absurd hx List.not_mem_nil, h5.trans (same_new nL)⟩
    (fun i H2 _ ⟨_, g1, _⟩ => .inl (.inl g1)) ?_ ?_
  · rintro i x H2 hx ⟨acc, g1, g2, g3, g4, g5⟩
    obtain ⟨n, hn, rfl⟩ := map_at hx
    have hlt : i < 48 := by
      have q := (List.getElem?_eq_some_iff.mp hn).1
      omega
    refine ⟨rfl, .int n, rfl, 10, 18, rfl, rfl, ⟨by decide, by decide, by decide⟩, n, _, rfl, rfl, _, rfl, ite2 (fun hge => ?_) (fun hge => ?_)⟩
    · refine ⟨.int n, rfl, acc.map V.int, g2, ?_, acc ++ [n], ?_, ?_, ?_, ?_, ?_⟩
      · rw [List.length_map]
        exact Nat.lt_of_le_of_lt (show acc.length ≤ 48 by omega) (by decide)
      · rw [upd_ne nDL]
        exact g1
      · rw [upd_same, snoc_map]
      · rw [snoc_len]
        omega
      · intro x hx
        rcases List.mem_append.mp hx with hx | hx
        · exact g4 x hx
        · rw [List.mem_singleton.mp hx]
          exact h4 n (List.mem_of_getElem? hn)
      · intro q o e
        by_cases hb : q = L
        · exact absurd e (by rw [hb]; intro e; have := h5.free nL; rw [this] at e; cases e)
        · rw [upd_ne hb]
          exact g5 q o e
    · exact ⟨acc, g1, g2, by omega, g4, g5⟩
  rintro H2 ⟨xs, g1, g2, g3, g4, g5⟩
  rw [List.length_map] at g3
  refine ⟨L, _, rfl, .inl (.inl g2), fun l nl => ?_⟩
  refine ⟨.int b, rfl, by show 2 ≤ sizeLine; decide, fun d nd2 => ?_⟩
  have ndl : d ≠ l := fun e => by
    rw [e, upd_same] at nd2
    cases nd2
  have sl : Same H (upd H2 l (.lst (xs.map V.int).reverse)) := g5.trans (same_new nl)
  refine k d l _ (sl.free nd2) (g5.free nl) ⟨xs.reverse, b, ndl, upd_same, ?_, ?_, ?_, b0, b1⟩ (sl.trans (same_new nd2))
  · rw [upd_ne (fun e => ndl e.symm), upd_same, List.map_reverse]
  · rw [List.length_reverse]
    omega
  · intro x hx
    exact g4 x (List.mem_reverse.mp hx)
end
end K05
end

section
set_option maxHeartbeats 1000000
namespace K05
open PySem PySem.Spec PyProof.Rows L2 Zc
open PySem.StrLaws PySem.Builtin.Str
abbrev mk (l : List Nat) : Str := ⟨l.toArray⟩
theorem mk_len (l : List Nat) : (mk l).length = l.length := str_len_mk l
theorem mk_inj {l m : List Nat} : (V.str (mk l) = V.str (mk m)) ↔ l = m := by
  constructor
  · intro h
    have h2 : mk l = mk m := V.str.inj h
    have h3 : l.toArray = m.toArray := congrArg Str.cps h2
    simpa using h3
  · rintro rfl
    rfl
/-! ### the first newline -/
theorem tw_first : ∀ (l : List Nat) (n : Nat), l[n]? = some 10 → (∀ k, k < n → l[k]? ≠ some 10) → sk l = n
  | [], n, h, _ => by cases h
  | c :: r, 0, h, _ => by
    have e : c = 10 := by simpa using h
    subst e
    rfl
  | c :: r, n + 1, h, h0 => by
    have e : c ≠ 10 := fun x => h0 0 (by omega) (by rw [x]; rfl)
    have e2 : noNl c = true := by simp [noNl, e]
    have ih := tw_first r n h fun k hk => h0 (k + 1) (by omega)
    unfold sk at ih ⊢
    rw [List.takeWhile_cons_of_pos e2, List.length_cons, ih]
theorem tw_none : ∀ l : List Nat, (∀ k : Nat, l[k]? ≠ some 10) → sk l = l.length
  | [], _ => rfl
  | c :: r, h => by
    have e : c ≠ 10 := fun x => h 0 (by rw [x]; rfl)
    have e2 : noNl c = true := by simp [noNl, e]
    have ih := tw_none r fun k => h (k + 1)
    unfold sk at ih ⊢
    rw [List.takeWhile_cons_of_pos e2, List.length_cons, ih, List.length_cons]
theorem find_nl (L : List Nat) (i : Nat) (hi : i ≤ L.length) :
    Txt.find3 (mk L) ⟨#[10]⟩ (i : Int) = if sk (L.drop i) < (L.drop i).length then ((i + sk (L.drop i) : Nat) : Int) else -1 := by
  have ef : fromIndex (mk L).length (i : Int) = i := by
    unfold fromIndex
    omega
  unfold Txt.find3
  have hl := mk_len L
  rw [ef, occ_eq]
  have at_ : ∀ k, StrLaws.At (mk L) ⟨#[10]⟩ (mk L).length k ↔ L[k]? = some 10 := fun k => subAt_one (mk L) 10 k
  rcases occ_first (mk L) ⟨#[10]⟩ (mk L).length 1 (Nat.le_refl 1) (List.range' i ((mk L).length + 1 - i)) i (fun k hk => by
      simp [List.mem_range'] at hk
      omega) with ⟨h0, hn⟩ | ⟨pre, a, post, e, h0, ha, hn⟩
  · rw [h0]
    have : sk (L.drop i) = (L.drop i).length := by
      refine tw_none _ fun k h => ?_
      rw [List.getElem?_drop] at h
      have hk := (List.getElem?_eq_some_iff.mp h).1
      refine hn (i + k) ?_ ((at_ _).mpr h)
      rw [List.mem_range', hl]
      exact ⟨k, by omega, by omega⟩
    rw [if_neg (by omega)]
  · have hpl : ∀ m, m < pre.length → pre[m]? = some (i + m) := by
      intro m hm
      have h1 : (List.range' i ((mk L).length + 1 - i))[m]? = pre[m]? := by rw [e, List.getElem?_append_left hm]
      have h2 : m < (mk L).length + 1 - i := by
        have := congrArg List.length e
        simp at this
        omega
      rw [List.getElem?_range' h2] at h1
      rw [← h1]
      simp
    have hap : a = i + pre.length := by
      have h1 : (List.range' i ((mk L).length + 1 - i))[pre.length]? = some a := by rw [e]; simp
      have h2 : pre.length < (mk L).length + 1 - i := by
        have := congrArg List.length e
        simp at this
        omega
      rw [List.getElem?_range' h2] at h1
      simpa using h1.symm
    have hs : sk (L.drop i) = pre.length := by
      refine tw_first _ _ ?_ fun k hk h => ?_
      · rw [List.getElem?_drop, ← hap]
        exact (at_ a).mp ha
      · rw [List.getElem?_drop] at h
        exact hn (i + k) (List.mem_of_getElem? (hpl k hk)) ((at_ _).mpr h)
    have hlt : pre.length < (L.drop i).length := by
      have h3 := (List.getElem?_eq_some_iff.mp ((at_ a).mp ha)).1
      rw [List.length_drop]
      omega
    generalize (forIn (List.range' i ((mk L).length + 1 - i)) ((#[] : Array Nat), i) (occBody (mk L) ⟨#[10]⟩ (mk L).length 1)).run.fst = arr at h0
    have h1 : arr.toList[0]? = some a := by simpa using h0
    rw [hs, if_pos hlt]
    cases hL : arr.toList with
    | nil => rw [hL] at h1; cases h1
    | cons b t =>
      rw [hL] at h1
      have h4 : b = a := by simpa using h1
      show (b : Int) = _
      rw [h4, hap]
/-! ### the signs of names -/
abbrev namesS : Str := "abcdefghijklmnopqrstuvwxyzABCDEFGHIJKLMNOPQRSTUVWXYZ0123456789_"
theorem names_low : ∀ c : Fin 128, decide (c.1 ∈ namesS.cps.toList) = isL c.1 := by decide +kernel
theorem names_hi : ∀ c ∈ namesS.cps.toList, c < 128 := by decide +kernel
theorem names_is (c : Nat) : decide (c ∈ namesS.cps.toList) = isL c := by
  by_cases h : c < 128
  · exact names_low ⟨c, h⟩
  · have h1 : ¬ c ∈ namesS.cps.toList := fun x => h (names_hi c x)
    have h2 : isL c = false := by
      unfold isL
      simp only [Bool.or_eq_false_iff, Bool.and_eq_false_iff, beq_eq_false_iff_ne, decide_eq_false_iff_not]
      omega
    rw [h2, decide_eq_false h1]
theorem cut2 (L : List Nat) (i : Nat) (hi : i ≤ L.length) : cutS (mk L) (some (i : Int)) (some ((i : Int) + 2)) = mk ((L.drop i).take 2) := by
  unfold cutS
  rw [show ((i : Int) + 2) = ((i + 2 : Nat) : Int) by omega, HT.sIx_nat, HT.sIx_nat, mk_len]
  congr 2
  show ((L.drop (min i L.length)).take (min (i + 2) L.length - min i L.length)) = _
  rw [Nat.min_eq_left hi]
  by_cases h : i + 2 ≤ L.length
  · rw [Nat.min_eq_left h]
    congr 1
    omega
  · rw [Nat.min_eq_right (by omega), List.take_of_length_le (by rw [List.length_drop]; omega), List.take_of_length_le (by rw [List.length_drop]; omega)]
theorem cutR (L : List Nat) (i j : Nat) (hij : i ≤ j) (hj : j ≤ L.length) : cutS (mk L) (some (i : Int)) (some (j : Int)) = mk ((L.drop i).take (j - i)) := by
  unfold cutS
  rw [HT.sIx_nat, HT.sIx_nat, mk_len]
  congr 2
  show ((L.drop (min i L.length)).take (min j L.length - min i L.length)) = _
  rw [Nat.min_eq_left hj, Nat.min_eq_left (by omega)]
theorem take2 {c : Nat} {r : List Nat} : ((c :: r).take 2 = [45, 62]) ↔ (c = 45 ∧ r.head? = some 62) := by
  cases r with
  | nil => simp
  | cons a r => simp
theorem tw_end {p : Nat → Bool} : ∀ (l : List Nat), ∀ k, l[(l.takeWhile p).length]? = some k → p k = false
  | [], k, h => by cases h
  | c :: r, k, h => by
    by_cases e : p c = true
    · rw [List.takeWhile_cons_of_pos e, List.length_cons] at h
      exact tw_end r k h
    · rw [List.takeWhile_cons_of_neg e] at h
      have : c = k := by simpa using h
      rw [← this]
      exact Bool.eq_false_iff.mpr e
theorem tw_at {p : Nat → Bool} : ∀ (l : List Nat) (j : Nat) (k : Nat), j < (l.takeWhile p).length → l[j]? = some k → p k = true
  | [], j, k, h, _ => by simp at h
  | c :: r, j, k, h, hk => by
    by_cases e : p c = true
    · rw [List.takeWhile_cons_of_pos e, List.length_cons] at h
      cases j with
      | zero =>
        have : c = k := by simpa using hk
        rw [← this]
        exact e
      | succ j => exact tw_at r j k (by omega) hk
    · rw [List.takeWhile_cons_of_neg e] at h
      simp at h
def spLine : Sp := fun vs H Q _ => ∃ (L : List Nat) (i : Nat), vs = [.str (mk L), .int i] ∧ i ≤ L.length ∧ L.length ≤ 1000000 ∧ Q (.int ((i + sk (L.drop i) : Nat))) H
def spEnd : Sp := fun vs H Q _ => ∃ (L : List Nat) (i c : Nat) (r : List Nat), vs = [.str (mk L), .int i] ∧ L.drop i = c :: r ∧ L.length ≤ 1000000 ∧ Q (.int ((i + tl c r : Nat))) H
section
variable {P : Program} {w : World} {K : PySem.W.Frag} {mg : Str → Option Value} {base : Heap}
theorem ok_line_end {f : Addr} {fd : FuncData} (D : At K mg "line_end" s_line_end ["text", "at"] f fd) (ml : mg "len" = none) :
    FnOk P w K mg base CX0 1 f fd ["text", "at"] spLine := by
  refine D.F.ok sc_line_end (fun vs H Q E h => ?_) (fun cdv A outer s H vs Q E hr h => ?_)
  · obtain ⟨L, i, rfl, _⟩ := h
    rfl
  obtain ⟨L, i, rfl, hi, hL, q⟩ := h
  have nd := sc_line_end.nd
  refine ⟨_, pss_cons (ps_set (i := 2) nd rfl (.inl rfl) (pe_bm PySem.F.plainAttrs_str PySem.F.slot_str_find PySem.F.type_str_find mt_find3 (pv 0) (pa_cons pe_str (pa_cons (pv 1) pa_nil))))
    (pss_one (ps_ret (pe_ifExp (pt_cmpR op_lt (pv 2) pe_int (nomark _)) (pe_callB call_len_str (by rfl) ml PySem.boot_len (pa_cons (pv 0) pa_nil)) (pv 2)))), ?_⟩
  refine ⟨.str (mk L), rfl, rfl, .int i, rfl, mk L, ⟨#[10]⟩, i, rfl, rfl, ?_⟩
  rw [find_nl L i hi]
  have hsk : sk (L.drop i) ≤ (L.drop i).length := tw_le _
  rw [List.length_drop] at hsk
  by_cases h : sk (L.drop i) < (L.drop i).length
  · rw [if_pos h]
    refine ⟨_, rfl, _, 0, rfl, rfl, _, rfl, ?_⟩
    refine iteFe (by simp; omega) ⟨_, rfl, q⟩
  · rw [if_neg h]
    refine ⟨_, rfl, _, 0, rfl, rfl, _, rfl, ?_⟩
    refine iteTe (by decide) ⟨.str (mk L), rfl, mk L, rfl, by rw [mk_len]; exact Nat.le_trans hL (by decide), ?_⟩
    rw [List.length_drop] at h
    rw [show ((mk L).length : Int) = ((i + sk (L.drop i) : Nat) : Int) by rw [mk_len]; omega]
    exact q
end
end K05
end

section
set_option maxHeartbeats 1000000
namespace K05
open PySem PySem.Spec PyProof.Rows L2 Zc
def spD (q : Nat × List Nat) : PyData := .tuple [.int ((q.1 : Nat) : Int), .int ((q.1 + q.2.length : Nat) : Int)]
def tkD (q : Nat × List Nat) : PyData := .str (mk q.2)
def plD (q : Nat × List Nat) : PyData := .int ((q.1 : Nat) : Int)
def spSpans (K : PySem.W.Frag) : Sp := fun vs H Q _ => ∃ (L : List Nat) (S : Addr → Prop), vs = [.str (mk L)] ∧ L.length ≤ 1000000 ∧ (∀ b, S b → H b ≠ none) ∧
  ∀ H' p xs, Same H H' → H p = none → H' p = some (.lst xs) → DpAll K (cut S H') xs ((tok 0 L).map spD) → Q (.ref p) H'
def spToks (g : Nat × List Nat → PyData) (K : PySem.W.Frag) : Sp := fun vs H Q _ => ∃ (L : List Nat) (S : Addr → Prop), vs = [.str (mk L)] ∧ L.length ≤ 1000000 ∧ (∀ b, S b → H b ≠ none) ∧
  ∀ H' p, Same H H' → H p = none → Dp K (cut S H') (.ref p) (.tuple ((tok 0 L).map g)) → Q (.ref p) H'
theorem drop_at {L : List Nat} {i : Nat} {c : Nat} {r : List Nat} (h : L.drop i = c :: r) : i < L.length ∧ L[i]? = some c := by
  have h1 : (L.drop i)[0]? = some c := by rw [h]; rfl
  rw [List.getElem?_drop, Nat.add_zero] at h1
  exact ⟨(List.getElem?_eq_some_iff.mp h1).1, h1⟩
theorem drop_cons {L : List Nat} {i : Nat} (h : i < L.length) : L.drop i = L[i] :: L.drop (i + 1) := List.drop_eq_getElem_cons h
theorem hash_is (c : Nat) : decide (V.str ⟨#[c]⟩ = V.str ⟨#[35]⟩) = decide (c = 35) := by
  have := @mk_inj [c] [35]
  refine decide_eq_decide.mpr (this.trans ?_)
  simp
section
variable {P : Program} {w : World} {K : PySem.W.Frag} {mg : Str → Option Value} {base : Heap}
theorem ok_token_end {f : Addr} {fd : FuncData} (D : At K mg "token_end" s_token_end ["text", "at"] f fd) (ml : mg "len" = none) (mx : mg "max" = none) (mn : ∃ u, mg "NAME_SIGNS" = some (.str namesS u)) :
    FnOk P w K mg base CX0 1 f fd ["text", "at"] spEnd := by
  obtain ⟨un, mn⟩ := mn
  refine D.F.ok sc_token_end (fun vs H Q E h => ?_) (fun cdv A outer s H vs Q E hr h => ?_)
  · obtain ⟨L, i, c, r, rfl, _⟩ := h
    rfl
  obtain ⟨L, i, c, r, rfl, hd, hL, q⟩ := h
  have nd := sc_token_end.nd
  have sz : (mk L).length ≤ sizeLine := by rw [mk_len]; exact Nat.le_trans hL (by decide)
  obtain ⟨hi, _⟩ := drop_at hd
  refine ⟨_, pss_cons (ps_if (pt_cmpR op_eq (pe_slice sl_str (pv 0) (po_some (pv 1)) (po_some (pe_op op_add (pv 1) pe_int))) pe_str (nomark _)) (pss_one (ps_ret (pe_op op_add (pv 1) pe_int))) pss_nil)
    (pss_cons (ps_set (i := 2) nd rfl (.inl rfl) (pv 1))
    (pss_cons (ps_while PassesOwn.never (PW.pt (pw_and (pt_cmpR op_lt (pv 2) (pe_callB call_len_str (by rfl) ml PySem.boot_len (pa_cons (pv 0) pa_nil)) (nomark _))
        (pw_and1 (pt_cmpR op_in_sign (pe_ix ix_str (pv 0) (pv 2) (fun _ _ => rfl)) (pe_glob (v := .str namesS) (by rfl) mn ⟨_, rfl⟩) (by rfl)))))
      (pss_one (ps_aug (i := 2) nd rfl (.inl rfl) pe_int ip_add)))
    (pss_one (ps_ret (pe_callB (call_max2 rfl) (by rfl) mx PyProof.Rows.boot_max (pa_cons (pv 2) (pa_cons (pe_op op_add (pv 1) pe_int) pa_nil))))))), ?_⟩
  refine ⟨.str (mk L), rfl, .int i, rfl, (i : Int), rfl, .int i, rfl, _, 2, rfl, rfl, _, rfl, mk L, rfl, sz, rfl, _, rfl, ?_⟩
  rw [cut2 L i (by omega), hd]
  refine ite2 (fun e => ?_) (fun e => ?_)
  · have e1 : (c :: r).take 2 = [45, 62] := mk_inj.mp (of_decide_eq_true e)
    have e2 : tl c r = 2 := by
      unfold tl
      rw [if_pos (take2.mp e1)]
    refine ⟨.int i, rfl, _, 2, rfl, rfl, ?_⟩
    rw [e2] at q
    exact q
  have e1 : ¬ (c = 45 ∧ r.head? = some 62) := fun x => e (decide_eq_true (mk_inj.mpr (take2.mpr x)))
  have e2 : tl c r = max 1 ((c :: r).takeWhile isL).length := by
    unfold tl
    rw [if_neg e1]
  refine ⟨.int i, rfl, ?_⟩
  rw [← hd] at e2
  have tw := tw_le (p := isL) (L.drop i)
  rw [List.length_drop] at tw
  refine while_by (fun σ H' => H' = H ∧ ∃ j : Nat, σ = [some (.str (mk L)), some (.int i), some (.int ((i + j : Nat) : Int))] ∧ j ≤ ((L.drop i).takeWhile isL).length)
    (fun σ _ => match σ with | [_, _, some (.int z)] => (L.length - z.toNat) | _ => 0) ⟨rfl, 0, rfl, Nat.zero_le _⟩ ?_ ?_
  · rintro σ H1 ⟨rfl, j, rfl, hj⟩
    refine ⟨_, rfl, .str (mk L), rfl, mk L, rfl, sz, _, _, rfl, rfl, _, rfl, ite2 (fun hlt => ?_) (fun hlt => ?_)⟩
    · have hlt' : i + j < L.length := by
        have := of_decide_eq_true hlt
        rw [mk_len] at this
        omega
      refine ⟨.str (mk L), rfl, _, rfl, mk L, _, L[i + j], rfl, rfl, sz, atI_nat (List.getElem?_eq_getElem hlt'), L[i + j], namesS, rfl, rfl, _, rfl, ?_⟩
      rw [names_is]
      have hat : (L.drop i)[j]? = some L[i + j] := by
        rw [List.getElem?_drop]
        exact List.getElem?_eq_getElem hlt'
      by_cases hc : isL L[i + j] = true
      · refine iteTe hc ?_
        refine ⟨_, rfl, _, 1, rfl, rfl, ⟨rfl, j + 1, ?_, ?_⟩, ?_⟩
        · show [some (.str (mk L)), some (.int i), some (V.int (((i + j : Nat) : Int) + 1))] = _
          rw [show ((i + j : Nat) : Int) + 1 = ((i + (j + 1) : Nat) : Int) by omega]
        · rcases Nat.lt_or_ge j ((L.drop i).takeWhile isL).length with h | h
          · exact h
          · have : j = ((L.drop i).takeWhile isL).length := Nat.le_antisymm hj h
            subst this
            rw [tw_end _ _ hat] at hc
            cases hc
        · show L.length - (((i + j : Nat) : Int) + 1).toNat < L.length - ((i + j : Nat) : Int).toNat
          omega
      · have hf := Bool.eq_false_iff.mpr hc
        refine iteFe hf ?_
        have : j = ((L.drop i).takeWhile isL).length := by
          rcases Nat.lt_or_ge j ((L.drop i).takeWhile isL).length with h | h
          · exact absurd (tw_at _ j _ h hat) hc
          · exact Nat.le_antisymm hj h
        refine ⟨_, rfl, .int i, rfl, _, 1, rfl, rfl, _, _, rfl, ?_⟩
        rw [show (if (i : Int) + 1 > ((i + j : Nat) : Int) then (i : Int) + 1 else ((i + j : Nat) : Int)) = ((i + tl c r : Nat) : Int) by
          rw [e2, ← this]
          split <;> omega]
        exact q
    · have hge : L.length ≤ i + j := by
        have : ¬ (((i + j : Nat) : Int) < ((mk L).length : Int)) := fun x => hlt (decide_eq_true x)
        rw [mk_len] at this
        omega
      have : j = ((L.drop i).takeWhile isL).length := by omega
      refine ⟨_, rfl, .int i, rfl, _, 1, rfl, rfl, _, _, rfl, ?_⟩
      rw [show (if (i : Int) + 1 > ((i + j : Nat) : Int) then (i : Int) + 1 else ((i + j : Nat) : Int)) = ((i + tl c r : Nat) : Int) by
        rw [e2, ← this]
        split <;> omega]
      exact q
  · intro σ H1 Q1 Q2 hq h
    obtain ⟨v, e1, v2, e3, z, e4, e5, i1, i2, e6, e7, b, e8, h2⟩ := h
    refine ⟨v, e1, v2, e3, z, e4, e5, i1, i2, e6, e7, b, e8, ?_⟩
    cases b with
    | false => exact iteF (hq _ _ (by rw [if_neg Bool.false_ne_true] at h2; exact h2))
    | true =>
      rw [if_pos rfl] at h2
      refine iteT ?_
      obtain ⟨v, e1, v2, e2, z, i1, c1, e3, e4, e5, e6, c2, z2, e7, e8, b2, e9, h3⟩ := h2
      exact ⟨v, e1, v2, e2, z, i1, c1, e3, e4, e5, e6, c2, z2, e7, e8, b2, e9, hq _ _ h3⟩
theorem ok_token_spans {f fL fE : Addr} {fd fdL fdE : FuncData} (D : At K mg "token_spans" s_token_spans ["text"] f fd) (DL : At K mg "line_end" s_line_end ["text", "at"] fL fdL)
    (DE : At K mg "token_end" s_token_end ["text", "at"] fE fdE) (ml : mg "len" = none) (mx : mg "max" = none) (mn : ∃ u, mg "NAME_SIGNS" = some (.str namesS u)) :
    FnOk P w K mg base CX0 2 f fd ["text"] (spSpans K) := by
  have GL : FnOk P w K mg base CX0 1 fL fdL ["text", "at"] spLine := ok_line_end DL ml
  have GE : FnOk P w K mg base CX0 1 fE fdE ["text", "at"] spEnd := ok_token_end DE ml mx mn
  refine D.F.ok sc_token_spans (fun vs H Q E h => ?_) (fun cdv A outer s H vs Q E hr h => ?_)
  · obtain ⟨L, S, rfl, _⟩ := h
    rfl
  obtain ⟨L, S, rfl, hL, hS, q⟩ := h
  have nd := sc_token_spans.nd
  have sz : (mk L).length ≤ sizeLine := by rw [mk_len]; exact Nat.le_trans hL (by decide)
  refine ⟨_, pss_cons (ps_set (i := 1) nd rfl (.inl rfl) (pe_lst pa_nil))
    (pss_cons (ps_set (i := 2) nd rfl (.inl rfl) pe_int)
    (pss_cons (ps_while PassesOwn.never (pt_cmpR op_lt (pv 2) (pe_callB call_len_str (by rfl) ml PySem.boot_len (pa_cons (pv 0) pa_nil)) (nomark _))
      (pss_one (ps_if (pt_cmpR op_eq (pe_ix ix_str (pv 0) (pv 2) (fun _ _ => rfl)) pe_str (nomark _))
        (pss_one (ps_set (i := 2) nd rfl (.inl rfl) (pe_call GL hr (by rfl) DL.g DL.F.kp DL.b .nil pass0 (pa_cons (pv 0) (pa_cons (pv 2) pa_nil)))))
        (pss_one (ps_if (pt_cmpR op_in_sign (pe_ix ix_str (pv 0) (pv 2) (fun _ _ => rfl)) pe_str (by rfl))
          (pss_one (ps_aug (i := 2) nd rfl (.inl rfl) pe_int ip_add))
          (pss_cons (ps_set (i := 3) nd rfl (.inl rfl) (pe_call GE hr (by rfl) DE.g DE.F.kp DE.b .nil pass0 (pa_cons (pv 0) (pa_cons (pv 2) pa_nil))))
          (pss_cons (ps_expr (pe_bm PySem.F.plainAttrs_list PySem.F.slot_list_append PySem.F.type_list_append mt_append (pv 1) (pa_cons (pe_tup (pa_cons (pv 2) (pa_cons (pv 3) pa_nil))) pa_nil)))
          (pss_one (ps_set (i := 2) nd rfl (.inl rfl) (pv 3))))))))))
    (pss_one (ps_ret (pv 1))))), ?_⟩
  refine ⟨Nat.zero_le _, fun p np => ?_⟩
  refine while_by (fun σ H' => ∃ (a : Nat) (T : List (Nat × List Nat)) (xs : List V) (y : Option V), σ = [some (.str (mk L)), some (.ref p), some (.int a), y] ∧ a ≤ L.length ∧ tok 0 L = T ++ tok a (L.drop a) ∧
      H' p = some (.lst xs) ∧ DpAll K (cut (orA S p) H') xs (T.map spD) ∧ Same H H' ∧ T.length ≤ a)
    (fun σ _ => match σ with | [_, _, some (.int z), _] => (L.length - z.toNat) | _ => 0) ⟨0, [], [], none, rfl, Nat.zero_le _, rfl, upd_same, .nil, same_new np, Nat.le_refl _⟩ ?_ ?_
  · rintro σ H1 ⟨a, T, xs, y, rfl, ha, hT, hp, hxs, hs, hTa⟩
    refine ⟨_, rfl, .str (mk L), rfl, mk L, rfl, sz, _, _, rfl, rfl, _, rfl, ite2 (fun hlt => ?_) (fun hlt => ?_)⟩
    · have hlt' : a < L.length := by
        have := of_decide_eq_true hlt
        rw [mk_len] at this
        omega
      have hdc := drop_cons hlt'
      refine ⟨.str (mk L), rfl, _, rfl, mk L, _, L[a], rfl, rfl, sz, atI_nat (List.getElem?_eq_getElem hlt'), rfl, _, rfl, ?_⟩
      refine ite2 (fun e => ?_) (fun e => ?_)
      · have e' : L[a] = 35 := by
          have e0 : [L[a]] = [35] := mk_inj.mp (of_decide_eq_true e)
          simpa using e0
        refine ⟨.str (mk L), rfl, _, rfl, L, a, rfl, ha, hL, ?_⟩
        have hsk : sk (L.drop a) ≤ (L.drop a).length := tw_le _
        rw [List.length_drop] at hsk
        rw [hdc, e', sk_hash] at hsk ⊢
        rw [hdc, e', tok_hash, List.drop_drop, show a + 1 + sk (L.drop (a + 1)) = a + (sk (L.drop (a + 1)) + 1) by omega] at hT
        exact ⟨⟨_, T, xs, y, rfl, by omega, hT, hp, hxs, hs, by omega⟩, by
          show L.length - ((a + (sk (L.drop (a + 1)) + 1) : Nat) : Int).toNat < L.length - ((a : Nat) : Int).toNat
          omega⟩
      · have n35 : L[a] ≠ 35 := fun x => e (decide_eq_true ((mk_inj (l := [L[a]]) (m := [35])).mpr (by rw [x])))
        refine ⟨.str (mk L), rfl, _, rfl, mk L, _, L[a], rfl, rfl, sz, atI_nat (List.getElem?_eq_getElem hlt'), L[a], _, rfl, rfl, _, rfl, ?_⟩
        refine ite2 (fun g => ?_) (fun g => ?_)
        · have g' : L[a] = 32 ∨ L[a] = 10 := by
            have := of_decide_eq_true g
            have h2 : L[a] ∈ [32, 10] := this
            simpa using h2
          refine ⟨_, rfl, _, 1, rfl, rfl, ?_⟩
          rw [hdc, tok_gap g'] at hT
          refine ⟨⟨a + 1, T, xs, y, ?_, by omega, hT, hp, hxs, hs, by omega⟩, ?_⟩
          · rfl
          · show L.length - (((a : Nat) : Int) + 1).toNat < L.length - ((a : Nat) : Int).toNat
            omega
        · have n2 : ¬ (L[a] = 32 ∨ L[a] = 10) := fun x => g (decide_eq_true (by
            show L[a] ∈ [32, 10]
            simpa using x))
          refine ⟨.str (mk L), rfl, _, rfl, L, a, L[a], L.drop (a + 1), rfl, hdc, hL, ?_⟩
          have n32 : L[a] ≠ 32 := fun x => n2 (.inl x)
          have n10 : L[a] ≠ 10 := fun x => n2 (.inr x)
          have h1 := tl_pos L[a] (L.drop (a + 1))
          have h2 := tl_le L[a] (L.drop (a + 1))
          rw [← hdc, List.length_drop] at h2
          rw [hdc, tok_tok n35 n32 n10, ← hdc, List.drop_drop] at hT
          have hlen : ((L.drop a).take (tl L[a] (L.drop (a + 1)))).length = tl L[a] (L.drop (a + 1)) := by
            rw [List.length_take, List.length_drop]
            omega
          refine ⟨.ref p, rfl, .inl ⟨rfl, _, .inl (.inl hp)⟩, _, rfl, _, rfl, by show 2 ≤ sizeLine; decide, fun t nt => ?_⟩
          have pt : p ≠ t := ne_of_none hp nt
          have hp2 : (upd H1 t (.tup [.int (a : Nat), .int ((a + tl L[a] (L.drop (a + 1)) : Nat) : Int)])) p = some (.lst xs) := by rw [upd_ne pt]; exact hp
          refine ⟨p, xs, _, rfl, rfl, hp2, ?_, ?_⟩
          · rw [DpAll.len hxs, List.length_map]
            exact Nat.lt_of_le_of_lt (Nat.le_trans hTa (Nat.le_trans ha hL)) (by decide)
          refine ⟨_, rfl, ⟨_, T ++ [(a, (L.drop a).take (tl L[a] (L.drop (a + 1))))], _, _, rfl, by omega, by rw [hT, List.append_assoc]; rfl, upd_same, ?_, ?_, ?_⟩, ?_⟩
          · rw [List.map_append]
            refine DpAll.snoc (DpAll.keep hxs ((cut_same (same_new nt)).trans (cut_upd (.inr rfl)))) ?_
            have nS : ¬ orA S p t := fun x => x.elim (fun x => hS t x (hs.free nt)) fun x => pt x.symm
            refine .tup (.inl (.inl (show cut (orA S p) _ t = some (.tup _) from cut_of nS (by rw [upd_ne pt.symm]; exact upd_same)))) (.cons (.int _) (.cons ?_ .nil))
            rw [hlen]
            exact .int _
          · exact fun b o e => by
              rw [upd_ne (ne_of_none e np)]
              exact (hs.trans (same_new nt)) b o e
          · rw [List.length_append, List.length_singleton]
            omega
          · show L.length - ((a + tl L[a] (L.drop (a + 1)) : Nat) : Int).toNat < L.length - ((a : Nat) : Int).toNat
            omega
    · have hge : L.length ≤ a := by
        have : ¬ (((a : Nat) : Int) < ((mk L).length : Int)) := fun x => hlt (decide_eq_true x)
        rw [mk_len] at this
        omega
      refine ⟨.ref p, rfl, ?_⟩
      rw [List.drop_eq_nil_of_le hge, tok_nil, List.append_nil] at hT
      exact q _ p xs hs np hp (by rw [hT]; exact DpAll.keep hxs (cut_less fun b x => .inl x))
  · intro σ H1 Q1 Q2 hq h
    obtain ⟨v, e1, v2, e3, z, e4, e5, i1, i2, e6, e7, b, e8, h2⟩ := h
    exact ⟨v, e1, v2, e3, z, e4, e5, i1, i2, e6, e7, b, e8, hq _ _ h2⟩
end
end K05
end

section
set_option maxHeartbeats 1000000
namespace K05
open PySem PySem.Spec PyProof.Rows L2 Zc
theorem tok_text (L : List Nat) (l : List Nat) (i : Nat) (h : L.drop i = l) : ∀ q ∈ tok i l, q.2 = (L.drop q.1).take q.2.length := by
  match l with
  | [] =>
    rw [tok_nil]
    exact fun q h => absurd h List.not_mem_nil
  | c :: r =>
    have hr : L.drop (i + 1) = r := by rw [← List.drop_drop, h]; rfl
    by_cases c35 : c = 35
    · rw [c35, tok_hash]
      exact tok_text L (r.drop (sk r)) (i + (sk r + 1)) (by rw [show i + (sk r + 1) = i + 1 + sk r by omega, ← List.drop_drop, hr])
    · by_cases cg : c = 32 ∨ c = 10
      · rw [tok_gap cg]
        exact tok_text L r (i + 1) hr
      · have c32 : c ≠ 32 := fun z => cg (.inl z)
        have c10 : c ≠ 10 := fun z => cg (.inr z)
        rw [tok_tok c35 c32 c10]
        have ih := tok_text L ((c :: r).drop (tl c r)) (i + tl c r) (by rw [← List.drop_drop, h])
        have t2 := tl_le c r
        intro q hq
        rcases List.mem_cons.mp hq with rfl | hq
        · show (c :: r).take (tl c r) = (L.drop i).take ((c :: r).take (tl c r)).length
          rw [h, List.length_take, Nat.min_eq_left t2]
        · exact ih q hq
  termination_by l.length
  decreasing_by
    · rw [List.length_drop, List.length_cons]
      omega
    · simp
    · have := tl_pos c r
      rw [List.length_drop, List.length_cons]
      omega
section
variable {P : Program} {w : World} {K : PySem.W.Frag} {mg : Str → Option Value} {base : Heap}
theorem ok_tokens_of {f fS fL fE : Addr} {fd fdS fdL fdE : FuncData} (D : At K mg "tokens_of" s_tokens_of ["text"] f fd) (DS : At K mg "token_spans" s_token_spans ["text"] fS fdS) (DL : At K mg "line_end" s_line_end ["text", "at"] fL fdL)
    (DE : At K mg "token_end" s_token_end ["text", "at"] fE fdE) (ml : mg "len" = none) (mx : mg "max" = none) (mt : mg "tuple" = none) (mn : ∃ u, mg "NAME_SIGNS" = some (.str namesS u)) :
    FnOk P w K mg base CX0 3 f fd ["text"] (spToks tkD K) := by
  have GS : FnOk P w K mg base CX0 2 fS fdS ["text"] (spSpans K) := ok_token_spans DS DL DE ml mx mn
  refine D.F.ok sc_tokens_of (fun vs H Q E h => ?_) (fun cdv A outer s H vs Q E hr h => ?_)
  · obtain ⟨L, S, rfl, _⟩ := h
    rfl
  obtain ⟨L, S, rfl, hL, hS, q⟩ := h
  have nd := sc_tokens_of.nd
  have sz : (mk L).length ≤ sizeLine := by rw [mk_len]; exact Nat.le_trans hL (by decide)
  refine ⟨_, pss_one (ps_ret (pe_callTy call_tuple_of (by rfl) mt PyProof.Rows.boot_tuple (pa_cons (pe_lc (own := [("start", 1), ("end", 2)]) (g := gTup K 2 (gCons (gName 1) (gCons (gName 2) gNil))) (tt := tYes) (by rfl) nd
      (pi_list (pe_call GS hr (by rfl) DS.g DS.F.kp DS.b .nil pass0 (pa_cons (pv 0) pa_nil)))
      (blkOk_by (own := [("start", 1), ("end", 2)]) (N := ["text", "start", "end"]) (sc := defScope s_tokens_of) (by decide +kernel))
      (fun _ _ _ _ _ => pg_tup (by rfl) (pgs_cons (pg_name (i := 1) nd rfl (Or.inl rfl)) (pgs_cons (pg_name (i := 2) nd rfl (Or.inl rfl)) pgs_nil))) (fun _ _ _ _ _ => pts_nil)
      (fun _ _ _ _ _ => pe_slice sl_str (pv 0) (po_some (pv 1)) (po_some (pv 2)))) pa_nil))), ?_⟩
  refine ⟨.str (mk L), rfl, L, S, rfl, hL, hS, fun H1 p xs hs np hp hxs => ⟨p, rfl, ⟨_, .inl (.inl hp)⟩, fun Dl nD => ?_⟩⟩
  have pD : p ≠ Dl := ne_of_none hp nD
  refine lc_list (K := K) (a := p) (xs := xs) (fun i H' => H' = upd H1 Dl (.lst (((tok 0 L).take i).map fun q => V.str (mk q.2)))) rfl
    (fun i H' _ e => by rw [e]; exact .inl (.inl (by rw [upd_ne pD]; exact hp))) ?_ ?_
  · rintro i x H' hx rfl
    obtain ⟨q0, hq0, hx2⟩ := dp_map hxs hx
    obtain ⟨t, v1, v2, rfl, ht, h1, h2⟩ := dp_pair hx2
    have e1 := dp_int h1
    have e2 := dp_int h2
    subst e1 e2
    have hm := List.mem_of_getElem? hq0
    have hf := ((tok_facts L 0).2.2.2 q0 hm).2
    have hf2 := tok_text L L 0 rfl q0 hm
    have ht2 : SqT K (upd H1 Dl (.lst (((tok 0 L).take i).map fun q => V.str (mk q.2)))) t [.int (q0.1 : Nat), .int ((q0.1 + q0.2.length : Nat) : Int)] :=
      Same.seqT (fun b o e => by
        have e' := (cut_in e).2
        rw [upd_ne (ne_of_none e' nD)]
        exact e') ht
    refine ⟨t, _, rfl, ht2, rfl, _, _, rfl, _, _, rfl, ⟨rfl, rfl, ?_⟩⟩
    refine ⟨.str (mk L), rfl, _, rfl, _, rfl, _, rfl, _, rfl, mk L, rfl, sz, _, upd_same, ?_, ?_⟩
    · rw [List.length_map, List.length_take]
      have := (tok_facts L 0).2.1
      exact Nat.lt_of_le_of_lt (show min i (tok 0 L).length ≤ 1000000 by omega) (by decide)
    · rw [take_snoc hq0, cutR L q0.1 (q0.1 + q0.2.length) (by omega) (by omega), Nat.add_sub_cancel_left, ← hf2]
      funext b
      by_cases hb : b = Dl
      · rw [hb, upd_same, upd_same]
      · rw [upd_ne hb, upd_ne hb, upd_ne hb]
  · rintro H' rfl
    refine ⟨Dl, _, rfl, .inl ⟨.inl (.inl upd_same), fun t nt => ?_⟩⟩
    have exs : xs.length = (tok 0 L).length := by rw [DpAll.len hxs, List.length_map]
    rw [exs, List.take_length] at nt ⊢
    have s2 : Same H (upd (upd H1 Dl (.lst ((tok 0 L).map fun q => V.str (mk q.2)))) t (.tup ((tok 0 L).map fun q => V.str (mk q.2)))) := (hs.trans (same_new nD)).trans (same_new nt)
    have nt0 : H t = none := (hs.trans (same_new nD)).free nt
    exact q _ t s2 nt0 (.tup (.inl (.inl (cut_at (fun x => hS t x nt0)))) (dp_strs (fun q => mk q.2) (tok 0 L)))
theorem ok_token_places {f fS fL fE : Addr} {fd fdS fdL fdE : FuncData} (D : At K mg "token_places" s_token_places ["text"] f fd) (DS : At K mg "token_spans" s_token_spans ["text"] fS fdS) (DL : At K mg "line_end" s_line_end ["text", "at"] fL fdL)
    (DE : At K mg "token_end" s_token_end ["text", "at"] fE fdE) (ml : mg "len" = none) (mx : mg "max" = none) (mt : mg "tuple" = none) (mn : ∃ u, mg "NAME_SIGNS" = some (.str namesS u)) :
    FnOk P w K mg base CX0 3 f fd ["text"] (spToks plD K) := by
  have GS : FnOk P w K mg base CX0 2 fS fdS ["text"] (spSpans K) := ok_token_spans DS DL DE ml mx mn
  refine D.F.ok sc_token_places (fun vs H Q E h => ?_) (fun cdv A outer s H vs Q E hr h => ?_)
  · obtain ⟨L, S, rfl, _⟩ := h
    rfl
  obtain ⟨L, S, rfl, hL, hS, q⟩ := h
  have nd := sc_token_places.nd
  refine ⟨_, pss_one (ps_ret (pe_callTy call_tuple_of (by rfl) mt PyProof.Rows.boot_tuple (pa_cons (pe_lc (own := [("start", 1), ("_", 2)]) (g := gTup K 2 (gCons (gName 1) (gCons (gName 2) gNil))) (tt := tYes) (by rfl) nd
      (pi_list (pe_call GS hr (by rfl) DS.g DS.F.kp DS.b .nil pass0 (pa_cons (pv 0) pa_nil)))
      (blkOk_by (own := [("start", 1), ("_", 2)]) (N := ["text", "start", "_"]) (sc := defScope s_token_places) (by decide +kernel))
      (fun _ _ _ _ _ => pg_tup (by rfl) (pgs_cons (pg_name (i := 1) nd rfl (Or.inl rfl)) (pgs_cons (pg_name (i := 2) nd rfl (Or.inl rfl)) pgs_nil))) (fun _ _ _ _ _ => pts_nil)
      (fun _ _ _ _ _ => pv 1)) pa_nil))), ?_⟩
  refine ⟨.str (mk L), rfl, L, S, rfl, hL, hS, fun H1 p xs hs np hp hxs => ⟨p, rfl, ⟨_, .inl (.inl hp)⟩, fun Dl nD => ?_⟩⟩
  have pD : p ≠ Dl := ne_of_none hp nD
  refine lc_list (K := K) (a := p) (xs := xs) (fun i H' => H' = upd H1 Dl (.lst (((tok 0 L).take i).map fun q => V.int (q.1 : Nat)))) rfl
    (fun i H' _ e => by rw [e]; exact .inl (.inl (by rw [upd_ne pD]; exact hp))) ?_ ?_
  · rintro i x H' hx rfl
    obtain ⟨q0, hq0, hx2⟩ := dp_map hxs hx
    obtain ⟨t, v1, v2, rfl, ht, h1, h2⟩ := dp_pair hx2
    have e1 := dp_int h1
    have e2 := dp_int h2
    subst e1 e2
    have ht2 : SqT K (upd H1 Dl (.lst (((tok 0 L).take i).map fun q => V.int (q.1 : Nat)))) t [.int (q0.1 : Nat), .int ((q0.1 + q0.2.length : Nat) : Int)] :=
      Same.seqT (fun b o e => by
        have e' := (cut_in e).2
        rw [upd_ne (ne_of_none e' nD)]
        exact e') ht
    refine ⟨t, _, rfl, ht2, rfl, _, _, rfl, _, _, rfl, ⟨rfl, rfl, ?_⟩⟩
    refine ⟨_, rfl, _, upd_same, ?_, ?_⟩
    · rw [List.length_map, List.length_take]
      have := (tok_facts L 0).2.1
      exact Nat.lt_of_le_of_lt (show min i (tok 0 L).length ≤ 1000000 by omega) (by decide)
    · rw [take_snoc hq0]
      funext b
      by_cases hb : b = Dl
      · rw [hb, upd_same, upd_same]
      · rw [upd_ne hb, upd_ne hb, upd_ne hb]
  · rintro H' rfl
    refine ⟨Dl, _, rfl, .inl ⟨.inl (.inl upd_same), fun t nt => ?_⟩⟩
    have exs : xs.length = (tok 0 L).length := by rw [DpAll.len hxs, List.length_map]
    rw [exs, List.take_length] at nt ⊢
    have s2 : Same H (upd (upd H1 Dl (.lst ((tok 0 L).map fun q => V.int (q.1 : Nat)))) t (.tup ((tok 0 L).map fun q => V.int (q.1 : Nat)))) := (hs.trans (same_new nD)).trans (same_new nt)
    have nt0 : H t = none := (hs.trans (same_new nD)).free nt
    exact q _ t s2 nt0 (.tup (.inl (.inl (cut_at (fun x => hS t x nt0)))) (dp_intsG (fun q => (q.1 : Nat)) (tok 0 L)))
end
end K05
end

section
set_option maxHeartbeats 2000000
namespace K05
open PySem PySem.Spec PyProof.Rows L2 Zc
def spLetter : Sp := fun vs H Q _ => ∃ c : Nat, vs = [.str (mk [c])] ∧ Q (.bl (isL c)) H
def nm : Wst → Str
  | .gap => "gap"
  | .remark => "remark"
  | .word => "word"
  | .dash => "dash"
  | .sign => "sign"
theorem nm_iff (s t : Wst) : (V.str (nm s) = V.str (nm t)) ↔ s = t := by
  cases s <;> cases t <;> first
    | exact ⟨fun _ => rfl, fun _ => rfl⟩
    | exact ⟨fun h => absurd (V.str.inj h) (by decide +kernel), fun h => by cases h⟩
def prW (q : Nat × List Nat) : PyData := .tuple [.int ((q.1 : Nat) : Int), .str (mk q.2)]
def spWalk (K : PySem.W.Frag) : Sp := fun vs H Q _ => ∃ (L : List Nat) (S : Addr → Prop), vs = [.str (mk L)] ∧ L.length ≤ 1000000 ∧ (∀ b, S b → H b ≠ none) ∧
  ∀ H' p xs, Same H H' → H p = none → H' p = some (.lst xs) → DpAll K (cut S H') xs ((tok 0 L).map prW) → Q (.ref p) H'
theorem lt1 (a c : Nat) : (([a] : List Nat) ≤ [c]) ↔ a ≤ c := by
  rw [← List.not_lt, ← Nat.not_lt]
  refine not_congr ?_
  constructor
  · intro h
    cases h with
    | rel h => exact h
    | cons h => cases h
  · intro h
    exact .rel h
section
variable {P : Program} {w : World} {K : PySem.W.Frag} {mg : Str → Option Value} {base : Heap}
theorem ok_is_letter {f : Addr} {fd : FuncData} (D : At K mg "_law_is_letter" s__law_is_letter ["sign"] f fd) : FnOk P w K mg base CX0 1 f fd ["sign"] spLetter := by
  refine D.F.ok sc__law_is_letter (fun vs H Q E h => ?_) (fun cdv A outer s H vs Q E hr h => ?_)
  · obtain ⟨c, rfl, _⟩ := h
    rfl
  obtain ⟨c, rfl, q⟩ := h
  refine ⟨_, pss_one (ps_ret (pe_or (pe_cmpR op_eq (pv 0) pe_str (nomark _)) (pe_or (pe_chain op_le_str op_le_str pe_str (pv 0) pe_str) (pe_or (pe_chain op_le_str op_le_str pe_str (pv 0) pe_str) (pe_one (pe_chain op_le_str op_le_str pe_str (pv 0) pe_str)))))), ?_⟩
  have rng : ∀ (lo hi : Nat) (Q' : VK), Q' (.bl (decide (lo ≤ c) && decide (c ≤ hi))) H →
      (∃ k, V.bl (!decide ([c] < [lo])) = .bl k ∧ (if k = true then (∃ i j : Str, V.str (mk [c]) = .str i ∧ V.str (mk [hi]) = .str j ∧ Q' (.bl (!decide (j.cps.toList < i.cps.toList))) H) else Q' (.bl false) H)) := by
    intro lo hi Q' h
    refine ⟨_, rfl, ?_⟩
    have e1 : (!decide ([c] < [lo])) = decide (lo ≤ c) := by
      rw [← decide_not]
      exact decide_eq_decide.mpr (List.not_lt.trans (lt1 lo c))
    have e2 : (!decide ([hi] < [c])) = decide (c ≤ hi) := by
      rw [← decide_not]
      exact decide_eq_decide.mpr (List.not_lt.trans (lt1 c hi))
    rw [e1]
    cases hd : decide (lo ≤ c) with
    | true =>
      rw [hd, Bool.true_and] at h
      refine iteT ⟨mk [c], mk [hi], rfl, rfl, ?_⟩
      show Q' (.bl (!decide ([hi] < [c]))) H
      rw [e2]
      exact h
    | false =>
      rw [hd, Bool.false_and] at h
      exact iteF h
  refine ⟨_, rfl, rfl, _, rfl, ?_⟩
  have or_ : ∀ (b r : Bool) (A : Prop), (b = true → Q (.bl true) H) → (b = false → A) → (if b = true then Q (.bl true) H else A) := by
    intro b r A h1 h2
    cases b with
    | true => exact iteT (h1 rfl)
    | false => exact iteF (h2 rfl)
  have e1 : decide (V.str (mk [c]) = V.str (Str.ofString "_")) = (c == 95) := by
    rw [show (c == 95) = decide (c = 95) from rfl]
    exact decide_eq_decide.mpr ((mk_inj (l := [c]) (m := [95])).trans (by simp))
  rw [show (isL c) = (c == 95 || (decide (97 ≤ c) && decide (c ≤ 122)) || (decide (65 ≤ c) && decide (c ≤ 90)) || (decide (48 ≤ c) && decide (c ≤ 57))) from rfl] at q
  refine or_ _ true _ (fun e => ?_) (fun e => ?_)
  · rw [show (c == 95) = true from e1.symm.trans e, Bool.true_or, Bool.true_or, Bool.true_or] at q
    exact q
  rw [show (c == 95) = false from e1.symm.trans e, Bool.false_or] at q
  refine ⟨.str (mk [c]), rfl, mk [97], mk [c], rfl, rfl, rng 97 122 (fun x H1 => ∃ c1, x = V.bl c1 ∧ if c1 = true then _ else _) ⟨_, rfl, or_ _ true _ (fun e2 => ?_) (fun e2 => ?_)⟩⟩
  · rw [e2, Bool.true_or, Bool.true_or] at q
    exact q
  rw [e2, Bool.false_or] at q
  refine ⟨.str (mk [c]), rfl, mk [65], mk [c], rfl, rfl, rng 65 90 (fun x H1 => ∃ c1, x = V.bl c1 ∧ if c1 = true then _ else _) ⟨_, rfl, or_ _ true _ (fun e3 => ?_) (fun e3 => ?_)⟩⟩
  · rw [e3, Bool.true_or] at q
    exact q
  rw [e3, Bool.false_or] at q
  exact ⟨.str (mk [c]), rfl, mk [48], mk [c], rfl, rfl, rng 48 57 Q q⟩
end
end K05
end

section
set_option maxHeartbeats 2000000
namespace K05
open PySem PySem.Spec PyProof.Rows L2 Zc
theorem in_gap (c : Nat) : inV (.str (mk [c])) [.str " ", .str "\n"] = decide (c = 32 ∨ c = 10) := by
  have h : ∀ a : Nat, ((mk [a] : Str) == mk [c]) = decide (c = a) := fun a => by
    have e : (mk [a] = mk [c]) ↔ c = a := by
      constructor
      · intro h
        have := mk_inj.mp (congrArg V.str h)
        simpa [eq_comm] using this
      · rintro rfl
        rfl
    rw [Bool.eq_iff_iff, beq_iff_eq, decide_eq_true_iff]
    exact e
  show ((mk [32] : Str) == mk [c] || ((mk [10] : Str) == mk [c] || false)) = _
  rw [h, h, Bool.or_false, Bool.decide_or]
section
variable {P : Program} {w : World} {K : PySem.W.Frag} {mg : Str → Option Value} {base : Heap}
theorem tOrAnd {t1 t2 t3 t4 : TT} {σ : L2.St} {H : Hp} {b1 b2 b3 b4 : Bool} {Q : Bool → Hp → Prop} (h1 : ∀ Q : Bool → Hp → Prop, Q b1 H → t1 σ H Q) (h2 : ∀ Q : Bool → Hp → Prop, Q b2 H → t2 σ H Q)
    (h3 : ∀ Q : Bool → Hp → Prop, Q b3 H → t3 σ H Q) (h4 : ∀ Q : Bool → Hp → Prop, Q b4 H → t4 σ H Q) (q : Q ((b1 && b2) || (b3 && b4)) H) : tOr (tAnd t1 t2) (tAnd t3 t4) σ H Q := by
  have B : ∀ Q : Bool → Hp → Prop, Q (b3 && b4) H → tAnd t3 t4 σ H Q := by
    intro Q q
    refine h3 _ ?_
    cases b3 with
    | true => exact iteT (h4 _ q)
    | false => exact iteF q
  refine h1 _ ?_
  cases b1 with
  | true =>
    refine iteT (h2 _ ?_)
    cases b2 with
    | true => exact iteT q
    | false => exact iteF (B _ q)
  | false => exact iteF (iteF (B _ q))
/-- one turn of the walk -/
def WInv (S : Addr → Prop) (L : List Nat) (H : Hp) (p : Addr) (i : Nat) (st : Wst) (f : List (Nat × List Nat)) (H' : Hp) : Prop :=
  ∃ xs, wgo st f i (L.drop i) = tok 0 L ∧ (st = .word ∨ st = .dash → f ≠ []) ∧ (∀ q ∈ f, q.2.length ≤ i) ∧ f.length ≤ i ∧
    H' p = some (.lst xs) ∧ DpAll K (cut (orA S p) H') xs (f.map prW) ∧ Same H H'
theorem ok_walk {f fI : Addr} {fd fdI : FuncData} (D : At K mg "_law_walk" s__law_walk ["text"] f fd) (DI : At K mg "_law_is_letter" s__law_is_letter ["sign"] fI fdI) (m_enumerate : mg "enumerate" = none) :
    FnOk P w K mg base CX0 2 f fd ["text"] (spWalk K) := by
  have GI : FnOk P w K mg base CX0 1 fI fdI ["sign"] spLetter := ok_is_letter DI
  refine D.F.ok sc__law_walk (fun vs H Q E h => ?_) (fun cdv A outer s H vs Q E hr h => ?_)
  · obtain ⟨L, S, rfl, _⟩ := h
    rfl
  obtain ⟨L, S, rfl, hL, hS, q⟩ := h
  have nd := sc__law_walk.nd
  refine ⟨_, (pss_cons (ps_par (i := 1) (j := 2) (by rfl) nd rfl rfl (by decide) rfl rfl (pa_cons (pe_lst pa_nil) (pa_cons pe_str pa_nil)) (by rfl))
  (pss_cons (ps_for PassesOwn.never rfl (pi_enumS (by rfl) m_enumerate (pa_cons (pv 0) pa_nil)) (pg_tup (by rfl) (pgs_cons (pg_name (i := 3) nd rfl (Or.inl rfl)) (pgs_cons (pg_name (i := 4) nd rfl (Or.inl rfl)) pgs_nil)))
    (pss_one (ps_if (pt_cmpR op_eq (pv 2) pe_str (nomark _))
        (pss_one (ps_set (i := 2) nd rfl (.inl rfl) (pe_ifExp (pt_cmpR op_eq (pv 4) pe_str (nomark _)) pe_str pe_str)))
        (pss_one (ps_if (pt_cmpR op_eq (pv 4) pe_str (nomark _))
            (pss_one (ps_set (i := 2) nd rfl (.inl rfl) pe_str))
            (pss_one (ps_if (pt_cmpR op_in_seq (pv 4) (pe_lst (pa_cons pe_str (pa_cons pe_str pa_nil))) (by rfl))
                (pss_one (ps_set (i := 2) nd rfl (.inl rfl) pe_str))
                (pss_one (ps_if (PW.pt (pw_or (PW.pt (pw_and (pt_val (pe_call GI hr (by rfl) DI.g DI.F.kp DI.b .nil pass0 (pa_cons (pv 4) pa_nil))) (pw_and1 (pt_cmpR op_eq (pv 2) pe_str (nomark _))))) (pw_or1 (PW.pt (pw_and (pt_cmpR op_eq (pv 4) pe_str (nomark _)) (pw_and1 (pt_cmpR op_eq (pv 2) pe_str (nomark _))))))))
                    (pss_cons (ps_asg (pe_tup (pa_cons (pe_ix ix_tup (pe_ix ix_list (pv 1) (pe_un un_neg pe_int) (fun _ _ => rfl)) pe_int (fun _ _ => rfl)) (pa_cons (pe_op op_add_str (pe_ix ix_tup (pe_ix ix_list (pv 1) (pe_un un_neg pe_int) (fun _ _ => rfl)) pe_int (fun _ _ => rfl)) (pv 4)) pa_nil))) (pg_sub (pv 1) (pe_un un_neg pe_int) set_list))
                      (pss_one (ps_set (i := 2) nd rfl (.inl rfl) (pe_ifExp (pt_cmpR op_eq (pv 2) pe_str (nomark _)) pe_str pe_str))))
                    (pss_cons (ps_expr (pe_bm PySem.F.plainAttrs_list PySem.F.slot_list_append PySem.F.type_list_append mt_append (pv 1) (pa_cons (pe_tup (pa_cons (pv 3) (pa_cons (pv 4) pa_nil))) pa_nil)))
                      (pss_one (ps_set (i := 2) nd rfl (.inl rfl) (pe_ifExp (pt_val (pe_call GI hr (by rfl) DI.g DI.F.kp DI.b .nil pass0 (pa_cons (pv 4) pa_nil))) pe_str (pe_ifExp (pt_cmpR op_eq (pv 4) pe_str (nomark _)) pe_str pe_str))))))))))))))
  (pss_one (ps_ret (pv 1))))), ?_⟩
  refine ⟨Nat.zero_le _, fun p np => ⟨_, _, rfl, ?_⟩⟩
  refine ⟨.str (mk L), rfl, mk L, rfl, ?_⟩
  refine for_it (walk_enumS (z := mk L)) (fun i σ H' => ∃ st f y3 y4, σ = [some (.str (mk L)), some (.ref p), some (.str (nm st)), y3, y4] ∧ WInv (K := K) S L H p i st f H')
    ⟨.gap, [], none, none, rfl, [], (wgo_ok L 0 []).1, (fun h => by rcases h with h | h <;> cases h), (fun q h => absurd h List.not_mem_nil), Nat.le_refl _, upd_same, .nil, same_new np⟩ (fun _ _ _ _ _ => trivial) ?_ ?_
  · rintro i x σ H1 H2 hi ⟨st, f, y3, y4, rfl, xs, hgo, hne, hsz, hfl, hp, hxs, hs⟩ ⟨T, c, rfl, nT, hc, rfl⟩
    have hiL : i < L.length := by
      have : (mk L).cps.size = L.length := mk_len L
      omega
    have hc' : L[i]? = some c := by
      have : (mk L).cps[i]? = L[i]? := by simp
      rw [← this]
      exact hc
    have hd : L.drop i = c :: L.drop (i + 1) := by
      rw [drop_cons hiL]
      congr 1
      rw [List.getElem?_eq_getElem hiL] at hc'
      exact Option.some.inj hc'
    have pT : p ≠ T := ne_of_none hp nT
    have hp2 : (upd H1 T (.tup [.int (i : Nat), .str ⟨#[c]⟩])) p = some (.lst xs) := by rw [upd_ne pT]; exact hp
    have hs2 : Same H (upd H1 T (.tup [.int (i : Nat), .str ⟨#[c]⟩])) := hs.trans (same_new nT)
    have hxs2 : DpAll K (cut (orA S p) (upd H1 T (.tup [.int (i : Nat), .str ⟨#[c]⟩]))) xs (f.map prW) := DpAll.keep hxs (cut_same (same_new nT))
    rw [hd] at hgo
    rw [show wgo st f i (c :: L.drop (i + 1)) = wgo (wstep st f i c).1 (wstep st f i c).2 (i + 1) (L.drop (i + 1)) from rfl] at hgo
    refine ⟨T, _, rfl, .inl (.inl upd_same), rfl, _, _, rfl, _, _, rfl, ⟨rfl, ?_⟩⟩
    generalize hH2 : upd H1 T (.tup [.int (i : Nat), .str ⟨#[c]⟩]) = H2 at hp2 hs2 hxs2
    have stay : ∀ (st' : Wst) (H3 : Hp), Same H2 H3 → wstep st f i c = (st', f) → ¬ (st' = .word ∨ st' = .dash) →
        ∃ st f y3 y4, [some (V.str (mk L)), some (.ref p), some (.str (nm st')), some (.int (i : Nat)), some (.str ⟨#[c]⟩)] = [some (.str (mk L)), some (.ref p), some (.str (nm st)), y3, y4] ∧ WInv (K := K) S L H p (i + 1) st f H3 :=
      fun st' H3 s3 h hn => ⟨st', f, _, _, rfl, xs, by rw [h] at hgo; exact hgo, fun x => absurd x hn, fun q hq => Nat.le_succ_of_le (hsz q hq), Nat.le_succ_of_le hfl, s3 _ _ hp2, DpAll.keep hxs2 (cut_same s3), hs2.trans s3⟩
    refine ⟨_, rfl, rfl, _, rfl, ite2 (fun e => ?_) (fun e => ?_)⟩
    · have est : st = .remark := (nm_iff st .remark).mp (of_decide_eq_true e)
      subst est
      refine ⟨_, rfl, rfl, _, rfl, ite2 (fun g => ?_) (fun g => ?_)⟩
      · have g0 : [c] = [10] := mk_inj.mp (of_decide_eq_true g)
        have g' : c = 10 := by simpa using g0
        exact stay .gap H2 (Same.refl _) (by simp [wstep, g']) (by simp)
      · have g' : c ≠ 10 := fun x => g (decide_eq_true ((mk_inj (l := [c]) (m := [10])).mpr (by rw [x])))
        exact stay .remark H2 (Same.refl _) (by simp [wstep, g']) (by simp)
    have est : st ≠ .remark := fun x => e (decide_eq_true ((nm_iff st .remark).mpr x))
    refine ⟨_, rfl, rfl, _, rfl, ite2 (fun g => ?_) (fun g => ?_)⟩
    · have g0 : [c] = [35] := mk_inj.mp (of_decide_eq_true g)
      have g' : c = 35 := by simpa using g0
      exact stay .remark H2 (Same.refl _) (by simp [wstep, g', est]) (by simp)
    have n35 : c ≠ 35 := fun x => g (decide_eq_true ((mk_inj (l := [c]) (m := [35])).mpr (by rw [x])))
    refine ⟨_, rfl, by show 2 ≤ sizeLine; decide, fun m nm_ => ⟨m, _, rfl, .inl (.inl (.inl upd_same)), rfl, rfl, _, rfl, ?_⟩⟩
    have s3 : Same H2 (upd H2 m (.lst [.str " ", .str "\n"])) := same_new nm_
    generalize (upd H2 m (.lst [.str " ", .str "\n"])) = H3 at s3
    have hp3 := s3 _ _ hp2
    have hxs3 := DpAll.keep hxs2 (cut_same (S := orA S p) s3)
    have hs3 := hs2.trans s3
    show if inV (.str (mk [c])) [.str " ", .str "\n"] = true then _ else _
    rw [in_gap]
    refine ite2 (fun g2 => ?_) (fun g2 => ?_)
    · have g' := of_decide_eq_true g2
      exact stay .gap H3 s3 (by simp [wstep, n35, est, g']) (by simp)
    have ng : ¬ (c = 32 ∨ c = 10) := fun x => g2 (decide_eq_true x)
    -- the last token grows
    have grows : (isL c = true ∧ st = .word) ∨ (c = 62 ∧ st = .dash) → ∀ (st' : Wst), st' = (if st = .word then .word else .sign) →
        ∀ (H5 : Hp) (y3 y4 : Option V), (∃ (f0 : List (Nat × List Nat)) (p0 : Nat) (s0 : List Nat) (xs0 : List V) (t : Addr), f = f0 ++ [(p0, s0)] ∧ H3 t = none ∧
          DpAll K (cut (orA S p) H3) xs0 (f0.map prW) ∧ s0.length ≤ i ∧ H5 = upd (upd H3 t (.tup [.int (p0 : Nat), .str (mk (s0 ++ [c]))])) p (.lst (xs0 ++ [.ref t]))) →
        ∃ st f y3' y4', [some (V.str (mk L)), some (.ref p), some (.str (nm st')), y3, y4] = [some (.str (mk L)), some (.ref p), some (.str (nm st)), y3', y4'] ∧ WInv (K := K) S L H p (i + 1) st f H5 := by
      rintro hc2 st' hst' H5 y3 y4 ⟨f0, p0, s0, xs0, t, rfl, nt, hx0, hs0, rfl⟩
      have pt : p ≠ t := ne_of_none hp3 nt
      refine ⟨st', f0 ++ [(p0, s0 ++ [c])], _, _, rfl, xs0 ++ [.ref t], ?_, fun _ => by simp, ?_, ?_, upd_same, ?_, ?_⟩
      · have e1 : wstep st (f0 ++ [(p0, s0)]) i c = (st', f0 ++ [(p0, s0 ++ [c])]) := by
          unfold wstep
          rw [if_neg est, if_neg n35, if_neg ng, if_pos hc2, grow_snoc, hst']
        rw [e1] at hgo
        exact hgo
      · intro q hq
        rcases List.mem_append.mp hq with hq | hq
        · exact Nat.le_succ_of_le (hsz q (List.mem_append_left _ hq))
        · rw [List.mem_singleton.mp hq]
          show (s0 ++ [c]).length ≤ i + 1
          rw [List.length_append, List.length_singleton]
          omega
      · rw [List.length_append, List.length_singleton] at hfl ⊢
        omega
      · rw [List.map_append]
        refine DpAll.snoc (DpAll.keep hx0 ((cut_same (same_new nt)).trans (cut_upd (.inr rfl)))) ?_
        have nS : ¬ orA S p t := fun x => x.elim (fun x => hS t x (hs3.free nt)) fun x => pt x.symm
        exact .tup (.inl (.inl (show cut (orA S p) _ t = some (.tup _) from cut_of nS (by rw [upd_ne pt.symm]; exact upd_same)))) (.cons (.int _) (.cons (.str _) .nil))
      · intro b o eb
        rw [upd_ne (ne_of_none eb np)]
        exact (hs3.trans (same_new nt)) b o eb
    have gbody : (isL c = true ∧ st = .word) ∨ (c = 62 ∧ st = .dash) → ∃ (f0 : List (Nat × List Nat)) (p0 : Nat) (s0 : List Nat) (xs0 : List V) (t0 : Addr) (x1 x2 : V), f = f0 ++ [(p0, s0)] ∧ xs = xs0 ++ [.ref t0] ∧
        SqT K H3 t0 [.int (p0 : Nat), .str (mk s0)] ∧ DpAll K (cut (orA S p) H3) xs0 (f0.map prW) ∧ s0.length ≤ i := by
      intro hc2
      have hfne : f ≠ [] := hne (by rcases hc2 with h | h; exact .inl h.2; exact .inr h.2)
      obtain ⟨f0, ⟨p0, s0⟩, rfl⟩ : ∃ f0 q, f = f0 ++ [q] := ⟨_, _, (List.dropLast_concat_getLast hfne).symm⟩
      rw [List.map_append] at hxs3
      obtain ⟨xs0, x, rfl, h1, h2⟩ := dp_snoc hxs3
      obtain ⟨t0, v1, v2, rfl, ht, hv1, hv2⟩ := dp_pair h2
      have e1 := dp_int hv1
      have e2 := dp_str hv2
      subst e1 e2
      exact ⟨f0, p0, s0, xs0, t0, .non, .non, rfl, rfl, Same.seqT cut_full ht, h1, hsz (p0, s0) (List.mem_append_right _ List.mem_cons_self)⟩
    have dnm : ∀ (t : Wst) (Q : Bool → Hp → Prop) (H : Hp), Q (decide (st = t)) H → Q (decide (V.str (nm st) = V.str (nm t))) H := by
      intro t Q H q
      rw [decide_eq_decide.mpr (nm_iff st t)]
      exact q
    have dc : ∀ (a : Nat) (Q : Bool → Hp → Prop) (H : Hp), Q (decide (c = a)) H → Q (decide (V.str (mk [c]) = V.str (mk [a]))) H := by
      intro a Q H q
      rw [decide_eq_decide.mpr (show (V.str (mk [c]) = V.str (mk [a])) ↔ c = a from (mk_inj (l := [c]) (m := [a])).trans (by simp))]
      exact q
    refine tOrAnd (b1 := isL c) (b2 := decide (st = .word)) (b3 := decide (c = 62)) (b4 := decide (st = .dash)) (fun Q q => ⟨.str (mk [c]), rfl, c, rfl, _, rfl, q⟩)
      (fun Q q => ⟨_, rfl, rfl, _, rfl, dnm .word Q _ q⟩) (fun Q q => ⟨_, rfl, rfl, _, rfl, dc 62 Q _ q⟩) (fun Q q => ⟨_, rfl, rfl, _, rfl, dnm .dash Q _ q⟩) ?_
    refine ite2 (fun hc2 => ?_) (fun hc2 => ?_)
    · have hc3 : (isL c = true ∧ st = .word) ∨ (c = 62 ∧ st = .dash) := by simpa using hc2
      obtain ⟨f0, p0, s0, xs0, t0, _, _, hf, rfl, ht0, hx0, hs0⟩ := gbody hc3
      refine ⟨_, rfl, 1, rfl, p, _, -1, .ref t0, rfl, rfl, .inl (.inl hp3), atI_last _ _, t0, _, 0, .int (p0 : Nat), rfl, rfl, ht0, rfl, ?_⟩
      refine ⟨_, rfl, 1, rfl, p, _, -1, .ref t0, rfl, rfl, .inl (.inl hp3), atI_last _ _, t0, _, 1, .str (mk s0), rfl, rfl, ht0, rfl, ?_⟩
      have es : (mk s0 ++ mk [c] : Str) = mk (s0 ++ [c]) := by
        show (⟨s0.toArray ++ [c].toArray⟩ : Str) = ⟨(s0 ++ [c]).toArray⟩
        rw [List.append_toArray]
      refine ⟨.str (mk [c]), rfl, mk s0, mk [c], rfl, rfl, ?_, by show 2 ≤ sizeLine; decide, fun t nt => ?_⟩
      · rw [mk_len, mk_len]
        have : (1000002 : Nat) ≤ sizeLine := by decide
        show s0.length + 1 ≤ sizeLine
        omega
      rw [es]
      have pt : p ≠ t := ne_of_none hp3 nt
      refine ⟨.ref p, rfl, 1, rfl, p, xs0 ++ [.ref t0], -1, (xs0 ++ [V.ref t0]).length - 1, rfl, rfl, by rw [upd_ne pt]; exact hp3, ix_last (by simp), ?_⟩
      rw [set_last]
      refine ⟨_, rfl, rfl, _, rfl, ?_⟩
      have G := fun st' h => grows hc3 st' h (upd (upd H3 t (.tup [.int (p0 : Nat), .str (mk (s0 ++ [c]))])) p (.lst (xs0 ++ [.ref t]))) (some (.int (i : Nat))) (some (.str ⟨#[c]⟩)) ⟨f0, p0, s0, xs0, t, hf, nt, hx0, hs0, rfl⟩
      refine ite2 (fun g => ?_) (fun g => ?_)
      · exact G .word (by rw [if_pos ((nm_iff st .word).mp (of_decide_eq_true g))])
      · exact G .sign (by rw [if_neg fun x => g (decide_eq_true ((nm_iff st .word).mpr x))])
    · have hc3 : ¬ ((isL c = true ∧ st = .word) ∨ (c = 62 ∧ st = .dash)) := by simpa using hc2
      refine ⟨.ref p, rfl, .inl ⟨rfl, _, .inl (.inl hp3)⟩, _, rfl, _, rfl, by show 2 ≤ sizeLine; decide, fun t nt => ?_⟩
      have pt : p ≠ t := ne_of_none hp3 nt
      refine ⟨p, xs, _, rfl, rfl, by rw [upd_ne pt]; exact hp3, ?_, ?_⟩
      · rw [DpAll.len hxs, List.length_map]
        have : (1000002 : Nat) ≤ sizeLine := by decide
        omega
      have new_ : ∀ st' : Wst, st' = (if isL c = true then .word else if c = 45 then .dash else .sign) →
          ∃ st f y3 y4, [some (V.str (mk L)), some (.ref p), some (.str (nm st')), some (.int (i : Nat)), some (.str ⟨#[c]⟩)] = [some (.str (mk L)), some (.ref p), some (.str (nm st)), y3, y4] ∧
            WInv (K := K) S L H p (i + 1) st f (upd (upd H3 t (.tup [.int (i : Nat), .str ⟨#[c]⟩])) p (.lst (xs ++ [.ref t]))) := by
        intro st' hst'
        refine ⟨st', f ++ [(i, [c])], _, _, rfl, xs ++ [.ref t], ?_, fun _ => by simp, ?_, ?_, upd_same, ?_, ?_⟩
        · have e1 : wstep st f i c = (st', f ++ [(i, [c])]) := by
            unfold wstep
            rw [if_neg est, if_neg n35, if_neg ng, if_neg hc3, hst']
          rw [e1] at hgo
          exact hgo
        · intro q hq
          rcases List.mem_append.mp hq with hq | hq
          · exact Nat.le_succ_of_le (hsz q hq)
          · rw [List.mem_singleton.mp hq]
            show 1 ≤ i + 1
            omega
        · rw [List.length_append, List.length_singleton]
          omega
        · rw [List.map_append]
          refine DpAll.snoc (DpAll.keep hxs3 ((cut_same (same_new nt)).trans (cut_upd (.inr rfl)))) ?_
          have nS : ¬ orA S p t := fun x => x.elim (fun x => hS t x (hs3.free nt)) fun x => pt x.symm
          exact .tup (.inl (.inl (show cut (orA S p) _ t = some (.tup _) from cut_of nS (by rw [upd_ne pt.symm]; exact upd_same)))) (.cons (.int _) (.cons (.str _) .nil))
        · intro b o eb
          rw [upd_ne (ne_of_none eb np)]
          exact (hs3.trans (same_new nt)) b o eb
      refine ⟨.str (mk [c]), rfl, c, rfl, _, rfl, ?_⟩
      refine ite2 (fun g => ?_) (fun g => ?_)
      · exact new_ .word (by rw [if_pos g])
      · have c45 : (V.str (mk [c]) = V.str (mk [45])) ↔ c = 45 := (mk_inj (l := [c]) (m := [45])).trans (by simp)
        refine ⟨_, rfl, rfl, _, rfl, ite2 (fun g3 => ?_) (fun g3 => ?_)⟩
        · exact new_ .dash (by rw [if_neg g, if_pos (c45.mp (of_decide_eq_true g3))])
        · exact new_ .sign (by rw [if_neg g, if_neg fun x => g3 (decide_eq_true (c45.mpr x))])
  · rintro σ H' ⟨st, f, y3, y4, rfl, xs, hgo, hne, hsz, hfl, hp, hxs, hs⟩
    refine ⟨.ref p, rfl, ?_⟩
    have : (mk L).cps.size = L.length := mk_len L
    rw [this, List.drop_length] at hgo
    have hf : f = tok 0 L := hgo
    exact q _ p xs hs np hp (by rw [← hf]; exact DpAll.keep hxs (cut_less fun b x => .inl x))
end
end K05
end

section
set_option maxHeartbeats 2000000
namespace K05
open PySem PySem.Spec PyProof.Rows L2 Zc
/-! ### texts put together -/
theorem mk_app (a b : List Nat) : (mk a ++ mk b : Str) = mk (a ++ b) := by
  show (⟨a.toArray ++ b.toArray⟩ : Str) = ⟨(a ++ b).toArray⟩
  rw [List.append_toArray]
theorem join_flat : ∀ ss : List (List Nat), Str.join (mk []) (ss.map mk) = mk ss.flatten
  | [] => rfl
  | [s] => by
    show mk s = mk [s].flatten
    simp
  | s :: t :: r => by
    have ih := join_flat (t :: r)
    show mk s ++ mk [] ++ Str.join (mk []) ((t :: r).map mk) = _
    rw [ih, mk_app, mk_app]
    simp
theorem join_glue (g : Nat) : ∀ ss : List (List Nat), Str.join (mk [g]) (ss.map mk) = mk (glue g ss)
  | [] => rfl
  | [s] => rfl
  | s :: t :: r => by
    have ih := join_glue g (t :: r)
    show mk s ++ mk [g] ++ Str.join (mk [g]) ((t :: r).map mk) = _
    rw [ih, mk_app, mk_app, glue, List.append_assoc]
    rfl
abbrev pcs1 : List V := [.str "a", .str "B_7", .str "while", .str "0", .str "12", .str "007", .str "9x", .str "_", .str "->", .str "-", .str ">", .str "=", .str ";", .str ":", .str "{", .str "}", .str "[", .str "]", .str "(", .str ")"]
abbrev pcs2 : List V := [.str ",", .str "?", .str "*", .str "$", .str "~", .str "!"]
abbrev pcs3 : List V := [.str " ", .str " ", .str "  ", .str "\n", .str "\n ", .str "# so -> it is", .str "#", .str "##\n", .str " # a = 3;\n", .str "->->", .str "--", .str ">-", .str "zZ09"]
def okPc : V → Bool
  | .str x => x.cps.toList.all (· < 128) && decide (x.cps.toList.length ≤ 13)
  | _ => false
theorem pcs_ok : (pcs1 ++ pcs2 ++ pcs3).all okPc = true := by decide +kernel
theorem okPc_mk {v : V} (h : okPc v = true) : ∃ s, v = .str (mk s) ∧ s.length ≤ 13 ∧ ∀ c ∈ s, c < 128 := by
  cases v with
  | str x =>
    have h' : x.cps.toList.all (· < 128) = true ∧ x.cps.toList.length ≤ 13 := by
      have : (x.cps.toList.all (· < 128) && decide (x.cps.toList.length ≤ 13)) = true := h
      rw [Bool.and_eq_true_iff, decide_eq_true_iff] at this
      exact this
    refine ⟨x.cps.toList, rfl, h'.2, fun c hc => ?_⟩
    have := List.all_eq_true.mp h'.1 c hc
    exact of_decide_eq_true this
  | _ => cases h
def spText : Sp := fun vs H Q _ => ∃ (d l : Addr), vs = [.ref d] ∧ Deal H d l ∧ ∀ (L : List Nat) (H' : Hp), L.length ≤ 400 → (∀ c ∈ L, c < 128) → Deal H' d l → But d l H H' → Q (.str (mk L)) H'
theorem flat_len : ∀ ss : List (List Nat), (∀ s ∈ ss, s.length ≤ 13) → ss.flatten.length ≤ 13 * ss.length
  | [], _ => Nat.zero_le _
  | s :: r, h => by
    have h1 := h s List.mem_cons_self
    have h2 := flat_len r fun x hx => h x (List.mem_cons_of_mem _ hx)
    rw [List.flatten_cons, List.length_append, List.length_cons]
    omega
theorem sum_len : ∀ ss : List (List Nat), ((ss.map mk).map (·.length)).sum = ss.flatten.length
  | [] => rfl
  | s :: r => by
    have h2 := sum_len r
    rw [List.map_cons, List.map_cons, List.sum_cons, h2, List.flatten_cons, List.length_append]
    show (mk s).length + _ = _
    rw [mk_len]
theorem Deal.same {H H' : Hp} {d l : Addr} (h : Deal H d l) (s : Same H H') : Deal H' d l := by
  obtain ⟨xs, b, n, h1, h2, r⟩ := h
  exact ⟨xs, b, n, s _ _ h1, s _ _ h2, r⟩
theorem Deal.ne {H : Hp} {d l m : Addr} (h : Deal H d l) (n : H m = none) : m ≠ d ∧ m ≠ l := by
  obtain ⟨xs, b, _, h1, h2, _⟩ := h
  exact ⟨fun e => (by rw [e, h1] at n; cases n), fun e => (by rw [e, h2] at n; cases n)⟩
section
variable {P : Program} {w : World} {K : PySem.W.Frag} {mg : Str → Option Value} {base : Heap}
theorem ok_text {f fO fA : Addr} {fd fdO fdA : FuncData} (D : At K mg "_law_text" s__law_text ["deal"] f fd) (DO : At K mg "_law_of" s__law_of ["deal", "some"] fO fdO)
    (DA : At K mg "_law_any" s__law_any ["deal", "bound"] fA fdA) (m_int : mg "int" = none) (m_len : mg "len" = none) (m_range : mg "range" = none) :
    FnOk P w K mg base CX0 3 f fd ["deal"] spText := by
  have GO : FnOk P w K mg base CX0 2 fO fdO ["deal", "some"] (spOf K) := ok_of DO DA m_int m_len
  have GA : FnOk P w K mg base CX0 2 fA fdA ["deal", "bound"] spAny := (ok_any DA m_int).mono (by decide)
  refine D.F.ok sc__law_text (fun vs H Q E h => ?_) (fun cdv A outer s H vs Q E hr h => ?_)
  · obtain ⟨d, l, rfl, _⟩ := h
    rfl
  obtain ⟨d, l, rfl, hD, q⟩ := h
  have nd := sc__law_text.nd
  refine ⟨_, (pss_cons (ps_set (i := 1) nd rfl (.inr rfl) (pe_lst (pa_cons pe_str (pa_cons pe_str (pa_cons pe_str (pa_cons pe_str (pa_cons pe_str (pa_cons pe_str (pa_cons pe_str (pa_cons pe_str (pa_cons pe_str (pa_cons pe_str (pa_cons pe_str (pa_cons pe_str (pa_cons pe_str (pa_cons pe_str (pa_cons pe_str (pa_cons pe_str (pa_cons pe_str (pa_cons pe_str (pa_cons pe_str (pa_cons pe_str pa_nil))))))))))))))))))))))
  (pss_cons (ps_set (i := 1) nd rfl (.inr rfl) (pe_op op_cat (pv 1) (pe_lst (pa_cons pe_str (pa_cons pe_str (pa_cons pe_str (pa_cons pe_str (pa_cons pe_str (pa_cons pe_str pa_nil)))))))))
  (pss_cons (ps_set (i := 1) nd rfl (.inr rfl) (pe_op op_cat (pv 1) (pe_lst (pa_cons pe_str (pa_cons pe_str (pa_cons pe_str (pa_cons pe_str (pa_cons pe_str (pa_cons pe_str (pa_cons pe_str (pa_cons pe_str (pa_cons pe_str (pa_cons pe_str (pa_cons pe_str (pa_cons pe_str (pa_cons pe_str pa_nil))))))))))))))))
  (pss_one (ps_ret (pe_join pe_str (pe_lc (own := [("turn", 2)]) (g := gName 2) (tt := tYes) (by rfl) nd (pi_range1 (by rfl) m_range (pa_cons (pe_call GA hr (by rfl) DA.g DA.F.kp DA.b .nil pass0 (pa_cons (pv 0) (pa_cons pe_int pa_nil))) pa_nil)) (blkOk_by (own := [("turn", 2)]) (N := ["deal", "some", "turn"]) (sc := defScope s__law_text) (by decide +kernel)) (fun _ _ _ _ _ => (pg_name (i := 2) nd rfl (Or.inl rfl))) (fun _ _ _ _ _ => pts_nil) (fun _ _ _ _ _ => (pe_call GO hr (by rfl) DO.g DO.F.kp DO.b .nil pass0 (pa_cons (pv 0) (pa_cons (pv 1) pa_nil))))))))))), ?_⟩
  refine ⟨by show 20 ≤ sizeLine; decide, fun a na => ?_⟩
  refine ⟨.ref a, rfl, by show 6 ≤ sizeLine; decide, fun b nb => ⟨a, b, pcs1, pcs2, rfl, rfl, same_new nb _ _ upd_same, upd_same, by decide, fun a2 na2 => ?_⟩⟩
  refine ⟨.ref a2, rfl, by show 13 ≤ sizeLine; decide, fun b2 nb2 => ⟨a2, b2, pcs1 ++ pcs2, pcs3, rfl, rfl, same_new nb2 _ _ upd_same, upd_same, by decide, fun a3 na3 => ?_⟩⟩
  have s3 := ((((same_new (o := .lst pcs1) na).trans (same_new (o := .lst pcs2) nb)).trans (same_new (o := .lst (pcs1 ++ pcs2)) na2)).trans (same_new (o := .lst pcs3) nb2)).trans (same_new (o := .lst (pcs1 ++ pcs2 ++ pcs3)) na3)
  have h3 : (upd (upd (upd (upd (upd H a (.lst pcs1)) b (.lst pcs2)) a2 (.lst (pcs1 ++ pcs2))) b2 (.lst pcs3)) a3 (.lst (pcs1 ++ pcs2 ++ pcs3))) a3 = some (.lst (pcs1 ++ pcs2 ++ pcs3)) := upd_same
  have n3 := Deal.ne (Deal.same hD (((((same_new (o := .lst pcs1) na).trans (same_new (o := .lst pcs2) nb)).trans (same_new (o := .lst (pcs1 ++ pcs2)) na2)).trans (same_new (o := .lst pcs3) nb2)))) na3
  have hD3 := Deal.same hD s3
  refine ⟨⟨_, rfl⟩, .ref d, rfl, d, l, 24, rfl, hD3, by decide, by decide, fun n H4 n0 n1 hD4 hB4 => ⟨n, rfl, by omega, by omega, fun Dl nD => ?_⟩⟩
  have neD := Deal.ne hD4 nD
  have h34 : H4 a3 = some (.lst (pcs1 ++ pcs2 ++ pcs3)) := hB4 _ _ n3.1 n3.2 h3
  have aD : a3 ≠ Dl := ne_of_none h34 nD
  refine lc_range (lo := 0) (n := n.toNat) (fun i H' => ∃ ss : List (List Nat), H' Dl = some (.lst (ss.map fun s => V.str (mk s))) ∧ ss.length = i ∧ (∀ s ∈ ss, s.length ≤ 13 ∧ ∀ c ∈ s, c < 128) ∧ Deal H' d l ∧ But d l H H' ∧ H' a3 = some (.lst (pcs1 ++ pcs2 ++ pcs3)))
    ⟨[], upd_same, rfl, fun s h => absurd h List.not_mem_nil, Deal.same hD4 (same_new nD), ((But.of s3).trans hB4).trans (.of (same_new nD)), by rw [upd_ne aD]; exact h34⟩ ?_ ?_
  · rintro i H5 hi ⟨ss, hss, hlen, hok, hD5, hB5, ha5⟩
    refine ⟨rfl, .ref d, rfl, .ref a3, rfl, d, l, a3, pcs1 ++ pcs2 ++ pcs3, rfl, hD5, fun H' hB => .inl (.inl (hB _ _ n3.1 n3.2 ha5)), by decide, by decide, fun j x H6 hx hD6 hB6 => ?_⟩
    obtain ⟨s, rfl, hs1, hs2⟩ := okPc_mk (List.all_eq_true.mp pcs_ok x (List.mem_of_getElem? hx))
    refine ⟨_, hB6 _ _ neD.1 neD.2 hss, ?_, ss ++ [s], ?_, ?_, ?_, ?_, ?_, ?_⟩
    · rw [List.length_map, hlen]
      have : (30 : Nat) < sizeLine := by decide
      omega
    · rw [upd_same, List.map_append]
      rfl
    · rw [List.length_append, hlen]
      rfl
    · intro x hx
      rcases List.mem_append.mp hx with hx | hx
      · exact hok x hx
      · rw [List.mem_singleton.mp hx]
        exact ⟨hs1, hs2⟩
    · obtain ⟨xs, b, e1, e2, e3, r⟩ := hD6
      exact ⟨xs, b, e1, by rw [upd_ne neD.1.symm]; exact e2, by rw [upd_ne neD.2.symm]; exact e3, r⟩
    · intro b o n1 n2 e
      have nbD : b ≠ Dl := fun x => by
        have : H4 b = some o := (((But.of s3).trans hB4) b o n1 n2 e)
        rw [x, nD] at this
        cases this
      rw [upd_ne nbD]
      exact (hB5.trans hB6) b o n1 n2 e
    · rw [upd_ne aD]
      exact hB6 _ _ n3.1 n3.2 ha5
  · rintro H5 ⟨ss, hss, hlen, hok, hD5, hB5, ha5⟩
    have hfl := flat_len ss fun s hs => (hok s hs).1
    refine ⟨mk [], Dl, ss.map mk, rfl, rfl, .inl (.inl (.inl (by rw [hss, List.map_map]; rfl))), ?_, ?_⟩
    · rw [sum_len]
      have e0 : (mk []).length = 0 := mk_len []
      rw [e0]
      omega
    · rw [show Txt.join (mk []) (ss.map mk) = Str.join (mk []) (ss.map mk) from PySem.StrLaws.glued_eq_join _ _, join_flat]
      refine q _ _ (by omega) (fun c hc => ?_) hD5 hB5
      obtain ⟨s, hs, hcs⟩ := List.mem_flatten.mp hc
      exact (hok s hs).2 c hcs
end
end K05
end

section
set_option maxHeartbeats 4000000
namespace K05
open PySem PySem.Spec PyProof.Rows L2 Zc
def spLaw (K : PySem.W.Frag) : Sp := fun vs H Q _ => ∃ (a : Addr) (ns : List Int), vs = [.ref a] ∧ SqL K H a (ns.map V.int) ∧ ns.length ≤ 63 ∧ ∀ H', Q (.bl true) H'
/-! ### facts of the tokens of short texts -/
theorem tok_mem128 {L : List Nat} (h : ∀ c ∈ L, c < 128) : ∀ q ∈ tok 0 L, ∀ c ∈ q.2, c < 0x110000 := fun q hq c hc => Nat.lt_trans (h c (((tok_facts L 0).1 q hq).2 c hc)) (by decide)
theorem depthT (ds : List PyData) : (PyData.tuple ds).depth = PyData.depthAll ds + 1 := by simp [PyData.depth]
theorem sum_mk {α : Type} (g : α → List Nat) : ∀ ss : List α, (ss.map fun a => (mk (g a)).length).sum = (ss.map fun a => (g a).length).sum
  | [] => rfl
  | a :: r => by rw [List.map_cons, List.map_cons, List.sum_cons, List.sum_cons, sum_mk g r, mk_len]
theorem tokD_ok {L : List Nat} (h : L.length ≤ 2000) (h1 : ∀ c ∈ L, c < 128) : plainD (.tuple ((tok 0 L).map tkD)) = true ∧ (PyData.tuple ((tok 0 L).map tkD)).depth ≤ 1 ∧ bulk (.tuple ((tok 0 L).map tkD)) ≤ sizeLine := by
  have f := tok_facts L 0
  refine ⟨?_, ?_, ?_⟩
  · simp only [plainD]
    exact plain_strs (fun q : Nat × List Nat => mk q.2) (tok 0 L) fun q hq => strOk_mk (tok_mem128 h1 q hq)
  · rw [depthT]
    have := depth_strs (fun q : Nat × List Nat => mk q.2) (tok 0 L)
    show PyData.depthAll ((tok 0 L).map fun a => PyData.str (mk a.2)) + 1 ≤ 1
    omega
  · simp only [bulk]
    have e := bulk_strs (fun q : Nat × List Nat => mk q.2) (tok 0 L)
    show bulkAll ((tok 0 L).map fun a => PyData.str (mk a.2)) + 3 ≤ sizeLine
    rw [e, sum_mk]
    have : (30000 : Nat) ≤ sizeLine := by decide
    have h2 := f.2.1
    have h3 := f.2.2.1
    omega
theorem plD_ok {L : List Nat} (h : L.length ≤ 2000) : plainD (.tuple ((tok 0 L).map plD)) = true ∧ (PyData.tuple ((tok 0 L).map plD)).depth ≤ 1 ∧ bulk (.tuple ((tok 0 L).map plD)) ≤ sizeLine := by
  have f := tok_facts L 0
  refine ⟨?_, ?_, ?_⟩
  · simp only [plainD]
    refine plain_ints (fun q : Nat × List Nat => (q.1 : Nat)) (tok 0 L) fun q hq => ?_
    have := f.2.2.2 q hq
    have : (2001 : Nat) < 2 ^ 64 := by decide
    show ((q.1 : Nat) : Int).natAbs < 2 ^ 64
    omega
  · rw [depthT]
    have := depth_intsG (fun q : Nat × List Nat => (q.1 : Nat)) (tok 0 L)
    show PyData.depthAll ((tok 0 L).map fun a => PyData.int ((a.1 : Nat) : Int)) + 1 ≤ 1
    omega
  · simp only [bulk]
    have e := bulk_intsG (fun q : Nat × List Nat => (q.1 : Nat)) (tok 0 L)
    show bulkAll ((tok 0 L).map fun a => PyData.int ((a.1 : Nat) : Int)) + 3 ≤ sizeLine
    rw [e]
    have : (200000 : Nat) ≤ sizeLine := by decide
    have h2 := f.2.1
    omega
theorem prW_ok {L : List Nat} (h : L.length ≤ 2000) (h1 : ∀ c ∈ L, c < 128) : plainD (.list ((tok 0 L).map prW)) = true ∧ (PyData.list ((tok 0 L).map prW)).depth ≤ 64 := by
  have f := tok_facts L 0
  have key : ∀ T : List (Nat × List Nat), (∀ q ∈ T, q.1 < 2 ^ 64 ∧ ∀ c ∈ q.2, c < 0x110000) → plainAll (T.map prW) = true ∧ PyData.depthAll (T.map prW) ≤ 1 := by
    intro T
    induction T with
    | nil => intro _; exact ⟨by simp [plainAll], by simp [PyData.depthAll]⟩
    | cons q r ih =>
      intro hq
      have a := ih fun x hx => hq x (List.mem_cons_of_mem _ hx)
      have b := hq q List.mem_cons_self
      have b1 : (((q.1 : Nat) : Int).natAbs) < 2 ^ 64 := b.1
      have b2 := strOk_mk b.2
      refine ⟨?_, ?_⟩
      · simp only [List.map_cons, plainAll, prW, plainD, decide_eq_true b1, b2, Bool.and_true, Bool.true_and]
        exact a.1
      · simp only [List.map_cons, PyData.depthAll, prW, PyData.depth]
        have := a.2
        omega
  have k := key (tok 0 L) fun q hq => ⟨by
    have := f.2.2.2 q hq
    have : (2001 : Nat) < 2 ^ 64 := by decide
    omega, tok_mem128 h1 q hq⟩
  refine ⟨?_, ?_⟩
  · simp only [plainD]
    exact k.1
  · simp only [PyData.depth]
    have := k.2
    omega
theorem nil_tup_ok : plainD (.tuple []) = true ∧ (PyData.tuple []).depth ≤ 64 := by decide +kernel
theorem nil_lst_ok : plainD (.list []) = true ∧ (PyData.list []).depth ≤ 64 := by decide +kernel
theorem eqv_nilL : ∀ ds : List PyData, PyData.eqv (.list ds) (.list []) = ds.isEmpty
  | [] => by simp [PyData.eqv, PyData.eqvAll]
  | d :: r => by simp [PyData.eqv, PyData.eqvAll]
theorem cutS_take (L : List Nat) (e : Nat) (h : e ≤ L.length) : cutS (mk L) none (some (e : Int)) = mk (L.take e) := by
  unfold cutS
  rw [HT.sIx_none, HT.sIx_nat, mk_len, Nat.min_eq_left h]
  rfl
theorem cutS_drop (L : List Nat) (e : Nat) (h : e ≤ L.length) : cutS (mk L) (some (e : Int)) none = mk (L.drop e) := by
  unfold cutS
  rw [HT.sIx_none, HT.sIx_nat, mk_len, Nat.min_eq_left h]
  congr 2
  show (L.drop e).take (L.length - e) = L.drop e
  exact List.take_of_length_le (by rw [List.length_drop]; omega)
theorem cutV_take (xs : List V) (i : Nat) (h : i ≤ xs.length) : cutV xs none (some (i : Int)) = xs.take i := by
  unfold cutV
  rw [HT.sIx_none, HT.sIx_nat, Nat.min_eq_left h, List.drop_zero, Nat.sub_zero]
theorem cutV_drop (xs : List V) (i : Nat) (h : i ≤ xs.length) : cutV xs (some (i : Int)) none = xs.drop i := by
  unfold cutV
  rw [HT.sIx_none, HT.sIx_nat, Nat.min_eq_left h]
  exact List.take_of_length_le (by rw [List.length_drop]; omega)
theorem sum_cast {α : Type} (f : α → Nat) : ∀ l : List α, (l.map fun s => ((f s : Nat) : Int)).sum = ((l.map f).sum : Nat)
  | [] => rfl
  | a :: r => by rw [List.map_cons, List.map_cons, List.sum_cons, List.sum_cons, sum_cast f r]; omega
theorem place_list {ss : List (List Nat)} (h : ∀ s ∈ ss, IsTok s) : (tok 0 (glue 32 ss)).map plD = (List.range ss.length).map fun k => PyData.int ((upto ss k : Nat) : Int) := by
  rw [tok_glue (.inl rfl) ss 0 h]
  have e : ∀ T : List (Nat × List Nat), T.map plD = (T.map (·.1)).map fun (n : Nat) => PyData.int (n : Int) := fun T => by
    rw [List.map_map]
    rfl
  rw [e, placed_fst, List.map_map]
  apply List.map_congr_left
  intro k _
  show PyData.int ((0 + upto ss k : Nat) : Int) = _
  rw [Nat.zero_add]
theorem shift_tk (n : Nat) (T : List (Nat × List Nat)) : (shift n T).map tkD = T.map tkD := by
  unfold shift
  rw [List.map_map]
  rfl
theorem tok_rem2 : tok 0 [35, 32, 97] = [] := by
  rw [tok_hash]
  exact tok_nil _
theorem law_end {K : PySem.W.Frag} {σ : L2.St} {H : Hp} {Q : VK} (q : ∀ H', Q (.bl true) H') :
    tAndV (tOp (rEqD K) (tCall (spToks tkD K) [] E0 (tCons (tC (V.str (Str.ofString ""))) tNil)) (tTup tNil)) (tOp (rEqD K) (tCall (spToks plD K) [] E0 (tCons (tC (V.str (Str.ofString "# a"))) tNil)) (tTup tNil)) σ H Q := by
  refine ⟨[], fun _ => False, rfl, Nat.zero_le _, (fun b x => x.elim), fun H1 p1 s1 n1 d1 => ?_⟩
  rw [tok_nil] at d1
  refine ⟨Nat.zero_le _, fun t nt => ?_⟩
  refine ⟨_, _, Dp.keep (Dp.keep d1 cut_full) (same_new nt), .tup (.inl (.inl upd_same)) .nil, plain_shaped nil_tup_ok.1 nil_tup_ok.2, plain_shaped nil_tup_ok.1 nil_tup_ok.2, ?_⟩
  rw [show PyData.eqv (.tuple (List.map tkD [])) (.tuple []) = true from eqv_self nil_tup_ok.1]
  refine ⟨true, rfl, iteT ?_⟩
  refine ⟨[35, 32, 97], fun _ => False, rfl, by decide, (fun b x => x.elim), fun H1 p1 s1 n1 d1 => ?_⟩
  rw [tok_rem2] at d1
  refine ⟨Nat.zero_le _, fun t nt => ?_⟩
  refine ⟨_, _, Dp.keep (Dp.keep d1 cut_full) (same_new nt), .tup (.inl (.inl upd_same)) .nil, plain_shaped nil_tup_ok.1 nil_tup_ok.2, plain_shaped nil_tup_ok.1 nil_tup_ok.2, ?_⟩
  rw [show PyData.eqv (.tuple (List.map plD [])) (.tuple []) = true from eqv_self nil_tup_ok.1]
  exact q _
theorem plS_ok (T : List (Nat × List Nat)) (h : ∀ q ∈ T, q.1 ≤ 2000) : plainD (.tuple (T.map fun q => PyData.int ((q.1 + 11 : Nat) : Int))) = true ∧ (PyData.tuple (T.map fun q => PyData.int ((q.1 + 11 : Nat) : Int))).depth ≤ 64 := by
  refine ⟨?_, ?_⟩
  · simp only [plainD]
    refine plain_ints (fun q : Nat × List Nat => ((q.1 + 11 : Nat) : Int)) T fun q hq => ?_
    have := h q hq
    have : (2012 : Nat) < 2 ^ 64 := by decide
    show ((q.1 + 11 : Nat) : Int).natAbs < 2 ^ 64
    omega
  · rw [depthT]
    have := depth_intsG (fun q : Nat × List Nat => ((q.1 + 11 : Nat) : Int)) T
    omega
theorem rp_ok {d : PyData} (hp : plainD d = true) (hd : d.depth < 40) (hb : bulk d ≤ sizeLine) : d.showable = true ∧ d.hasDict = false ∧ d.depth < 40 ∧ d.shown.length ≤ sizeLine :=
  ⟨(plain_lay d hp).2.2, (plain_lay d hp).2.1, hd, Nat.le_trans (bulk_shown d hp) hb⟩
structure LawCtx (P : Program) (w : World) (K : PySem.W.Frag) (mg : Str → Option Value) (base : Heap) where
  fR : Addr
  fdR : FuncData
  DR : At K mg "_law_draw" s__law_draw ["script", "salt"] fR fdR
  fA : Addr
  fdA : FuncData
  DA : At K mg "_law_any" s__law_any ["deal", "bound"] fA fdA
  fO : Addr
  fdO : FuncData
  DO : At K mg "_law_of" s__law_of ["deal", "some"] fO fdO
  fT : Addr
  fdT : FuncData
  DT : At K mg "_law_text" s__law_text ["deal"] fT fdT
  fI : Addr
  fdI : FuncData
  DI : At K mg "_law_is_letter" s__law_is_letter ["sign"] fI fdI
  fW : Addr
  fdW : FuncData
  DW : At K mg "_law_walk" s__law_walk ["text"] fW fdW
  fK : Addr
  fdK : FuncData
  DK : At K mg "tokens_of" s_tokens_of ["text"] fK fdK
  fP : Addr
  fdP : FuncData
  DP : At K mg "token_places" s_token_places ["text"] fP fdP
  fS : Addr
  fdS : FuncData
  DS : At K mg "token_spans" s_token_spans ["text"] fS fdS
  fL : Addr
  fdL : FuncData
  DL : At K mg "line_end" s_line_end ["text", "at"] fL fdL
  fE : Addr
  fdE : FuncData
  DE : At K mg "token_end" s_token_end ["text", "at"] fE fdE
  kwK : KBinds K fdK ["text"] ["text"] revK revK
  kwP : KBinds K fdP ["text"] ["text"] revK revK
  m_int : mg "int" = none
  m_len : mg "len" = none
  m_range : mg "range" = none
  m_tuple : mg "tuple" = none
  m_max : mg "max" = none
  m_sum : mg "sum" = none
  m_abs : mg "abs" = none
  m_repr : mg "repr" = none
  m_enumerate : mg "enumerate" = none
  mn : ∃ u, mg "NAME_SIGNS" = some (.str namesS u)
section
variable {P : Program} {w : World} {K : PySem.W.Frag} {mg : Str → Option Value} {base : Heap}
theorem ok_law {f : Addr} {fd : FuncData} (D : At K mg "law" s_law ["script"] f fd) (C : LawCtx P w K mg base) : FnG P w K mg base 4 f fd ["script"] (spLaw K) := by
  obtain ⟨fR, fdR, DR, fA, fdA, DA, fO, fdO, DO, fT, fdT, DT, fI, fdI, DI, fW, fdW, DW, fK, fdK, DK, fP, fdP, DP, fS, fdS, DS, fL, fdL, DL, fE, fdE, DE, kw_tokens_of, kw_token_places, m_int, m_len, m_range, m_tuple, m_max, m_sum, m_abs, m_repr, m_enumerate, mn⟩ := C
  have GR : FnOk P w K mg base CX0 3 fR fdR ["script", "salt"] (spDraw K) := (ok_draw DR m_int m_abs).mono (by decide)
  have GA : FnOk P w K mg base CX0 3 fA fdA ["deal", "bound"] spAny := (ok_any DA m_int).mono (by decide)
  have GT : FnOk P w K mg base CX0 3 fT fdT ["deal"] spText := ok_text DT DO DA m_int m_len m_range
  have GW : FnOk P w K mg base CX0 3 fW fdW ["text"] (spWalk K) := (ok_walk DW DI m_enumerate).mono (by decide)
  have GK : FnOk P w K mg base CX0 3 fK fdK ["text"] (spToks tkD K) := ok_tokens_of DK DS DL DE m_len m_max m_tuple mn
  have GP : FnOk P w K mg base CX0 3 fP fdP ["text"] (spToks plD K) := ok_token_places DP DS DL DE m_len m_max m_tuple mn
  have nd := sc_law.nd
  refine fnG_ok D.F sc_law (fun vs H Q E h => ?_) (fun cdv A outer s H vs Q E hr hg h => ?_)
  · obtain ⟨a, ns, rfl, _⟩ := h
    rfl
  obtain ⟨a, ns, rfl, hS, hlen, q⟩ := h
  have hu := hr.units
  refine ⟨_, (pss_cons (ps_set (i := 1) nd rfl (.inl rfl) (pe_call GR hr (by rfl) DR.g DR.F.kp DR.b .nil pass0 (pa_cons (pv 0) (pa_cons pe_int pa_nil))))
  (pss_cons (ps_set (i := 2) nd rfl (.inl rfl) (pe_call GT hr (by rfl) DT.g DT.F.kp DT.b .nil pass0 (pa_cons (pv 1) pa_nil)))
  (pss_cons (ps_set (i := 3) nd rfl (.inl rfl) (pe_call GW hr (by rfl) DW.g DW.F.kp DW.b .nil pass0 (pa_cons (pv 2) pa_nil)))
  (pss_cons (ps_asg (pe_tup (pa_cons (pe_callTy call_tuple_of (by rfl) m_tuple boot_tuple (pa_cons (pe_lc (own := [("at", 7), ("token", 10)]) (g := gTup K 2 (gCons (gName 7) (gCons (gName 10) gNil))) (tt := tYes) (by rfl) nd (pi_list (pv 3)) (blkOk_by (own := [("at", 7), ("token", 10)]) (N := ["script", "deal", "text", "due", "tokens", "places", "turn", "at", "end", "more", "token", "place"]) (sc := defScope s_law) (by decide +kernel)) (fun _ _ _ _ _ => (pg_tup (by rfl) (pgs_cons (pg_name (i := 7) nd rfl (Or.inl rfl)) (pgs_cons (pg_name (i := 10) nd rfl (Or.inl rfl)) pgs_nil)))) (fun _ _ _ _ _ => pts_nil) (fun _ _ _ _ _ => (pv 10))) pa_nil)) (pa_cons (pe_callTy call_tuple_of (by rfl) m_tuple boot_tuple (pa_cons (pe_lc (own := [("at", 7), ("token", 10)]) (g := gTup K 2 (gCons (gName 7) (gCons (gName 10) gNil))) (tt := tYes) (by rfl) nd (pi_list (pv 3)) (blkOk_by (own := [("at", 7), ("token", 10)]) (N := ["script", "deal", "text", "due", "tokens", "places", "turn", "at", "end", "more", "token", "place"]) (sc := defScope s_law) (by decide +kernel)) (fun _ _ _ _ _ => (pg_tup (by rfl) (pgs_cons (pg_name (i := 7) nd rfl (Or.inl rfl)) (pgs_cons (pg_name (i := 10) nd rfl (Or.inl rfl)) pgs_nil)))) (fun _ _ _ _ _ => pts_nil) (fun _ _ _ _ _ => (pv 7))) pa_nil)) pa_nil))) (pg_tup (by rfl) (pgs_cons (pg_name (i := 4) nd rfl (Or.inr rfl)) (pgs_cons (pg_name (i := 5) nd rfl (Or.inl rfl)) pgs_nil))))
  (pss_cons (ps_for PassesOwn.never rfl (pi_range1 (by rfl) m_range (pa_cons pe_int pa_nil)) (pg_name (i := 6) nd rfl (Or.inl rfl))
    (pss_one (ps_if (PW.pt (pw_or (pt_cmpR op_ne (pe_callB (call_repr_D hg hu) (by rfl) m_repr PyProof.Rows.boot_repr (pa_cons (pe_callKw GK hr (by rfl) DK.g DK.F.kp kw_tokens_of pass0 (pk_cons (pv 2) pk_nil)) pa_nil)) (pe_callB (call_repr_D hg hu) (by rfl) m_repr PyProof.Rows.boot_repr (pa_cons (pv 4) pa_nil)) (nomark _)) (pw_or1 (pt_cmpR op_ne (pe_callB (call_repr_D hg hu) (by rfl) m_repr PyProof.Rows.boot_repr (pa_cons (pe_callKw GP hr (by rfl) DP.g DP.F.kp kw_token_places pass0 (pk_cons (pv 2) pk_nil)) pa_nil)) (pe_callB (call_repr_D hg hu) (by rfl) m_repr PyProof.Rows.boot_repr (pa_cons (pv 5) pa_nil)) (nomark _)))))
        (pss_one (ps_ret pe_bl))
        pss_nil)))
  (pss_cons (ps_if (PW.pt (pw_or (pt_cmpR (op_neD hu) (pe_call GK hr (by rfl) DK.g DK.F.kp DK.b .nil pass0 (pa_cons (pe_join pe_str (pv 4)) pa_nil)) (pv 4) (nomark _)) (pw_or1 (pt_cmpR (op_neD hu) (pe_call GK hr (by rfl) DK.g DK.F.kp DK.b .nil pass0 (pa_cons (pe_join pe_str (pv 4)) pa_nil)) (pv 4) (nomark _)))))
    (pss_one (ps_ret pe_bl))
    pss_nil)
  (pss_cons (ps_if (pt_cmpR (op_neD hu) (pe_call GP hr (by rfl) DP.g DP.F.kp DP.b .nil pass0 (pa_cons (pe_join pe_str (pv 4)) pa_nil)) (pe_callTy call_tuple_of (by rfl) m_tuple boot_tuple (pa_cons (pe_lc (own := [("at", 7)]) (g := gName 7) (tt := tYes) (by rfl) nd (pi_range1 (by rfl) m_range (pa_cons (pe_callB call_len_seq (by rfl) m_len PySem.boot_len (pa_cons (pv 4) pa_nil)) pa_nil)) (blkOk_by (own := [("at", 7)]) (N := ["script", "deal", "text", "due", "tokens", "places", "turn", "at", "end", "more", "token", "place"]) (sc := defScope s_law) (by decide +kernel)) (fun _ _ _ _ _ => (pg_name (i := 7) nd rfl (Or.inl rfl))) (fun _ _ _ _ _ => pts_nil) (fun _ _ _ _ _ => (pe_callB (cr_sumK K (by rfl) (by rfl)) (by rfl) m_sum PyProof.Rows.boot_sum (pa_cons (pe_lc (own := [("token", 10)]) (g := gName 10) (tt := tYes) (by rfl) nd ((pi_tupK K (by rfl)) (pe_slice (sl_tupK K (by rfl)) (pv 4) po_none (po_some (pv 7)))) (blkOk_any (own := [("token", 10)]) (N := ["script", "deal", "text", "due", "tokens", "places", "turn", "at", "end", "more", "token", "place"])  (by kernel_rfl)) (fun _ _ _ _ _ => (pg_name (i := 10) nd rfl (Or.inl rfl))) (fun _ _ _ _ _ => pts_nil) (fun _ _ _ _ _ => (pe_op op_add (pe_callB call_len_str (by rfl) m_len PySem.boot_len (pa_cons (pv 10) pa_nil)) pe_int))) pa_nil)))) pa_nil)) (nomark _))
    (pss_one (ps_ret pe_bl))
    pss_nil)
  (pss_cons (ps_if (pt_cmpR (op_neD hu) (pv 3) (pe_lst pa_nil) (nomark _))
    (pss_cons (ps_set (i := 7) nd rfl (.inl rfl) (pe_call GA hr (by rfl) DA.g DA.F.kp DA.b .nil pass0 (pa_cons (pv 1) (pa_cons (pe_callB call_len_seq (by rfl) m_len PySem.boot_len (pa_cons (pv 3) pa_nil)) pa_nil))))
      (pss_cons (ps_set (i := 8) nd rfl (.inl rfl) (pe_op op_add (pe_ix ix_tup (pe_ix ix_list (pv 3) (pv 7) (fun _ _ => rfl)) pe_int (fun _ _ => rfl)) (pe_callB call_len_str (by rfl) m_len PySem.boot_len (pa_cons (pe_ix ix_tup (pe_ix ix_list (pv 3) (pv 7) (fun _ _ => rfl)) pe_int (fun _ _ => rfl)) pa_nil))))
      (pss_cons (ps_set (i := 9) nd rfl (.inl rfl) (pe_op op_add_str (pe_op op_add_str (pe_slice sl_str (pv 2) po_none (po_some (pv 8))) pe_str) (pe_slice sl_str (pv 2) (po_some (pv 8)) po_none)))
      (pss_one (ps_if (PW.pt (pw_or (pt_cmpR (op_neD hu) (pe_call GK hr (by rfl) DK.g DK.F.kp DK.b .nil pass0 (pa_cons (pv 9) pa_nil)) (pv 4) (nomark _)) (pw_or1 (pt_cmpR (op_neD hu) (pe_slice sl_tup (pe_call GP hr (by rfl) DP.g DP.F.kp DP.b .nil pass0 (pa_cons (pv 9) pa_nil)) (po_some (pe_op op_add (pv 7) pe_int)) po_none) (pe_callTy call_tuple_of (by rfl) m_tuple boot_tuple (pa_cons (pe_lc (own := [("place", 11)]) (g := gName 11) (tt := tYes) (by rfl) nd (pi_tup (pe_slice sl_tup (pv 5) (po_some (pe_op op_add (pv 7) pe_int)) po_none)) (blkOk_by (own := [("place", 11)]) (N := ["script", "deal", "text", "due", "tokens", "places", "turn", "at", "end", "more", "token", "place"]) (sc := defScope s_law) (by decide +kernel)) (fun _ _ _ _ _ => (pg_name (i := 11) nd rfl (Or.inl rfl))) (fun _ _ _ _ _ => pts_nil) (fun _ _ _ _ _ => (pe_op op_add (pv 11) pe_int))) pa_nil)) (nomark _)))))
        (pss_one (ps_ret pe_bl))
        pss_nil)))))
    pss_nil)
  (pss_one (ps_ret (pe_and (pe_cmpR (op_eqD hu) (pe_call GK hr (by rfl) DK.g DK.F.kp DK.b .nil pass0 (pa_cons pe_str pa_nil)) (pe_tup pa_nil) (nomark _)) (pe_one (pe_cmpR (op_eqD hu) (pe_call GP hr (by rfl) DP.g DP.F.kp DP.b .nil pass0 (pa_cons pe_str pa_nil)) (pe_tup pa_nil) (nomark _)))))))))))))), ?_⟩
  refine ⟨.ref a, rfl, a, ns, 5, rfl, hS, hlen, by decide, by decide, fun d l H1 nd0 nl0 hD s1 => ?_⟩
  refine ⟨.ref d, rfl, d, l, rfl, hD, fun L H2 hL hL128 hD2 hB2 => ?_⟩
  have eqS : ∀ b, dl d l b → H2 b ≠ none := by
    obtain ⟨xs, b, _, e1, e2, _⟩ := hD2
    rintro b (rfl | rfl) x
    · rw [e1] at x; cases x
    · rw [e2] at x; cases x
  refine ⟨.str (mk L), rfl, L, dl d l, rfl, by omega, eqS, fun H3 pd xs s3 npd hpd hxs => ?_⟩
  have hD3 := Deal.same hD2 s3
  have npdl := Deal.ne hD2 npd
  have exs : xs.length = (tok 0 L).length := by rw [DpAll.len hxs, List.length_map]
  have fT := tok_facts L 0
  have nT : (tok 0 L).length ≤ 400 := by omega
  have big : (100000 : Nat) < sizeLine := by decide
  -- tokens
  refine ⟨.ref pd, rfl, pd, rfl, ⟨_, .inl (.inl hpd)⟩, fun D1 nD1 => ?_⟩
  have pD1 : pd ≠ D1 := ne_of_none hpd nD1
  refine lc_list (K := K) (a := pd) (xs := xs) (fun i H' => H' = upd H3 D1 (.lst (((tok 0 L).take i).map fun q => V.str (mk q.2)))) rfl
    (fun i H' _ e => by rw [e]; exact .inl (.inl (by rw [upd_ne pD1]; exact hpd))) ?_ ?_
  · rintro i x H' hx rfl
    obtain ⟨q0, hq0, hx2⟩ := dp_map hxs hx
    obtain ⟨t, v1, v2, rfl, ht, h1, h2⟩ := dp_pair hx2
    have e1 := dp_int h1
    have e2 := dp_str h2
    subst e1 e2
    have ht2 : SqT K (upd H3 D1 (.lst (((tok 0 L).take i).map fun q => V.str (mk q.2)))) t [.int (q0.1 : Nat), .str (mk q0.2)] :=
      Same.seqT (fun b o e => by
        have e' := (cut_in e).2
        rw [upd_ne (ne_of_none e' nD1)]
        exact e') ht
    refine ⟨t, _, rfl, ht2, rfl, _, _, rfl, _, _, rfl, ⟨rfl, rfl, ?_⟩⟩
    refine ⟨_, rfl, _, upd_same, ?_, ?_⟩
    · rw [List.length_map, List.length_take]
      omega
    · rw [take_snoc hq0]
      funext b
      by_cases hb : b = D1
      · rw [hb, upd_same, upd_same]
      · rw [upd_ne hb, upd_ne hb, upd_ne hb]
  rintro H' rfl
  refine ⟨D1, _, rfl, .inl ⟨.inl (.inl upd_same), fun t1 n1 => ?_⟩⟩
  rw [exs, List.take_length] at n1 ⊢
  have s4 : Same H3 (upd (upd H3 D1 (.lst ((tok 0 L).map fun q => V.str (mk q.2)))) t1 (.tup ((tok 0 L).map fun q => V.str (mk q.2)))) := (same_new nD1).trans (same_new n1)
  have ht1 : (upd (upd H3 D1 (.lst ((tok 0 L).map fun q => V.str (mk q.2)))) t1 (.tup ((tok 0 L).map fun q => V.str (mk q.2)))) t1 = some (.tup ((tok 0 L).map fun q => V.str (mk q.2))) := upd_same
  have n1' : H3 t1 = none := (same_new nD1).free n1
  generalize (upd (upd H3 D1 (.lst ((tok 0 L).map fun q => V.str (mk q.2)))) t1 (.tup ((tok 0 L).map fun q => V.str (mk q.2)))) = H4 at s4 ht1
  -- places
  have hpd4 := s4 _ _ hpd
  refine ⟨.ref pd, rfl, pd, rfl, ⟨_, .inl (.inl hpd4)⟩, fun D2 nD2 => ?_⟩
  have pD2 : pd ≠ D2 := ne_of_none hpd4 nD2
  refine lc_list (K := K) (a := pd) (xs := xs) (fun i H' => H' = upd H4 D2 (.lst (((tok 0 L).take i).map fun q => V.int (q.1 : Nat)))) rfl
    (fun i H' _ e => by rw [e]; exact .inl (.inl (by rw [upd_ne pD2]; exact hpd4))) ?_ ?_
  · rintro i x H' hx rfl
    obtain ⟨q0, hq0, hx2⟩ := dp_map hxs hx
    obtain ⟨t, v1, v2, rfl, ht, h1, h2⟩ := dp_pair hx2
    have e1 := dp_int h1
    have e2 := dp_str h2
    subst e1 e2
    have ht2 : SqT K (upd H4 D2 (.lst (((tok 0 L).take i).map fun q => V.int (q.1 : Nat)))) t [.int (q0.1 : Nat), .str (mk q0.2)] :=
      Same.seqT (fun b o e => by
        have e' := s4 _ _ (cut_in e).2
        rw [upd_ne (ne_of_none e' nD2)]
        exact e') ht
    refine ⟨t, _, rfl, ht2, rfl, _, _, rfl, _, _, rfl, ⟨rfl, rfl, ?_⟩⟩
    refine ⟨_, rfl, _, upd_same, ?_, ?_⟩
    · rw [List.length_map, List.length_take]
      omega
    · rw [take_snoc hq0]
      funext b
      by_cases hb : b = D2
      · rw [hb, upd_same, upd_same]
      · rw [upd_ne hb, upd_ne hb, upd_ne hb]
  rintro H' rfl
  refine ⟨D2, _, rfl, .inl ⟨.inl (.inl upd_same), fun t2 n2 => ?_⟩⟩
  rw [exs, List.take_length] at n2 ⊢
  have s5 : Same H4 (upd (upd H4 D2 (.lst ((tok 0 L).map fun q => V.int (q.1 : Nat)))) t2 (.tup ((tok 0 L).map fun q => V.int (q.1 : Nat)))) := (same_new nD2).trans (same_new n2)
  have ht2 : (upd (upd H4 D2 (.lst ((tok 0 L).map fun q => V.int (q.1 : Nat)))) t2 (.tup ((tok 0 L).map fun q => V.int (q.1 : Nat)))) t2 = some (.tup ((tok 0 L).map fun q => V.int (q.1 : Nat))) := upd_same
  have n2' : H4 t2 = none := (same_new nD2).free n2
  generalize (upd (upd H4 D2 (.lst ((tok 0 L).map fun q => V.int (q.1 : Nat)))) t2 (.tup ((tok 0 L).map fun q => V.int (q.1 : Nat)))) = H5 at s5 ht2
  refine ⟨by show 2 ≤ sizeLine; decide, fun t3 n3 => ?_⟩
  have s6 := (same_new (o := .tup [.ref t1, .ref t2]) n3)
  have ht3 : (upd H5 t3 (.tup [.ref t1, .ref t2])) t3 = some (.tup [.ref t1, .ref t2]) := upd_same
  have h1 := s6 _ _ (s5 _ _ ht1)
  have h2 := s6 _ _ ht2
  have hS := s4.trans (s5.trans s6)
  have hD6 := Deal.same hD3 hS
  have hpd6 := hS _ _ hpd
  have hxs6 := DpAll.keep hxs (cut_same (S := dl d l) hS)
  have n1d := Deal.ne hD3 n1'
  have n2d := Deal.ne (Deal.same hD3 s4) n2'
  generalize (upd H5 t3 (.tup [.ref t1, .ref t2])) = H6 at ht3 h1 h2 hD6 hpd6 hxs6
  refine ⟨t3, _, rfl, .inl (.inl ht3), rfl, _, _, rfl, _, _, rfl, ?_⟩
  clear s4 s5 s6 hS
  have hS0 : ∀ b, (fun _ : Addr => False) b → H6 b ≠ none := fun b x => x.elim
  have okT := tokD_ok (L := L) (by omega) hL128
  have okP := plD_ok (L := L) (by omega)
  have dT : ∀ {H' : Hp}, H' t1 = some (.tup ((tok 0 L).map fun q => V.str (mk q.2))) → Dp K H' (.ref t1) (.tuple ((tok 0 L).map tkD)) := fun e => .tup (.inl (.inl e)) (dp_strs (fun q : Nat × List Nat => mk q.2) (tok 0 L))
  have dP : ∀ {H' : Hp}, H' t2 = some (.tup ((tok 0 L).map fun q => V.int (q.1 : Nat))) → Dp K H' (.ref t2) (.tuple ((tok 0 L).map plD)) := fun e => .tup (.inl (.inl e)) (dp_intsG (fun q : Nat × List Nat => (q.1 : Nat)) (tok 0 L))
  have full : ∀ {H' : Hp} {v : V} {d : PyData}, Dp K (cut (fun _ : Addr => False) H') v d → Dp K H' v d := fun h => Dp.keep h cut_full
  refine ⟨rfl, 2, rfl, by decide, by decide, for_range (lo := 0) (n := 2) (fun i σ H' => ∃ y6, σ = [some (.ref a), some (.ref d), some (.str (mk L)), some (.ref pd), some (.ref t1), some (.ref t2), y6, none, none, none, none, none] ∧ Same H6 H') ⟨none, rfl, Same.refl _⟩ ?_ ?_⟩
  · rintro i σ H7 hi ⟨y6, rfl, s7⟩
    refine ⟨.str (mk L), rfl, L, fun _ => False, rfl, by omega, (fun b x => x.elim), fun H8 p8 s8 n8 d8 => ?_⟩
    obtain ⟨ra, rb, rc, rd⟩ := rp_ok okT.1 (by omega) okT.2.2
    refine ⟨.ref p8, _, rfl, rfl, full d8, ra, rb, rc, rd, ?_⟩
    refine ⟨.ref t1, rfl, .ref t1, _, rfl, rfl, dT (s8 _ _ (s7 _ _ h1)), ra, rb, rc, rd, ?_⟩
    refine ⟨rfl, _, rfl, iteFe (by rw [decide_eq_true rfl]; rfl) ?_⟩
    refine ⟨.str (mk L), rfl, L, fun _ => False, rfl, by omega, (fun b x => x.elim), fun H9 p9 s9 n9 d9 => ?_⟩
    obtain ⟨ra, rb, rc, rd⟩ := rp_ok okP.1 (by omega) okP.2.2
    refine ⟨.ref p9, _, rfl, rfl, full d9, ra, rb, rc, rd, ?_⟩
    refine ⟨.ref t2, rfl, .ref t2, _, rfl, rfl, dP (s9 _ _ (s8 _ _ (s7 _ _ h2))), ra, rb, rc, rd, ?_⟩
    refine ⟨rfl, _, rfl, iteFe (by rw [decide_eq_true rfl]; rfl) ?_⟩
    exact ⟨_, rfl, (s7.trans s8).trans s9⟩
  rintro σ H7 ⟨y6, rfl, s7⟩
  have h17 := s7 _ _ h1
  have h27 := s7 _ _ h2
  have hD7 := Deal.same hD6 s7
  have hpd7 := s7 _ _ hpd6
  have hxs7 := DpAll.keep hxs6 (cut_same (S := dl d l) s7)
  clear hxs6 hpd6 hD6 h1 h2 ht3 hS0
  generalize hss : ((tok 0 L).map (·.2)) = ss
  have e1s : ((tok 0 L).map fun q => V.str (mk q.2)) = (ss.map mk).map V.str := by
    rw [← hss, List.map_map, List.map_map]
    rfl
  have tokS : ∀ s ∈ ss, IsTok s := by
    intro s hs
    rw [← hss] at hs
    obtain ⟨q, hq, rfl⟩ := List.mem_map.mp hs
    exact (fT.1 q hq).1
  have lenS : ss.length = (tok 0 L).length := by rw [← hss, List.length_map]
  have sumS : ((ss.map mk).map (·.length)).sum ≤ 400 := by
    rw [sum_len, ← hss]
    have := fT.2.2.1
    have e : ((tok 0 L).map (·.2)).flatten.length = ((tok 0 L).map fun q => q.2.length).sum := by
      rw [List.length_flatten, List.map_map]
      rfl
    omega
  have glueL : ∀ g, (glue g ss).length ≤ 800 := by
    have key : ∀ (g : Nat) (r : List (List Nat)), (glue g r).length ≤ r.flatten.length + r.length := by
      intro g r
      induction r with
      | nil => exact Nat.zero_le _
      | cons x r ih =>
        cases r with
        | nil => simp [glue]
        | cons y r =>
          have e : glue g (x :: y :: r) = x ++ g :: glue g (y :: r) := rfl
          rw [e, List.flatten_cons, List.length_append, List.length_append, List.length_cons, List.length_cons (a := x)]
          omega
    intro g
    have := key g ss
    rw [sum_len] at sumS
    omega
  have glueD : ∀ g, g = 32 ∨ g = 10 → (tok 0 (glue g ss)).map tkD = (tok 0 L).map tkD := by
    intro g hg
    rw [tok_glue hg ss 0 tokS]
    have e : ∀ T : List (Nat × List Nat), T.map tkD = (T.map (·.2)).map fun s => PyData.str (mk s) := fun T => by
      rw [List.map_map]
      rfl
    rw [e, e, placed_snd, hss]
  have joinA : ∀ {H' : Hp}, Same H7 H' → SqL K H' t1 ((ss.map mk).map V.str) ∨ SqT K H' t1 ((ss.map mk).map V.str) := fun s' => .inr (.inl (.inl (by rw [← e1s]; exact s' _ _ h17)))
  have joinB : ∀ g : Nat, ((ss.map mk).map (·.length)).sum + (ss.map mk).length * (mk [g]).length ≤ 16777216 := fun g => by
    rw [List.length_map, show (mk [g]).length = 1 from mk_len [g]]
    omega
  have joinC : ∀ g : Nat, Txt.join (mk [g]) (ss.map mk) = mk (glue g ss) := fun g => by
    rw [show Txt.join (mk [g]) (ss.map mk) = Str.join (mk [g]) (ss.map mk) from PySem.StrLaws.glued_eq_join _ _, join_glue]
  -- put together by spaces, by newlines
  refine ⟨⟨_, rfl⟩, .ref t1, rfl, mk [32], t1, ss.map mk, rfl, rfl, joinA (Same.refl _), joinB 32, ?_⟩
  rw [joinC]
  refine ⟨glue 32 ss, fun _ => False, rfl, by have := glueL 32; omega, (fun b x => x.elim), fun H8 p8 s8 n8 d8 => ?_⟩
  rw [glueD 32 (.inl rfl)] at d8
  refine ⟨.ref t1, rfl, ne_ans (full d8) (dT (s8 _ _ h17)) okT.1 okT.1 (by omega) (by omega) ?_⟩
  rw [eqv_self okT.1]
  refine ⟨_, rfl, iteFe rfl ?_⟩
  refine ⟨⟨_, rfl⟩, .ref t1, rfl, mk [10], t1, ss.map mk, rfl, rfl, joinA s8, joinB 10, ?_⟩
  rw [joinC]
  refine ⟨glue 10 ss, fun _ => False, rfl, by have := glueL 10; omega, (fun b x => x.elim), fun H9 p9 s9 n9 d9 => ?_⟩
  rw [glueD 10 (.inr rfl)] at d9
  refine ⟨.ref t1, rfl, ne_ans (full d9) (dT (s9 _ _ (s8 _ _ h17))) okT.1 okT.1 (by omega) (by omega) ?_⟩
  rw [eqv_self okT.1]
  refine ⟨_, rfl, iteFe rfl ?_⟩
  -- their places
  have s9' := s8.trans s9
  refine ⟨⟨_, rfl⟩, .ref t1, rfl, mk [32], t1, ss.map mk, rfl, rfl, joinA s9', joinB 32, ?_⟩
  rw [joinC]
  refine ⟨glue 32 ss, fun _ => False, rfl, by have := glueL 32; omega, (fun b x => x.elim), fun H10 p10 s10 n10 d10 => ?_⟩
  have s10' := s9'.trans s10
  have h1A := s10' _ _ h17
  refine ⟨.ref t1, rfl, t1, _, rfl, .inr (.inl (.inl h1A)), _, rfl, by omega, by rw [List.length_map]; omega, fun Dl nD => ?_⟩
  have xe : ((tok 0 L).map fun q => V.str (mk q.2)).length = ss.length := by rw [List.length_map, lenS]
  refine lc_range (lo := 0) (n := ((tok 0 L).map fun q => V.str (mk q.2)).length) (fun i H' => H' Dl = some (.lst ((List.range i).map fun k => V.int ((upto ss k : Nat) : Int))) ∧ Same H10 H') ⟨upd_same, same_new nD⟩ ?_ ?_
  · rintro i HA hi ⟨hDA, sA⟩
    rw [xe] at hi
    refine ⟨rfl, .ref t1, rfl, _, rfl, _, rfl, t1, _, rfl, .inl (.inl (sA _ _ h1A)), ?_, fun p np => ?_⟩
    · rintro ⟨_, e⟩
      rw [Int.zero_add, HT.sIx_nat, xe] at e
      omega
    rw [Int.zero_add, cutV_take _ i (by omega)]
    refine ⟨p, rfl, ⟨_, .inl (.inl upd_same)⟩, fun D' nD' => ?_⟩
    have sp := same_new (o := .tup (((tok 0 L).map fun q => V.str (mk q.2)).take i)) np
    generalize hHB : upd HA p (.tup (((tok 0 L).map fun q => V.str (mk q.2)).take i)) = HB at sp nD' ⊢
    have hpB : HB p = some (.tup (((tok 0 L).map fun q => V.str (mk q.2)).take i)) := by rw [← hHB]; exact upd_same
    refine lc_tup (K := K) (a := p) (xs := ((tok 0 L).map fun q => V.str (mk q.2)).take i) (fun j H' => H' D' = some (.lst ((((ss.take i).take j).map fun s => ((s.length + 1 : Nat) : Int)).map V.int)) ∧ Same HB H') ⟨upd_same, same_new nD'⟩
      (fun j H' _ h => .inl (.inl (h.2 _ _ hpB))) ?_ ?_
    · rintro j x HC hx ⟨hDC, sC⟩
      have hx' : ∃ s, (ss.take i)[j]? = some s ∧ x = .str (mk s) := by
        rw [e1s, List.map_map, ← List.map_take, List.getElem?_map] at hx
        cases e : (ss.take i)[j]? with
        | none => rw [e] at hx; cases hx
        | some s => rw [e] at hx; exact ⟨s, rfl, (Option.some.inj hx).symm⟩
      obtain ⟨s, hs, rfl⟩ := hx'
      have hsm : s ∈ ss := List.mem_of_mem_take (List.mem_of_getElem? hs)
      have sl : s.length ≤ 400 := by
        rw [sum_len] at sumS
        exact Nat.le_trans (List.Sublist.length_le (List.sublist_flatten_of_mem hsm)) sumS
      refine ⟨rfl, _, rfl, mk s, rfl, by rw [mk_len]; omega, _, 1, rfl, rfl, _, hDC, ?_, ?_, ?_⟩
      · rw [List.length_map, List.length_map, List.length_take, List.length_take]
        omega
      · rw [upd_same, take_snoc (f := fun s : List Nat => ((s.length + 1 : Nat) : Int)) hs, List.map_append, mk_len]
        rfl
      · intro b o e
        rw [upd_ne (ne_of_none e nD')]
        exact sC b o e
    · rintro HC ⟨hDC, sC⟩
      refine ⟨D', _, rfl, .inl (.inl hDC), ?_⟩
      have el : (((tok 0 L).map fun q => V.str (mk q.2)).take i).length = (ss.take i).length := by
        rw [List.length_take, List.length_take, xe]
      rw [el, List.take_length, sum_cast]
      have nDl : D' ≠ Dl := fun e => by
        have := sp _ _ hDA
        rw [← e, nD'] at this
        cases this
      refine ⟨_, sC _ _ (sp _ _ hDA), ?_, ?_, ?_⟩
      · rw [List.length_map, List.length_range]
        omega
      · rw [upd_same, List.range_succ, List.map_append]
        rfl
      · intro b o e
        rw [upd_ne (ne_of_none e nD)]
        exact sC _ _ (sp _ _ (sA _ _ e))
  rintro HA ⟨hDA, sA⟩
  refine ⟨Dl, _, rfl, .inl ⟨.inl (.inl hDA), fun t nt => ?_⟩⟩
  have sB := sA.trans (same_new (o := .tup ((List.range ((tok 0 L).map fun q => V.str (mk q.2)).length).map fun k => V.int ((upto ss k : Nat) : Int))) nt)
  have htB : (upd HA t (.tup ((List.range ((tok 0 L).map fun q => V.str (mk q.2)).length).map fun k => V.int ((upto ss k : Nat) : Int)))) t = some (.tup ((List.range ((tok 0 L).map fun q => V.str (mk q.2)).length).map fun k => V.int ((upto ss k : Nat) : Int))) := upd_same
  generalize (upd HA t (.tup ((List.range ((tok 0 L).map fun q => V.str (mk q.2)).length).map fun k => V.int ((upto ss k : Nat) : Int)))) = HB at sB htB ⊢
  have okG := plD_ok (L := glue 32 ss) (by have := glueL 32; omega)
  rw [place_list tokS] at d10 okG
  rw [xe] at htB
  refine ne_ans (Dp.keep (full d10) sB) (.tup (.inl (.inl htB)) (dp_intsG (fun k => ((upto ss k : Nat) : Int)) (List.range ss.length))) okG.1 okG.1 (by omega) (by omega) ?_
  rw [eqv_self okG.1]
  refine ⟨_, rfl, iteFe rfl ?_⟩
  have s11 := s10'.trans sB
  clear htB sB hDA sA d10 okG d9 d8 s10' s9' s10 s9 s8 h1A xe
  -- a remark put behind a token
  have h1B := s11 _ _ h17
  have h2B := s11 _ _ h27
  have hDB := Deal.same hD7 s11
  have hpB := s11 _ _ hpd7
  have hxB := DpAll.keep hxs7 (cut_same (S := dl d l) s11)
  have okW := prW_ok (L := L) (by omega) hL128
  refine ⟨.ref pd, rfl, Nat.zero_le _, fun p np => ?_⟩
  have sp := same_new (o := .lst []) np
  have hpn : (upd HB p (.lst [])) p = some (.lst []) := upd_same
  generalize (upd HB p (.lst [])) = HC at sp hpn ⊢
  have h1C := sp _ _ h1B
  have h2C := sp _ _ h2B
  have hDC := Deal.same hDB sp
  have hpC := sp _ _ hpB
  have hxC := DpAll.keep hxB (cut_same (S := dl d l) sp)
  refine ne_ans (d := .list ((tok 0 L).map prW)) (e := .list []) (.lst (.inl (.inl hpC)) (DpAll.keep hxC cut_full)) (.lst (.inl (.inl hpn)) .nil) okW.1 nil_lst_ok.1 okW.2 nil_lst_ok.2 ?_
  rw [eqv_nilL]
  refine ⟨_, rfl, ite2 (fun e => ?_) (fun e => law_end q)⟩
  have ne : tok 0 L ≠ [] := fun x => by
    rw [x] at e
    cases e
  have pos : 0 < (tok 0 L).length := List.length_pos_iff.mpr ne
  refine ⟨.ref d, rfl, .ref pd, rfl, pd, _, rfl, .inl (.inl (.inl hpC)), d, l, (xs.length : Nat), rfl, hDC, by omega, by omega, fun r HD r0 r1 hDD hBD => ?_⟩
  obtain ⟨k, rfl⟩ : ∃ k : Nat, r = (k : Int) := ⟨r.toNat, by omega⟩
  have hk : k < (tok 0 L).length := by omega
  have hpD := hBD _ _ npdl.1 npdl.2 hpC
  have h1D := hBD _ _ n1d.1 n1d.2 h1C
  have h2D := hBD _ _ n2d.1 n2d.2 h2C
  have hxD := DpAll.keep hxC (cut_but hBD)
  obtain ⟨q0, hq0⟩ : ∃ q0, (tok 0 L)[k]? = some q0 := ⟨_, List.getElem?_eq_getElem hk⟩
  obtain ⟨x, hx, hx2⟩ := DpAll.at hxD (show ((tok 0 L).map prW)[k]? = some (prW q0) by rw [List.getElem?_map, hq0]; rfl)
  obtain ⟨t, v1, v2, rfl, ht, g1, g2⟩ := dp_pair hx2
  have e1 := dp_int g1
  have e2 := dp_str g2
  subst e1 e2
  have ht2 := Same.seqT cut_full ht
  have q0m := List.mem_of_getElem? hq0
  have q0b := (fT.2.2.2 q0 q0m).2
  have more := tok_more hq0
  have bigS : (100000 : Nat) ≤ sizeLine := by decide
  refine ⟨.ref pd, rfl, .int k, rfl, pd, _, k, .ref t, rfl, rfl, .inl (.inl hpD), atI_nat hx, t, _, 0, .int (q0.1 : Nat), rfl, rfl, ht2, rfl, ?_⟩
  refine ⟨.ref pd, rfl, .int k, rfl, pd, _, k, .ref t, rfl, rfl, .inl (.inl hpD), atI_nat hx, t, _, 1, .str (mk q0.2), rfl, rfl, ht2, rfl, ?_⟩
  refine ⟨mk q0.2, rfl, by rw [mk_len]; omega, _, _, rfl, rfl, ?_⟩
  refine ⟨.str (mk L), rfl, .int ((q0.1 + q0.2.length : Nat) : Int), rfl, ((q0.1 + q0.2.length : Nat) : Int), rfl, mk L, rfl, by rw [mk_len]; omega, ?_⟩
  rw [cutS_take L _ more.1]
  have remE : (Str.ofString "# -> 3 ; x\n") = mk rem11 := rfl
  have add_mk : ∀ a b : List Nat, (mk a ++ mk b : Str) = mk (a ++ b) := mk_app
  have lR : rem11.length = 11 := rfl
  refine ⟨mk (L.take (q0.1 + q0.2.length)), mk rem11, rfl, rfl, by rw [mk_len, mk_len, List.length_take, lR]; omega, ?_⟩
  refine ⟨.str (mk L), rfl, .int ((q0.1 + q0.2.length : Nat) : Int), rfl, ((q0.1 + q0.2.length : Nat) : Int), rfl, mk L, rfl, by rw [mk_len]; omega, ?_⟩
  rw [cutS_drop L _ more.1]
  refine ⟨mk (L.take (q0.1 + q0.2.length) ++ rem11), mk (L.drop (q0.1 + q0.2.length)), congrArg V.str (add_mk _ _), rfl, by rw [mk_len, mk_len, List.length_append, List.length_take, List.length_drop, lR]; omega, ?_⟩
  rw [add_mk, List.append_assoc]
  generalize hM : L.take (q0.1 + q0.2.length) ++ (rem11 ++ L.drop (q0.1 + q0.2.length)) = M at more ⊢
  have lenM : M.length ≤ 811 := by
    rw [← hM, List.length_append, List.length_append, List.length_take, List.length_drop, lR]
    omega
  refine ⟨.str (mk M), rfl, M, fun _ => False, rfl, by omega, (fun b x => x.elim), fun HE pE sE nE dE => ?_⟩
  rw [more.2, List.map_append, shift_tk, ← List.map_append, List.take_append_drop] at dE
  refine ⟨.ref t1, rfl, ne_ans (full dE) (dT (sE _ _ h1D)) okT.1 okT.1 (by omega) (by omega) ?_⟩
  rw [eqv_self okT.1]
  refine ⟨_, rfl, iteFe rfl ?_⟩
  refine ⟨.str (mk M), rfl, M, fun _ => False, rfl, by omega, (fun b x => x.elim), fun HF pF sF nF dF => ?_⟩
  obtain ⟨p', xsF, eF, hsF, hdF⟩ := dp_tup (full dF)
  cases eF
  have eF := ints_of (fun q : Nat × List Nat => ((q.1 : Nat) : Int)) (tok 0 M) xsF hdF
  have lxF : xsF.length = (tok 0 L).length := by
    rw [eF, List.length_map, more.2, List.length_append, List.length_take, shift, List.length_map, List.length_drop]
    omega
  have dropF : xsF.drop (k + 1) = ((tok 0 L).drop (k + 1)).map fun q => V.int ((q.1 + 11 : Nat) : Int) := by
    rw [eF, more.2, List.map_append, List.drop_append]
    have l1 : (((tok 0 L).take (k + 1)).map fun q => V.int ((q.1 : Nat) : Int)).length = k + 1 := by
      rw [List.length_map, List.length_take]
      omega
    rw [List.drop_of_length_le (by omega), l1, Nat.sub_self, List.drop_zero, List.nil_append, shift, List.map_map]
    rfl
  have h1F := sF _ _ (sE _ _ h1D)
  have h2F := sF _ _ (sE _ _ h2D)
  refine ⟨.int (k : Nat), rfl, k, 1, rfl, rfl, ((k + 1 : Nat) : Int), rfl, pF, _, rfl, hsF, ?_, fun p1 np1 => ?_⟩
  · rintro ⟨x, _⟩
    rw [HT.sIx_nat] at x
    omega
  rw [cutV_drop _ (k + 1) (by omega), dropF]
  have sG := same_new (o := .tup (((tok 0 L).drop (k + 1)).map fun q => V.int ((q.1 + 11 : Nat) : Int))) np1
  have hp1 : (upd HF p1 (.tup (((tok 0 L).drop (k + 1)).map fun q => V.int ((q.1 + 11 : Nat) : Int)))) p1 = some (.tup (((tok 0 L).drop (k + 1)).map fun q => V.int ((q.1 + 11 : Nat) : Int))) := upd_same
  generalize (upd HF p1 (.tup (((tok 0 L).drop (k + 1)).map fun q => V.int ((q.1 + 11 : Nat) : Int)))) = HG at sG hp1 ⊢
  have h2G := sG _ _ h2F
  refine ⟨.ref t2, rfl, .int (k : Nat), rfl, k, 1, rfl, rfl, ((k + 1 : Nat) : Int), rfl, t2, _, rfl, .inl (.inl h2G), ?_, fun p2 np2 => ?_⟩
  · rintro ⟨x, _⟩
    rw [HT.sIx_nat, List.length_map] at x
    omega
  rw [cutV_drop _ (k + 1) (by rw [List.length_map]; omega)]
  have sH := same_new (o := .tup (((tok 0 L).map fun q => V.int ((q.1 : Nat) : Int)).drop (k + 1))) np2
  have hp2 : (upd HG p2 (.tup (((tok 0 L).map fun q => V.int ((q.1 : Nat) : Int)).drop (k + 1)))) p2 = some (.tup (((tok 0 L).map fun q => V.int ((q.1 : Nat) : Int)).drop (k + 1))) := upd_same
  have hp1H := sH _ _ hp1
  generalize (upd HG p2 (.tup (((tok 0 L).map fun q => V.int ((q.1 : Nat) : Int)).drop (k + 1)))) = HH at sH hp2 hp1H ⊢
  refine ⟨p2, rfl, ⟨_, .inl (.inl hp2)⟩, fun D3 nD3 => ?_⟩
  refine lc_tup (K := K) (a := p2) (xs := ((tok 0 L).map fun q => V.int ((q.1 : Nat) : Int)).drop (k + 1)) (fun i H' => H' D3 = some (.lst ((((tok 0 L).drop (k + 1)).take i).map fun q => V.int ((q.1 + 11 : Nat) : Int))) ∧ Same HH H') ⟨upd_same, same_new nD3⟩
    (fun j H' _ h => .inl (.inl (h.2 _ _ hp2))) ?_ ?_
  · rintro j x HI hx ⟨hDI, sI⟩
    have hx' : ∃ q, ((tok 0 L).drop (k + 1))[j]? = some q ∧ x = .int ((q.1 : Nat) : Int) := by
      rw [← List.map_drop, List.getElem?_map] at hx
      cases e : ((tok 0 L).drop (k + 1))[j]? with
      | none => rw [e] at hx; cases hx
      | some s => rw [e] at hx; exact ⟨s, rfl, (Option.some.inj hx).symm⟩
    obtain ⟨q1, hq1, rfl⟩ := hx'
    refine ⟨rfl, _, rfl, _, 11, rfl, rfl, _, hDI, ?_, ?_, ?_⟩
    · rw [List.length_map, List.length_take, List.length_drop]
      omega
    · rw [upd_same, take_snoc (f := fun q : Nat × List Nat => V.int ((q.1 + 11 : Nat) : Int)) hq1]
      rfl
    · intro b o e
      rw [upd_ne (ne_of_none e nD3)]
      exact sI b o e
  rintro HI ⟨hDI, sI⟩
  have el : (((tok 0 L).map fun q => V.int ((q.1 : Nat) : Int)).drop (k + 1)).length = ((tok 0 L).drop (k + 1)).length := by
    rw [List.length_drop, List.length_drop, List.length_map]
  rw [el, List.take_length] at hDI
  refine ⟨D3, _, rfl, .inl ⟨.inl (.inl hDI), fun t nt => ?_⟩⟩
  have okS := plS_ok ((tok 0 L).drop (k + 1)) fun q hq => by
    have := (fT.2.2.2 q (List.mem_of_mem_drop hq)).2
    omega
  refine ne_ans (.tup (.inl (.inl (same_new nt _ _ (sI _ _ hp1H)))) (dp_intsG (fun q : Nat × List Nat => ((q.1 + 11 : Nat) : Int)) ((tok 0 L).drop (k + 1)))) (.tup (.inl (.inl upd_same)) (dp_intsG (fun q : Nat × List Nat => ((q.1 + 11 : Nat) : Int)) ((tok 0 L).drop (k + 1)))) okS.1 okS.1 okS.2 okS.2 ?_
  rw [eqv_self okS.1]
  exact ⟨_, rfl, iteFe rfl (law_end q)⟩
end
end K05
end

section
set_option maxHeartbeats 4000000
namespace K05
open PySem PySem.Spec PyProof.Rows L2 Zc
theorem all_mk {l : PySem.W.OpenLaw} {w : World} {K : PySem.W.Frag} {h : Heap} {mg : Str → Option Value} {fa : Addr}
    (X : K.In h) (G : h.Ns mainGlobals mg) (hfa : mg "law" = some (.ref fa))
    {f0 : Addr} {od0 an0 : Option Addr} {sl0 : Array (Option Value)} {oc0 kV0 dc0 pm0 cd0 ct0 : Value}
    {f1 : Addr} {od1 an1 : Option Addr} {sl1 : Array (Option Value)} {oc1 kV1 dc1 pm1 cd1 ct1 : Value}
    {f2 : Addr} {od2 an2 : Option Addr} {sl2 : Array (Option Value)} {oc2 kV2 dc2 pm2 cd2 ct2 : Value}
    {f3 : Addr} {od3 an3 : Option Addr} {sl3 : Array (Option Value)} {oc3 kV3 dc3 pm3 cd3 ct3 : Value}
    {f4 : Addr} {od4 an4 : Option Addr} {sl4 : Array (Option Value)} {oc4 kV4 dc4 pm4 cd4 ct4 : Value}
    {f5 : Addr} {od5 an5 : Option Addr} {sl5 : Array (Option Value)} {oc5 kV5 dc5 pm5 cd5 ct5 : Value}
    {f6 : Addr} {od6 an6 : Option Addr} {sl6 : Array (Option Value)} {oc6 kV6 dc6 pm6 cd6 ct6 : Value}
    {f7 : Addr} {od7 an7 : Option Addr} {sl7 : Array (Option Value)} {oc7 kV7 dc7 pm7 cd7 ct7 : Value}
    {f8 : Addr} {od8 an8 : Option Addr} {sl8 : Array (Option Value)} {oc8 kV8 dc8 pm8 cd8 ct8 : Value}
    {f9 : Addr} {od9 an9 : Option Addr} {sl9 : Array (Option Value)} {oc9 kV9 dc9 pm9 cd9 ct9 : Value}
    {f10 : Addr} {od10 an10 : Option Addr} {sl10 : Array (Option Value)} {oc10 kV10 dc10 pm10 cd10 ct10 : Value}
    {f11 : Addr} {od11 an11 : Option Addr} {sl11 : Array (Option Value)} {oc11 kV11 dc11 pm11 cd11 ct11 : Value}
    (a0 : PySem.W.nsIn K mainGlobals "law" = some (some (.ref f0)))
    (l0 : K.lookup f0 = some ⟨oc0, od0, .func (PySem.W.fnOf "law" "law" (defArgs s_law) (defBody s_law)
      (defScope s_law) .none kV0 dc0 pm0 an0 cd0 ct0), sl0⟩)
    (c0 : PySem.W.codeIn K cd0 "law" = true) (k0 : PySem.W.keepIn K (.ref f0) = true)
    (a1 : PySem.W.nsIn K mainGlobals "_law_draw" = some (some (.ref f1)))
    (l1 : K.lookup f1 = some ⟨oc1, od1, .func (PySem.W.fnOf "_law_draw" "_law_draw" (defArgs s__law_draw) (defBody s__law_draw)
      (defScope s__law_draw) .none kV1 dc1 pm1 an1 cd1 ct1), sl1⟩)
    (c1 : PySem.W.codeIn K cd1 "_law_draw" = true) (k1 : PySem.W.keepIn K (.ref f1) = true)
    (a2 : PySem.W.nsIn K mainGlobals "_law_any" = some (some (.ref f2)))
    (l2 : K.lookup f2 = some ⟨oc2, od2, .func (PySem.W.fnOf "_law_any" "_law_any" (defArgs s__law_any) (defBody s__law_any)
      (defScope s__law_any) .none kV2 dc2 pm2 an2 cd2 ct2), sl2⟩)
    (c2 : PySem.W.codeIn K cd2 "_law_any" = true) (k2 : PySem.W.keepIn K (.ref f2) = true)
    (a3 : PySem.W.nsIn K mainGlobals "_law_of" = some (some (.ref f3)))
    (l3 : K.lookup f3 = some ⟨oc3, od3, .func (PySem.W.fnOf "_law_of" "_law_of" (defArgs s__law_of) (defBody s__law_of)
      (defScope s__law_of) .none kV3 dc3 pm3 an3 cd3 ct3), sl3⟩)
    (c3 : PySem.W.codeIn K cd3 "_law_of" = true) (k3 : PySem.W.keepIn K (.ref f3) = true)
    (a4 : PySem.W.nsIn K mainGlobals "_law_text" = some (some (.ref f4)))
    (l4 : K.lookup f4 = some ⟨oc4, od4, .func (PySem.W.fnOf "_law_text" "_law_text" (defArgs s__law_text) (defBody s__law_text)
      (defScope s__law_text) .none kV4 dc4 pm4 an4 cd4 ct4), sl4⟩)
    (c4 : PySem.W.codeIn K cd4 "_law_text" = true) (k4 : PySem.W.keepIn K (.ref f4) = true)
    (a5 : PySem.W.nsIn K mainGlobals "_law_is_letter" = some (some (.ref f5)))
    (l5 : K.lookup f5 = some ⟨oc5, od5, .func (PySem.W.fnOf "_law_is_letter" "_law_is_letter" (defArgs s__law_is_letter) (defBody s__law_is_letter)
      (defScope s__law_is_letter) .none kV5 dc5 pm5 an5 cd5 ct5), sl5⟩)
    (c5 : PySem.W.codeIn K cd5 "_law_is_letter" = true) (k5 : PySem.W.keepIn K (.ref f5) = true)
    (a6 : PySem.W.nsIn K mainGlobals "_law_walk" = some (some (.ref f6)))
    (l6 : K.lookup f6 = some ⟨oc6, od6, .func (PySem.W.fnOf "_law_walk" "_law_walk" (defArgs s__law_walk) (defBody s__law_walk)
      (defScope s__law_walk) .none kV6 dc6 pm6 an6 cd6 ct6), sl6⟩)
    (c6 : PySem.W.codeIn K cd6 "_law_walk" = true) (k6 : PySem.W.keepIn K (.ref f6) = true)
    (a7 : PySem.W.nsIn K mainGlobals "tokens_of" = some (some (.ref f7)))
    (l7 : K.lookup f7 = some ⟨oc7, od7, .func (PySem.W.fnOf "tokens_of" "tokens_of" (defArgs s_tokens_of) (defBody s_tokens_of)
      (defScope s_tokens_of) .none kV7 dc7 pm7 an7 cd7 ct7), sl7⟩)
    (c7 : PySem.W.codeIn K cd7 "tokens_of" = true) (k7 : PySem.W.keepIn K (.ref f7) = true)
    (a8 : PySem.W.nsIn K mainGlobals "token_places" = some (some (.ref f8)))
    (l8 : K.lookup f8 = some ⟨oc8, od8, .func (PySem.W.fnOf "token_places" "token_places" (defArgs s_token_places) (defBody s_token_places)
      (defScope s_token_places) .none kV8 dc8 pm8 an8 cd8 ct8), sl8⟩)
    (c8 : PySem.W.codeIn K cd8 "token_places" = true) (k8 : PySem.W.keepIn K (.ref f8) = true)
    (a9 : PySem.W.nsIn K mainGlobals "token_spans" = some (some (.ref f9)))
    (l9 : K.lookup f9 = some ⟨oc9, od9, .func (PySem.W.fnOf "token_spans" "token_spans" (defArgs s_token_spans) (defBody s_token_spans)
      (defScope s_token_spans) .none kV9 dc9 pm9 an9 cd9 ct9), sl9⟩)
    (c9 : PySem.W.codeIn K cd9 "token_spans" = true) (k9 : PySem.W.keepIn K (.ref f9) = true)
    (a10 : PySem.W.nsIn K mainGlobals "line_end" = some (some (.ref f10)))
    (l10 : K.lookup f10 = some ⟨oc10, od10, .func (PySem.W.fnOf "line_end" "line_end" (defArgs s_line_end) (defBody s_line_end)
      (defScope s_line_end) .none kV10 dc10 pm10 an10 cd10 ct10), sl10⟩)
    (c10 : PySem.W.codeIn K cd10 "line_end" = true) (k10 : PySem.W.keepIn K (.ref f10) = true)
    (a11 : PySem.W.nsIn K mainGlobals "token_end" = some (some (.ref f11)))
    (l11 : K.lookup f11 = some ⟨oc11, od11, .func (PySem.W.fnOf "token_end" "token_end" (defArgs s_token_end) (defBody s_token_end)
      (defScope s_token_end) .none kV11 dc11 pm11 an11 cd11 ct11), sl11⟩)
    (c11 : PySem.W.codeIn K cd11 "token_end" = true) (k11 : PySem.W.keepIn K (.ref f11) = true)
    (z_int : PySem.W.nsIn K mainGlobals "int" = some none)
    (z_len : PySem.W.nsIn K mainGlobals "len" = some none)
    (z_range : PySem.W.nsIn K mainGlobals "range" = some none)
    (z_tuple : PySem.W.nsIn K mainGlobals "tuple" = some none)
    (z_max : PySem.W.nsIn K mainGlobals "max" = some none)
    (z_sum : PySem.W.nsIn K mainGlobals "sum" = some none)
    (z_abs : PySem.W.nsIn K mainGlobals "abs" = some none)
    (z_repr : PySem.W.nsIn K mainGlobals "repr" = some none)
    (z_enumerate : PySem.W.nsIn K mainGlobals "enumerate" = some none)
    {uNAME_SIGNS : _}
    (aS_NAME_SIGNS : PySem.W.nsIn K mainGlobals "NAME_SIGNS" = some (some (.str namesS uNAME_SIGNS))) :
    ∃ fd : FuncData, (∀ (s : Shared) (v : Value), BindsTo s fd ⟨[v], []⟩ [("script", v)]) ∧
      ∀ base : Heap, K.In base → base.Ns mainGlobals mg → FnG l.prog w K mg base 4 fa fd ["script"] (spLaw K) := by
  have e := hfa.symm.trans (PySem.W.mg_of X G a0)
  cases e
  have F0 := fun_mk (st := s_law) l0 c0 k0
  have D0 : At K mg "law" s_law ["script"] fa _ := ⟨F0, PySem.W.mg_of X G a0,
    F0.binds (ps := ["script"]) fun _ _ _ _ _ _ us hl => match us, hl with | [_], _ => rfl⟩
  have F1 := fun_mk (st := s__law_draw) l1 c1 k1
  have D1 : At K mg "_law_draw" s__law_draw ["script", "salt"] f1 _ := ⟨F1, PySem.W.mg_of X G a1,
    F1.binds (ps := ["script", "salt"]) fun _ _ _ _ _ _ us hl => match us, hl with | [_, _], _ => rfl⟩
  have F2 := fun_mk (st := s__law_any) l2 c2 k2
  have D2 : At K mg "_law_any" s__law_any ["deal", "bound"] f2 _ := ⟨F2, PySem.W.mg_of X G a2,
    F2.binds (ps := ["deal", "bound"]) fun _ _ _ _ _ _ us hl => match us, hl with | [_, _], _ => rfl⟩
  have F3 := fun_mk (st := s__law_of) l3 c3 k3
  have D3 : At K mg "_law_of" s__law_of ["deal", "some"] f3 _ := ⟨F3, PySem.W.mg_of X G a3,
    F3.binds (ps := ["deal", "some"]) fun _ _ _ _ _ _ us hl => match us, hl with | [_, _], _ => rfl⟩
  have F4 := fun_mk (st := s__law_text) l4 c4 k4
  have D4 : At K mg "_law_text" s__law_text ["deal"] f4 _ := ⟨F4, PySem.W.mg_of X G a4,
    F4.binds (ps := ["deal"]) fun _ _ _ _ _ _ us hl => match us, hl with | [_], _ => rfl⟩
  have F5 := fun_mk (st := s__law_is_letter) l5 c5 k5
  have D5 : At K mg "_law_is_letter" s__law_is_letter ["sign"] f5 _ := ⟨F5, PySem.W.mg_of X G a5,
    F5.binds (ps := ["sign"]) fun _ _ _ _ _ _ us hl => match us, hl with | [_], _ => rfl⟩
  have F6 := fun_mk (st := s__law_walk) l6 c6 k6
  have D6 : At K mg "_law_walk" s__law_walk ["text"] f6 _ := ⟨F6, PySem.W.mg_of X G a6,
    F6.binds (ps := ["text"]) fun _ _ _ _ _ _ us hl => match us, hl with | [_], _ => rfl⟩
  have F7 := fun_mk (st := s_tokens_of) l7 c7 k7
  have D7 : At K mg "tokens_of" s_tokens_of ["text"] f7 _ := ⟨F7, PySem.W.mg_of X G a7,
    F7.binds (ps := ["text"]) fun _ _ _ _ _ _ us hl => match us, hl with | [_], _ => rfl⟩
  have F8 := fun_mk (st := s_token_places) l8 c8 k8
  have D8 : At K mg "token_places" s_token_places ["text"] f8 _ := ⟨F8, PySem.W.mg_of X G a8,
    F8.binds (ps := ["text"]) fun _ _ _ _ _ _ us hl => match us, hl with | [_], _ => rfl⟩
  have F9 := fun_mk (st := s_token_spans) l9 c9 k9
  have D9 : At K mg "token_spans" s_token_spans ["text"] f9 _ := ⟨F9, PySem.W.mg_of X G a9,
    F9.binds (ps := ["text"]) fun _ _ _ _ _ _ us hl => match us, hl with | [_], _ => rfl⟩
  have F10 := fun_mk (st := s_line_end) l10 c10 k10
  have D10 : At K mg "line_end" s_line_end ["text", "at"] f10 _ := ⟨F10, PySem.W.mg_of X G a10,
    F10.binds (ps := ["text", "at"]) fun _ _ _ _ _ _ us hl => match us, hl with | [_, _], _ => rfl⟩
  have F11 := fun_mk (st := s_token_end) l11 c11 k11
  have D11 : At K mg "token_end" s_token_end ["text", "at"] f11 _ := ⟨F11, PySem.W.mg_of X G a11,
    F11.binds (ps := ["text", "at"]) fun _ _ _ _ _ _ us hl => match us, hl with | [_, _], _ => rfl⟩
  refine ⟨_, fun s v => .of_eq rfl, fun base _ _ => ok_law (P := l.prog) (w := w) (K := K) (mg := mg) (base := base) D0 ?_⟩
  exact ⟨f1, _, D1, f2, _, D2, f3, _, D3, f4, _, D4, f5, _, D5, f6, _, D6, f7, _, D7, f8, _, D8, f9, _, D9, f10, _, D10, f11, _, D11,
    kb_rev (ks := ["text"]) F7 (by simp) rfl (fun _ _ _ _ _ _ ws hl => match ws, hl with | [_], _ => rfl),
    kb_rev (ks := ["text"]) F8 (by simp) rfl (fun _ _ _ _ _ _ ws hl => match ws, hl with | [_], _ => rfl),
    PySem.W.mg_none_of X G z_int, PySem.W.mg_none_of X G z_len, PySem.W.mg_none_of X G z_range, PySem.W.mg_none_of X G z_tuple, PySem.W.mg_none_of X G z_max, PySem.W.mg_none_of X G z_sum, PySem.W.mg_none_of X G z_abs, PySem.W.mg_none_of X G z_repr, PySem.W.mg_none_of X G z_enumerate, ⟨_, PySem.W.mg_of X G aS_NAME_SIGNS⟩⟩
end K05
open PySem PySem.W PyProof.Rows
set_option maxRecDepth 100000 in
set_option maxHeartbeats 0 in
theorem PySem.Challenge.cw_lookalike_k05_tokens_and_their_places_holds : PySem.Challenge.rw_lookalike_k05_tokens_and_their_places.Holds := by
  w_on; o_law; k_head; (case hw => w_witness2)
  k_fill
  refine Zc.walkG (l := PySem.Challenge.rw_lookalike_k05_tokens_and_their_places) (n := 63) (k := 4) (x := "script") (sp := K05.spLaw) rfl (by decide) rfl
    ⟨rfl, by decide, by decide⟩ (fun w h Y => PySem.W.kIn_of Y) ?F (fun K H a ns hl hS => ⟨a, ns, rfl, hS, hl, fun _ => rfl⟩)
  case F =>
    intro w mg fa h KX G hmg
    refine' K05.all_mk KX G hmg ?a0 ?l0 ?c0 ?k0 ?a1 ?l1 ?c1 ?k1 ?a2 ?l2 ?c2 ?k2 ?a3 ?l3 ?c3 ?k3 ?a4 ?l4 ?c4 ?k4 ?a5 ?l5 ?c5 ?k5 ?a6 ?l6 ?c6 ?k6 ?a7 ?l7 ?c7 ?k7 ?a8 ?l8 ?c8 ?k8 ?a9 ?l9 ?c9 ?k9 ?a10 ?l10 ?c10 ?k10 ?a11 ?l11 ?c11 ?k11 ?z_int ?z_len ?z_range ?z_tuple ?z_max ?z_sum ?z_abs ?z_repr ?z_enumerate ?aS_NAME_SIGNS
    (case a0 => k_is)
    (case l0 => k_is)
    (case c0 => k_is)
    (case k0 => k_is)
    (case a1 => k_is)
    (case l1 => k_is)
    (case c1 => k_is)
    (case k1 => k_is)
    (case a2 => k_is)
    (case l2 => k_is)
    (case c2 => k_is)
    (case k2 => k_is)
    (case a3 => k_is)
    (case l3 => k_is)
    (case c3 => k_is)
    (case k3 => k_is)
    (case a4 => k_is)
    (case l4 => k_is)
    (case c4 => k_is)
    (case k4 => k_is)
    (case a5 => k_is)
    (case l5 => k_is)
    (case c5 => k_is)
    (case k5 => k_is)
    (case a6 => k_is)
    (case l6 => k_is)
    (case c6 => k_is)
    (case k6 => k_is)
    (case a7 => k_is)
    (case l7 => k_is)
    (case c7 => k_is)
    (case k7 => k_is)
    (case a8 => k_is)
    (case l8 => k_is)
    (case c8 => k_is)
    (case k8 => k_is)
    (case a9 => k_is)
    (case l9 => k_is)
    (case c9 => k_is)
    (case k9 => k_is)
    (case a10 => k_is)
    (case l10 => k_is)
    (case c10 => k_is)
    (case k10 => k_is)
    (case a11 => k_is)
    (case l11 => k_is)
    (case c11 => k_is)
    (case k11 => k_is)
    (case z_int => k_is)
    (case z_len => k_is)
    (case z_range => k_is)
    (case z_tuple => k_is)
    (case z_max => k_is)
    (case z_sum => k_is)
    (case z_abs => k_is)
    (case z_repr => k_is)
    (case z_enumerate => k_is)
    (case aS_NAME_SIGNS => k_is)
end
