import PyProof.Rows.All
import Wide.All
import OpenK.AllK
import Wide.FinOn
import HandS.ForMost
import HandS.Wide
import HandS.IsInst
import HandS.CallLocal
import HandS.Evl
import HandS.Style
import HandS.Iter
import HandS.Walk
import HandS.Deep
import HandS.ExcInit
import HandS.ExcInitHot
import HandS.ExcIs
import HandS.ExcField
import HandS.MakeKw
import HandS.Comp
import KE.KExcIs
import HandS.RaiseMore
import PySem.Challenge.RW_lookalike_k00_errors_and_what_they_keep
set_option Elab.async false
set_option linter.all false
set_option maxRecDepth 100000
section
set_option maxHeartbeats 4000000
/-! What every law of this program wants: a law's def where nothing is being shown, repr of data, calls by keywords alone. -/
namespace Zc
open PySem PySem.Spec PyProof.Rows L2

section
variable {P : Program} {w : World} {K : PySem.W.Frag} {mg : Str → Option Value} {base : Heap}

/-- a def's promise, kept wherever no repr runs around the call -/
structure FnG (P : Program) (w : World) (K : PySem.W.Frag) (mg : Str → Option Value)
    (base : Heap) (k : Nat) (f : Addr) (fd : FuncData) (ps : List Str) (sp : Sp) : Prop where
  len : ∀ vs H Q E, sp vs H Q E → vs.length = ps.length
  run : ∀ (A : Around) (outer : List Env) (s : Shared) (H : Hp) (args : Args)
    (us : List Value) (vs : List V) (Q : VK) (E : XK), Room k A → A.guards = some [] →
    Env0 P w K mg base A outer s H → BindsTo s fd args (ps.zip us) → Vals vs us → sp vs H Q E →
    codeAny (model P w) A (.call (.ref f) args) (CR CX0 outer P w H s Q E) s

/-- the rule for such a def -/
theorem fnG_ok {x qual : Str} {st : Stmt} {f : Addr} {fd : FuncData} {N ps : List Str} {k : Nat} {sp : Sp}
    (F : Fun K x qual st f fd) (S : FnScope N ps (defScope st))
    (len : ∀ vs H Q E, sp vs H Q E → vs.length = ps.length)
    (body : ∀ (cdv : Value) (A : Around) (outer : List Env) (s : Shared) (H : Hp) (vs : List V) (Q : VK) (E : XK),
      Room k (A.deeper (envOfC qual (defScope st) s.heap.objs.size f cdv)) → A.guards = some [] → sp vs H Q E →
      ∃ t, PSs (cxOf CX0 P w K mg base N qual (defScope st) f cdv A outer s H E).nox (defBody st) t ∧
        t { nx := fun _ H' => Q .non H', rt := Q } (start N vs) H) :
    FnG P w K mg base (k + 1) f fd ps sp := by
  obtain ⟨oc, od, kV, doc, pm, an, cdv, ct, osl, rfl, lk, hcd⟩ := F.ex
  constructor
  · exact len
  intro A outer s H args us vs Q E hr hg e0 hb r hsp
  have l0 := len _ _ _ _ hsp
  have kin : K.In s.heap :=
    e0.mod.kin.keeps fun b o e => (e0.bs b o e).1
  have nolim : s.heap.NoLimit :=
    e0.mod.nolimit.keeps fun b o e => (e0.bs b o e).1
  have kinds : ∀ y ∈ ps.zip us, (defScope st).names.lookup y.1 = some .local ∨
      ((defScope st).names.lookup y.1 = some .cell ∧
        ((cellsFrom (s.heap.objs.size + 1) (defScope st).names []).lookup y.1).isSome = true) := by
    rintro ⟨n, v⟩ hy
    cases S.par n (List.of_mem_zip hy).1 with
    | inl q => exact Or.inl q
    | inr q => exact Or.inr ⟨q, PySem.W.cellsFrom_some _ _ _ (Or.inl q)⟩
  apply codeAny_call_function hr.depth (kin _ _ lk) rfl S.co S.gen rfl (PySem.W.codeRec_of kin hcd)
    (hb _ _ _ _ ?_)
  apply wpAny_newFunctionEnv_cells S.kind kinds
  intro env he s1 x
  subst he
  refine And.intro (nolim.keeps x.toInCall.keep) (codeAny_func ?_)
  obtain ⟨t, ht, hq⟩ := body cdv A outer s H vs Q E (hr.deeper _) hg hsp
  have J : Inv (cxOf CX0 P w K mg base N qual (defScope st) f cdv A outer s H E) [] (start N vs) H s1 :=
    inv_start S hr.hd e0 l0 r x
  apply wpAny_mono (ht.nox.run [] s1 (start N vs) H _ J hq)
  · intro fl s' hs
    have fin : ∀ {σ' : L2.St} {H' : Hp} {v : V} {u : Value},
        Inv (cxOf CX0 P w K mg base N qual (defScope st) f cdv A outer s H E) [] σ' H' s' →
        RelV v u → Q v H' → CE outer P w H s Q u s' := by
      intro σ' H' v u J' rv q
      exact ⟨v, H', J'.os, J'.bare, J'.base, J'.hok, rv, q⟩
    match fl, hs with
    | .ret u, hs =>
      obtain ⟨v, σ', H', J', rv, q⟩ := hs
      exact fin J' rv q
    | .next, hs =>
      obtain ⟨σ', H', J', q⟩ := hs
      exact fin (v := V.non) (u := Value.none) J' rfl q
    | .brk, hs =>
      obtain ⟨_, _, _, q⟩ := hs
      exact q.elim
    | .cont, hs =>
      obtain ⟨_, _, _, q⟩ := hs
      exact q.elim
  · intro e s' hs
    exact hs

/-- a law's call, from such a promise -/
theorem callG {mb : Str → Option Value} {k : Nat} {fa a : Addr} {fd : FuncData} {x : Str} {sp : Sp}
    {s₁ : Shared} {vs : List Value} {ns : List Int}
    (KX : K.In s₁.heap) (gl : s₁.heap.Ns mainGlobals mg) (bn : s₁.heap.Ns builtinsNs mb)
    (bb : ∀ x : Str, x ≠ "__name__" → mb x = bootBuiltins x)
    (lim : s₁.heap.NoLimit) (gens : s₁.gens = #[])
    (ha : s₁.heap.get? a = some { cls := .type "list", data := .seq vs.toArray })
    (hi : IntsAre vs ns) (hl : ns.length ≤ sizeLine) (hr : Room k callerA)
    (F : ∀ base : Heap, K.In base → base.Ns mainGlobals mg → FnG P w K mg base k fa fd [x] sp)
    (bind : ∀ (s : Shared) (u : Value), BindsTo s fd ⟨[u], []⟩ [(x, u)])
    (hsp : ∀ H : Hp, SqL K H a (ns.map V.int) → sp [.ref a] H (fun v _ => v = .bl true) fun _ _ _ => False) :
    codeAny (model P w) callerA (.call (.ref fa) ⟨[.ref a], []⟩)
      (fun r s' => r = .ok (.ret (.bool true)) ∧ OldK s₁.heap s'.heap ∧ s'.os = s₁.os ∧ AllBare s'.gens) s₁ := by
  have rv := vals_ints hi
  have lv := hi.length
  have main : ∀ H : Hp, Only H → SqL K H a (ns.map V.int) → HOk P w H s₁.heap →
      (∀ b, H b ≠ none → b = a) → (H a ≠ none → K.lookup a = none) →
      codeAny (model P w) callerA (.call (.ref fa) ⟨[.ref a], []⟩)
        (fun r s' => r = .ok (.ret (.bool true)) ∧ OldK s₁.heap s'.heap ∧ s'.os = s₁.os ∧ AllBare s'.gens) s₁ := by
    intro H only hS ok one away
    have offA : ∀ {b : Addr} {u : HO}, H b = some u → b = a := fun {b u} q =>
      one b (by rw [q]; intro z; cases z)
    have dictFree : ∀ {b : Addr} {o : Obj} {es : Array DictEntry} {ep : Nat},
        s₁.heap.get? b = some o → o.data = .dict es ep → H b = none := by
      intro b o es ep e d
      match q : H b with
      | none => rfl
      | some u =>
        have z := offA q
        rw [z, ha] at e
        have e' := Option.some.inj e
        rw [← e'] at d
        have d' : Data.seq vs.toArray _ = Data.dict es ep := d
        exact Data.noConfusion d'
    have nsHid : ∀ {b : Addr} {m : Str → Option Value}, s₁.heap.Ns b m → (hidT s₁.heap H).Ns b m := by
      rintro b m ⟨o, es, ep, e, d, r⟩
      exact ⟨o, es, ep, hidT_get e (dictFree e d), d, r⟩
    have kinHid : K.In (hidT s₁.heap H) := by
      intro b o e
      apply hidT_get (KX b o e)
      match q : H b with
      | none => rfl
      | some u =>
        have z := offA q
        rw [z] at e
        have z2 := away (by rw [← z, q]; intro y; cases y)
        rw [z2] at e
        cases e
    have md : Mod K mg (hidT s₁.heap H) := by
      refine ⟨kinHid, nsHid gl, ⟨mb, nsHid bn, bb⟩, ?_⟩
      obtain ⟨mc, h1, h2⟩ := lim
      exact ⟨mc, nsHid h1, h2⟩
    have e0 : Env0 P w K mg (hidT s₁.heap H) callerA [] s₁ H := by
      refine ⟨rfl, md, fun b o e => of_hidT e, Nat.le_of_eq (hidT_size _ _), trivial, ?_, ok, .of_eq gens⟩
      intro b hb
      exact absurd (show b ∈ ([] : List Addr) from hb) List.not_mem_nil
    have run := (F _ kinHid (nsHid gl)).run callerA [] s₁ H ⟨[.ref a], []⟩ [.ref a] [.ref a] _ _ hr rfl e0
      (bind s₁ (.ref a)) (.cons rfl .nil) (hsp H hS)
    apply codeAny_mono run
    intro r s' h
    match r, h with
    | .error e, h => exact False.elim h
    | .ok .next, h => exact False.elim h
    | .ok .brk, h => exact False.elim h
    | .ok .cont, h => exact False.elim h
    | .ok (.ret u), h =>
      obtain ⟨v, H', os, bare, un, ok', r', q⟩ := h
      have q' : v = .bl true := q
      subst q'
      have r2 : u = Value.bool true := r'
      subst r2
      refine ⟨rfl, OldK.of_keep ?_, os, bare⟩
      intro b o e
      match q : H b with
      | none => exact un.keep b o e q (fun z => absurd (show b ∈ ([] : List Addr) from z) List.not_mem_nil) List.not_mem_nil
      | some u =>
        cases only b with
        | inl z =>
          rw [q] at z
          cases z
        | inr z =>
          obtain ⟨ob, xs, z⟩ := z
          obtain ⟨e1, _⟩ := ok b _ z
          obtain ⟨e2, _⟩ := ok' b _ (un.frzs b ob _ z)
          rw [e] at e1
          rw [Option.some.inj e1]
          exact e2
  match hk : K.lookup a with
  | some o =>
    have e := KX a o hk
    rw [ha] at e
    have e' := Option.some.inj e
    subst e'
    apply main (fun _ => none)
    · intro b
      exact Or.inl rfl
    · exact Or.inr ⟨_, vs.toArray, _, hk, rfl, rfl, rfl, by rw [List.size_toArray, lv]; exact hl, by simpa using rv⟩
    · intro b u z
      have z' : (none : Option HO) = some u := z
      cases z'
    · intro b z
      exact absurd rfl z
    · intro z
      exact absurd rfl z
  | none =>
    have yes : ∀ {b : Addr}, b = a → (fun b => if b = a then some (HO.frz { cls := .type "list", data := .seq vs.toArray } (.lst (ns.map V.int))) else none : Hp) b
        = some (HO.frz { cls := .type "list", data := .seq vs.toArray } (.lst (ns.map V.int))) := fun h => if_pos h
    have no : ∀ {b : Addr}, ¬ b = a → (fun b => if b = a then some (HO.frz { cls := .type "list", data := .seq vs.toArray } (.lst (ns.map V.int))) else none : Hp) b = none := fun h => if_neg h
    apply main (fun b => if b = a then some (HO.frz { cls := .type "list", data := .seq vs.toArray } (.lst (ns.map V.int))) else none)
    · intro b
      by_cases hb : b = a
      · exact Or.inr ⟨_, _, yes hb⟩
      · exact Or.inl (no hb)
    · exact Or.inl (Or.inr ⟨_, yes rfl⟩)
    · intro b u z
      by_cases hb : b = a
      · have z' := (yes hb).symm.trans z
        have z2 := Option.some.inj z'
        subst z2
        subst hb
        exact ⟨ha, by rw [List.length_map]; exact hl, vs, _, rv, ha⟩
      · have z' := (no hb).symm.trans z
        cases z'
    · intro b z
      by_cases hb : b = a
      · exact hb
      · exact absurd (no hb) z
    · intro _
      exact hk
end

/-- the goal that the head leaves, from such a promise -/
theorem walkG {l : PySem.W.OpenLaw} {n k : Nat} {q : Program} {loose : List Str}
    {XP : (Str → Option Value) → Heap → Prop} {YP : World → Heap → Prop} {d : DefRec}
    {K : Params → PySem.W.Frag} {sp : PySem.W.Frag → Sp} {x : Str}
    (hn : l.most = some n) (hn2 : n ≤ sizeLine) (hdf : d.params.defaults = []) (hr : Room k callerA)
    (hY : ∀ (w : World) (h : Heap), YP w h → (K w.params).In h)
    (F : ∀ (w : World) (mg : Str → Option Value) (fa : Addr) (h : Heap), (K w.params).In h → h.Ns mainGlobals mg →
      mg d.name = some (.ref fa) →
      ∃ fd : FuncData, (∀ (s : Shared) (u : Value), BindsTo s fd ⟨[u], []⟩ [(x, u)]) ∧
        ∀ base : Heap, (K w.params).In base → base.Ns mainGlobals mg →
          FnG l.prog w (K w.params) mg base k fa fd [x] (sp (K w.params)))
    (hsp : ∀ (K : PySem.W.Frag) (H : Hp) (a : Addr) (ns : List Int), ns.length ≤ n → SqL K H a (ns.map V.int) →
      sp K [.ref a] H (fun v _ => v = .bl true) fun _ _ _ => False) :
    PySem.W.WalkO q loose XP YP l.row.toRowW d [] (fun f vs => PySem.call f vs) := by
  apply Att.attach_call hn hdf
  intro w s₀ s₁ mg mb fa o pm cd doc a vs ns G Y ho hd hcd hmg hobj hints hlen hg
  have kx := hY w _ Y
  obtain ⟨fd, hb, hF⟩ := F w mg fa _ kx G.T.g hmg
  exact callG kx G.T.g G.T.b G.T.builtins G.T.nolimit hg hobj hints (Nat.le_trans hlen hn2) hr hF hb
    (fun H hS => hsp (K w.params) H a ns hlen hS)

section
variable {X : Cx}
/-- repr of data: what Python shows of it -/
theorem call_repr_D (hg : X.A.guards = some []) (hu : X.A.units + 64 < cLine) : CallR X (.builtin "repr")
    (fun xs H Q => ∃ v d, xs = [v] ∧ isDisplay d = true ∧ Dp X.K H v d ∧ d.showable = true ∧ d.hasDict = false ∧ d.depth < 40 ∧ d.shown.length ≤ sizeLine ∧ Q (.str d.shown) H) := by
  intro pins s σ H xs us Q I r h
  obtain ⟨v, d, rfl, hdsp, hD, hsh, hnd, hdp, hsz, q⟩ := h
  obtain ⟨u, rfl, ru⟩ := vals1 r
  obtain ⟨as, rd⟩ := Dp.reads I d v u hD ru
  obtain ⟨a, rfl⟩ := isRef_of_reads rd hdsp
  refine repr_of_reads' rd hsh (PyData.noDict_hsm hnd) hg (by omega) (fun _ _ e => e) (fun h' u tk hk => ?_) hsz
  exact ⟨.str d.shown, H, I.kept hk, ⟨_, rfl⟩, q⟩

/-- f(k = v, ..), no value without a name -/
theorem pe_callKw {CX : CXT} {k : Nat} {f : Addr} {fd : FuncData} {ps ks : List Str} {sp : Sp} {E : XK} {x : Str} {p pos : Pos}
    {kws : List Keyword} {tk : TA} {g : List Value → List Value → List Value} {gV : List V → List V → List V}
    (F : FnOk X.prog X.w X.K X.mg X.base CX k f fd ps sp) (hr : Room k X.A) (hg : Gl X x) (hm : X.mg x = some (.ref f))
    (hk : PySem.W.keepIn X.K (.ref f) = true) (hb : KBinds X.K fd ps ks g gV) (hx : Passes CX X E) (hkw : PK X kws tk)
    (hall : (backToKw pos (keywordEach kws X.env)).all (·.1.isSome) = true := by rfl)
    (hks : (backToKw pos (keywordEach kws X.env)).filterMap (·.1) = ks := by rfl)
    (hdb : (x == ("__debug__" : Str)) = false := by decide)
    (hpl : ((backTo pos (starEach [] X.env)).any (·.1) || (backToKw pos (keywordEach kws X.env)).any (·.1.isNone)) = false := by rfl) :
    PE X (.Call (.Name x p) [] kws pos) (tCallK sp gV E tNil tk) := by
  constructor
  intro pins s σ H Q I h
  apply wpAny_Call_Name_kw (ld_glob I hg hm ?_ hdb)
  apply PySem.W.callWith_KW0 (h₀ := X.base) I.ok.mod.kin hk hall ?_ hpl
  apply thn (hkw.run pos pins s σ H _ I h)
  rintro ws s2 ⟨zs, H2, I2, rz, q2⟩
  refine ⟨I2.kIn, ?_⟩
  rw [hks]
  exact run_fnk (us := []) (vs := []) F hr hb hx I2 .nil rz q2
end
end Zc
end

section
set_option maxHeartbeats 1000000
/-! The deal from which every law of this program draws: what it holds, and that a draw is some number below its bound. -/
namespace Zc
open PySem PySem.Spec PyProof.Rows L2

/-- a def of the text: where it stands, by what name, how its arguments bind -/
structure At (K : PySem.W.Frag) (mg : Str → Option Value) (x : Str) (st : Stmt) (ps : List Str) (f : Addr) (fd : FuncData) : Prop where
  F : Fun K x x st f fd
  g : mg x = some (.ref f)
  b : Binds K fd ps []

/-- a deal at d, its list at l -/
def Deal (H : Hp) (d l : Addr) : Prop := ∃ (xs : List Int) (b : Int), d ≠ l ∧ H d = some (.lst [.ref l, .int b]) ∧
  H l = some (.lst (xs.map V.int)) ∧ xs.length ≤ 48 ∧ (∀ x ∈ xs, 0 ≤ x) ∧ 0 ≤ b ∧ b < 2147483647
/-- all that was tracked beside the deal is as it was -/
def But (d l : Addr) (H H' : Hp) : Prop := ∀ b o, b ≠ d → b ≠ l → H b = some o → H' b = some o
theorem But.refl (d l : Addr) (H : Hp) : But d l H H := fun _ _ _ _ h => h
theorem But.trans {d l : Addr} {H H1 H2 : Hp} (a : But d l H H1) (b : But d l H1 H2) : But d l H H2 :=
  fun c o n1 n2 h => b c o n1 n2 (a c o n1 n2 h)
theorem But.of {d l : Addr} {H H' : Hp} (a : Same H H') : But d l H H' := fun c o _ _ h => a c o h
theorem But.updD {d l : Addr} {H H' : Hp} {o : HO} (a : But d l H H') : But d l H (upd H' d o) := fun c u n1 n2 h => by
  rw [upd_ne n1]
  exact a c u n1 n2 h
theorem But.updL {d l : Addr} {H H' : Hp} {o : HO} (a : But d l H H') : But d l H (upd H' l o) := fun c u n1 n2 h => by
  rw [upd_ne n2]
  exact a c u n1 n2 h
theorem same_new {H : Hp} {p : Addr} {o : HO} (h : H p = none) : Same H (upd H p o) := fun b x e => by
  rw [upd_ne (ne_of_none e h)]
  exact e

/-! ### lists of ints as data -/
theorem dp_ints {K : PySem.W.Frag} {H : Hp} : ∀ ns : List Int, DpAll K H (ns.map V.int) (ns.map PyData.int)
  | [] => .nil
  | n :: r => .cons (.int n) (dp_ints r)
theorem can_ints : ∀ ns : List Int, PyData.canLayAll0 (ns.map PyData.int) = true
  | [] => by simp [PyData.canLayAll0]
  | n :: r => by simp [PyData.canLayAll0, PyData.canLay0, can_ints r]
theorem depth_ints : ∀ ns : List Int, PyData.depthAll (ns.map PyData.int) = 0
  | [] => by simp [PyData.depthAll]
  | n :: r => by simp [PyData.depthAll, PyData.depth, depth_ints r]
theorem shaped_ints (ns : List Int) : SeqAt.shaped (.list (ns.map PyData.int)) = true := by
  simp [SeqAt.shaped, PyData.canLay0, can_ints, PyData.depth, depth_ints]
theorem eqv_nil (ns : List Int) : PyData.eqv (.list (ns.map PyData.int)) (.list []) = ns.isEmpty := by
  cases ns <;> simp [PyData.eqv, PyData.eqvAll]
theorem shaped_nil : SeqAt.shaped (.list []) = true := by decide +kernel
theorem ne_nil_read {K : PySem.W.Frag} {H : Hp} {l p : Addr} {ns : List Int} {Q : VK} (h : SqL K H l (ns.map V.int)) (hp : SqL K H p [])
    (q : Q (.bl (!ns.isEmpty)) H) : rNeD K (.ref l) (.ref p) H Q := by
  refine ⟨.list (ns.map .int), .list [], .lst h (dp_ints ns), .lst hp .nil, shaped_ints ns, shaped_nil, ?_⟩
  rw [eqv_nil]
  exact q

theorem snoc_cases (xs : List Int) : xs = [] ∨ ∃ ys z, xs = ys ++ [z] := by
  cases xs with
  | nil => exact .inl rfl
  | cons x r => exact .inr ⟨_, _, (List.dropLast_concat_getLast (List.cons_ne_nil x r)).symm⟩
theorem snoc_map (ys : List Int) (z : Int) : (ys ++ [z]).map V.int = ys.map V.int ++ [V.int z] := by
  rw [List.map_append]
  rfl
theorem snoc_len (ys : List Int) (z : Int) : (ys ++ [z]).length = ys.length + 1 := by
  rw [List.length_append]
  rfl
theorem snoc_last (ys : List V) (z : V) : (ys ++ [z])[(ys ++ [z]).length - 1]? = some z := by
  rw [List.length_append]
  simp
theorem snoc_ne (ys : List Int) (z : Int) : (!(ys ++ [z]).isEmpty) = true := by
  cases ys <;> rfl
theorem iteTe {c : Bool} {A B : Prop} (e : c = true) (h : A) : if c = true then A else B := by
  rw [if_pos e]
  exact h
theorem iteFe {c : Bool} {A B : Prop} (e : c = false) (h : B) : if c = true then A else B := by
  rw [if_neg (by rw [e]; exact Bool.false_ne_true)]
  exact h
/-- the deal's list after a change of it -/
theorem Deal.list {H : Hp} {d l : Addr} {b : Int} {xs : List Int} (ndl : d ≠ l) (hd : H d = some (.lst [.ref l, .int b])) (hlen : xs.length ≤ 48)
    (hpos : ∀ x ∈ xs, 0 ≤ x) (b0 : 0 ≤ b) (b1 : b < 2147483647) : Deal (upd H l (.lst (xs.map V.int))) d l :=
  ⟨xs, b, ndl, by rw [upd_ne ndl]; exact hd, upd_same, hlen, hpos, b0, b1⟩
theorem Deal.num {H : Hp} {d l : Addr} {b : Int} {xs : List Int} (ndl : d ≠ l) (hl : H l = some (.lst (xs.map V.int))) (hlen : xs.length ≤ 48)
    (hpos : ∀ x ∈ xs, 0 ≤ x) (b0 : 0 ≤ b) (b1 : b < 2147483647) : Deal (upd H d (.lst [.ref l, .int b])) d l :=
  ⟨xs, b, ndl, upd_same, by rw [upd_ne (fun e => ndl e.symm)]; exact hl, hlen, hpos, b0, b1⟩

/-! ### the promises -/
def spAny : Sp := fun vs H Q _ => ∃ (d l : Addr) (n : Int), vs = [.ref d, .int n] ∧ Deal H d l ∧ 0 < n ∧ n < 2 ^ 64 ∧
  ∀ (r : Int) (H' : Hp), 0 ≤ r → r < n → Deal H' d l → But d l H H' → Q (.int r) H'
def spDraw (K : PySem.W.Frag) : Sp := fun vs H Q _ => ∃ (a : Addr) (ns : List Int) (z : Int), vs = [.ref a, .int z] ∧ SqL K H a (ns.map V.int) ∧
  ns.length ≤ 63 ∧ 0 ≤ z ∧ z ≤ 100 ∧ ∀ (d l : Addr) (H' : Hp), H d = none → H l = none → Deal H' d l → Same H H' → Q (.ref d) H'
def spOf (K : PySem.W.Frag) : Sp := fun vs H Q _ => ∃ (d l a : Addr) (xs : List V), vs = [.ref d, .ref a] ∧ Deal H d l ∧
  (∀ H', But d l H H' → SqL K H' a xs) ∧ 0 < xs.length ∧ xs.length ≤ 1000 ∧
  ∀ (i : Nat) (x : V) (H' : Hp), xs[i]? = some x → Deal H' d l → But d l H H' → Q x H'
theorem map_at {ns : List Int} {i : Nat} {x : V} (h : (ns.map V.int)[i]? = some x) : ∃ n, ns[i]? = some n ∧ x = .int n := by
  rw [List.getElem?_map] at h
  cases e : ns[i]? with
  | none =>
    rw [e] at h
    cases h
  | some n =>
    rw [e] at h
    exact ⟨n, rfl, (Option.some.inj h).symm⟩
theorem cut_ints (ns : List Int) (hi : Int) : ∃ ms : List Int, cutV (ns.map V.int) none (some hi) = ms.map V.int ∧ ms.length ≤ ns.length := by
  refine ⟨(ns.drop (HT.sIx ns.length 0 none)).take (HT.sIx ns.length ns.length (some hi) - HT.sIx ns.length 0 none), ?_, ?_⟩
  · unfold cutV
    rw [List.length_map, List.map_take, List.map_drop]
  · rw [List.length_take, List.length_drop]
    omega
theorem cut48 (ns : List Int) : ∃ ms : List Int, cutV (ns.map V.int) none (some 48) = ms.map V.int ∧ ms.length ≤ 48 := by
  refine ⟨ns.take 48, ?_, by rw [List.length_take]; omega⟩
  unfold cutV
  rw [HT.sIx_none, show HT.sIx (ns.map V.int).length (ns.map V.int).length (some 48) = min 48 (ns.map V.int).length from HT.sIx_nat _ _ 48, List.drop_zero, Nat.sub_zero, List.length_map, List.map_take]
  by_cases h : 48 ≤ ns.length
  · rw [Nat.min_eq_left h]
  · rw [Nat.min_eq_right (by omega), List.take_of_length_le (by rw [List.length_map]; omega), List.take_of_length_le (by rw [List.length_map]; omega)]
/-! ### calls by keywords alone, the last parameter's first -/
def revK {α : Type} : List α → List α → List α
  | [], ws => ws.reverse
  | _ :: _, _ => []
theorem kb_rev {K : PySem.W.Frag} {x qual : Str} {st : Stmt} {f : Addr} {fd : FuncData} {ps ks : List Str} (F : Fun K x qual st f fd) (hp : ps ≠ []) (hk : ks.length = ps.length)
    (h : ∀ (kV doc pm : Value) (an : Option Addr) (cdv ct : Value) (ws : List Value), ws.length = ks.length →
      bindArgs (PySem.W.fnOf x qual (defArgs st) (defBody st) (defScope st) .none kV doc pm an cdv ct) ⟨[], ks.zip ws⟩ = pure (ps.zip ws.reverse)) :
    KBinds K fd ps ks revK revK := by
  obtain ⟨oc, od, kV, doc, pm, an, cdv, ct, osl, rfl, lk, hcd⟩ := F.ex
  constructor
  · intro s us ws _ hl
    cases us with
    | cons u r =>
      exact absurd (List.eq_nil_of_length_eq_zero hl.symm) hp
    | nil =>
      have hl' : ws.reverse.length = ps.length := hl
      rw [List.length_reverse] at hl'
      exact .of_eq (h kV doc pm an cdv ct ws (hl'.trans hk.symm))
  · intro vs us zs ws r1 r2
    cases r1 with
    | nil => exact r2.reverse
    | cons _ _ => exact .nil
end Zc
end

section
set_option maxHeartbeats 2000000
/-! enumerate of a text: its signs, each in a new pair with its place. -/
namespace Zc
open PySem PySem.Spec PyProof.Rows L2
def Its2 (z : Str) : It :=
  ⟨fun i _ => i < z.cps.size,
   fun i H v H' => ∃ T c, v = .ref T ∧ H T = none ∧ z.cps[i]? = some c ∧ H' = upd H T (.tup [.int (i : Nat), .str ⟨#[c]⟩]),
   fun i _ => z.cps.size ≤ i⟩
theorem draws_of {prog : Program} {w : World} {A : Around} (hh : A.handled = none) (it : Addr) (z : Str) (t : Tok) :
    Draws prog w A it [it] z.cps.size (fun i v => ∃ c u, z.cps[i]? = some c ∧ v = .str ⟨#[c]⟩ u) (fun i h => h.IsStrIter it (strIterType z) z t i) := by
  cases ha : z.cps.all (· < 128) with
  | true =>
    have e : strIterType z = "str_ascii_iterator" := by simp [strIterType, ha]
    rw [e]
    exact Draws.strAscii hh it z t
  | false =>
    have e : strIterType z = "str_iterator" := by simp [strIterType, ha]
    rw [e]
    exact Draws.strWide hh it z t
theorem turn_enumS {P : Program} {w : World} {K : PySem.W.Frag} {elts : List Expr} {kk : Nat} {tpos : Pos} (z : Str) (t : Tok) (e it : Addr) (hne : e ≠ it) :
    Turn P w K (.Tuple elts kk tpos) (Its2 z) [e, it] e (fun i h => (∃ old, IsEnum h e it ((i : Nat) : Int) old) ∧ h.IsStrIter it (strIterType z) z t i) where
  mem := List.mem_cons_self
  obj := by
    rintro i h ⟨⟨old, he⟩, ⟨o, ho, _, hd⟩⟩ b hb
    rcases List.mem_cons.mp hb with rfl | hb
    · refine ⟨_, he, ?_⟩
      intro v q
      cases q
    · rw [List.mem_singleton.mp hb]
      refine ⟨o, ho, ?_⟩
      intro v q
      rw [hd] at q
      cases q
  keep := by
    rintro i h h' ⟨⟨old, he⟩, ⟨o, ho, r⟩⟩ k
    exact ⟨⟨old, k e List.mem_cons_self _ he⟩, ⟨o, k it (by simp) o ho, r⟩⟩
  item := by
    intro X hP hw hK hc i pins s σ H E I hf st hg
    subst hP hw hK
    obtain ⟨⟨old, he⟩, hit⟩ := st
    have hel : e < s.heap.objs.size := Heap.lt_size he
    have hil : it < s.heap.objs.size := by
      obtain ⟨_, q, _⟩ := hit
      exact Heap.lt_size q
    have hh : X.A.in1.handled = none := I.ok.hd hc
    refine wpAny_pyNext_enum_itemD (draws_of hh it z t) he hit hg hne (fun q => hne (List.mem_singleton.mp q)) ?_
    intro x h' tk hx ho hit' hT hsz hk
    obtain ⟨c, u, hcx, rfl⟩ := hx
    refine ⟨_, rfl, wpAny_letOwnedTupleGo_enum (s := { s with heap := h', toks := tk + 1 }) ho ?_⟩
    intro h'' he' sb
    have hT2 : h''.get? s.heap.objs.size = some { cls := .type "tuple", data := .seq #[.int i tk, .str ⟨#[c]⟩ u] } :=
      (sb.2 _ (Nat.ne_of_gt hel)).trans hT
    have fresh : ObjOk X.prog X.w (upd H s.heap.objs.size (.tup [.int (i : Nat), .str ⟨#[c]⟩])) h'' s.heap.objs.size (.tup [.int (i : Nat), .str ⟨#[c]⟩]) := by
      refine ⟨by show 2 ≤ sizeLine; decide, [.int i tk, .str ⟨#[c]⟩ u], ?_, ⟨_, hT2, rfl, _, rfl⟩⟩
      exact .cons ⟨_, rfl⟩ (.cons ⟨_, rfl⟩ .nil)
    have J : Inv X pins σ (upd H s.heap.objs.size (.tup [.int (i : Nat), .str ⟨#[c]⟩])) { s with heap := h'', toks := tk + 1 } := by
      refine I.turnedNew (ch := [e, it]) ?_ hf (Nat.le_refl _) fresh
      intro b ob hb q
      have b1 : b ≠ e := fun y => hb (by rw [y]; exact List.mem_cons_self)
      have b2 : b ≠ it := fun y => hb (by rw [y]; exact List.mem_cons_of_mem _ List.mem_cons_self)
      exact (sb.2 b b1).trans (hk b ob b1 b2 q)
    refine ⟨.ref s.heap.objs.size, _, J, rfl, ⟨_, c, rfl, I.hok.fresh (Nat.le_refl _), hcx, rfl⟩, ⟨⟨.str ⟨#[c]⟩ u, ?_⟩, ?_⟩, ?_⟩
    · rw [show ((i + 1 : Nat) : Int) = (i : Int) + 1 by omega]
      exact he'
    · obtain ⟨o, q, r⟩ := hit'
      exact ⟨o, (sb.2 it (Ne.symm hne)).trans q, r⟩
    · intro b hb
      have lt : b < s.heap.objs.size := by
        rcases List.mem_cons.mp hb with y | y
        · rw [y]
          exact hel
        · rw [List.mem_singleton.mp y]
          exact hil
      rw [upd_ne (Nat.ne_of_lt lt)]
      exact (hf b hb).1
  done := by
    intro X hP hw hK hc i pins s σ H E I hf st hg
    subst hP hw hK
    obtain ⟨⟨old, he⟩, hit⟩ := st
    have hh : X.A.in1.handled = none := I.ok.hd hc
    obtain ⟨f0, f1, f2, f3, f4, f5⟩ := hf it (by simp)
    have D := draws_of (prog := X.prog) (w := X.w) hh it z t
    have D2 : Draws X.prog X.w X.A.in1 it [it] z.cps.size (fun i v => ∃ c u, z.cps[i]? = some c ∧ v = .str ⟨#[c]⟩ u) (fun j h => h.IsStrIter it (strIterType z) z t i ∧ j = z.cps.size ∨ h.IsStrIter it (strIterType z) z t j) := by
      refine ⟨?_, ?_, ?_, ?_⟩
      · rintro j h (⟨q, _⟩ | q)
        · exact D.live _ _ q
        · exact D.live _ _ q
      · rintro j h h' (⟨q, r⟩ | q) k
        · exact .inl ⟨D.frame _ _ _ q k, r⟩
        · exact .inr (D.frame _ _ _ q k)
      · rintro j s Q E hj (⟨_, r⟩ | q) hQ
        · omega
        · exact D.item j s Q E hj q fun x h' tk a b c => hQ x h' tk a (.inr b) c
      · rintro s Q E (⟨q, _⟩ | q) hE
        · have hx : z.cps[i]? = none := Array.getElem?_eq_none hg
          cases ha : z.cps.all (· < 128) with
          | true =>
            rw [show strIterType z = "str_ascii_iterator" by simp [strIterType, ha]] at q
            exact wpAny_nextOf_ascii_end hh q hx hE
          | false =>
            rw [show strIterType z = "str_iterator" by simp [strIterType, ha]] at q
            exact wpAny_nextOf_wide_end hh q hx hE
        · exact D.done s Q E q hE
    exact wpAny_pyNext_enum_endD D2 he (.inl ⟨hit, rfl⟩) fun h' eb => ⟨rfl, I.turned (t' := s.toks) (fun b o hb q => eb b o hb q) f0 f1 f3 f4 f5⟩
  self := by
    rintro A i s Q E ⟨⟨_, he⟩, _⟩ h
    exact wpAny_pyIter_enum he h
def iEnumS (ta : TA) : TI := fun σ H R => ta σ H fun vs H1 => ∃ z, vs = [.str z] ∧ R (Its2 z) H1
theorem pi_enumS {X : Cx} {e : Expr} {ta : TA} {p pos tpos : Pos} {elts : List Expr} {kk : Nat} (hg : Gl X "enumerate") (hm : X.mg "enumerate" = none) (ha : PA X [e] ta)
    (hs : starEach [e] X.env = [(false, eval e X.env)] := by rfl) : PI X (.Tuple elts kk tpos) (.Call (.Name "enumerate" p) [e] [] pos) (iEnumS ta) := by
  constructor
  intro pins s σ H R I h
  refine Call_ (ld_blt I hg hm boot_enumerate (PyProof.Rows.callWith_type1
    (thn (ha.run pos pins s σ H _ I h) ?_) hs rfl))
  rintro us s1 ⟨vs, H1, I1, r1, z, rfl, q⟩
  obtain ⟨u, rfl, t, rfl⟩ := vals1 r1
  refine call_enumerate_str fun h' he hit hsz hk => wpAny_pyIter_enum he ?_
  have I2 : Inv X pins σ H1 { s1 with heap := h' } := I1.kept (t' := s1.toks) hk
  refine ⟨s1.heap.objs.size + 1, [s1.heap.objs.size + 1, s1.heap.objs.size], _, _, H1, rfl, I2, turn_enumS z t (s1.heap.objs.size + 1) s1.heap.objs.size (Nat.succ_ne_self _), ⟨⟨.none, he⟩, hit⟩, ?_, q⟩
  intro b hb
  have le : s1.heap.objs.size ≤ b := by
    rcases List.mem_cons.mp hb with y | y
    · rw [y]
      exact Nat.le_succ _
    · rw [List.mem_singleton.mp y]
      exact Nat.le_refl _
  exact I1.fpOk le (I1.hok.fresh le)
theorem walk_enumS {z : Str} : Walk (Its2 z) z.cps.size (fun _ => True)
    (fun i H v H' => ∃ T c, v = .ref T ∧ H T = none ∧ z.cps[i]? = some c ∧ H' = upd H T (.tup [.int (i : Nat), .str ⟨#[c]⟩])) :=
  ⟨fun _ _ hi _ => hi, fun _ _ => Nat.le_refl _, fun _ _ _ _ _ _ y => y⟩
end Zc
end

section
set_option maxHeartbeats 1000000
/-! Data of any depth: kept from heap to heap, shown, compared. -/
namespace Zc
open PySem PySem.Spec PyProof.Rows L2
section
variable {K : PySem.W.Frag} {H H' : Hp}
theorem Same.seqT {a : Addr} {xs : List V} (e : Same H H') (h : SqT K H a xs) : SqT K H' a xs := by
  rcases h with (h | ⟨o, h⟩) | h
  · exact .inl (.inl (e _ _ h))
  · exact .inl (.inr ⟨o, e _ _ h⟩)
  · exact .inr h
mutual
theorem dp_same (e : Same H H') : ∀ (d : PyData) (v : V), Dp K H v d → Dp K H' v d
  | .none, _, h => by cases h; exact .non
  | .bool b, _, h => by cases h; exact .bl b
  | .int i, _, h => by cases h; exact .int i
  | .str x, _, h => by cases h; exact .str x
  | .list ds, _, h => by
    cases h with
    | lst hs ha => exact .lst (e.seq hs) (dpAll_same e ds _ ha)
  | .tuple ds, _, h => by
    cases h with
    | tup hs ha => exact .tup (Same.seqT e hs) (dpAll_same e ds _ ha)
  | .dict _, _, h => by cases h
theorem dpAll_same (e : Same H H') : ∀ (ds : List PyData) (vs : List V), DpAll K H vs ds → DpAll K H' vs ds
  | [], _, h => by cases h; exact .nil
  | d :: ds, _, h => by
    cases h with
    | cons h1 h2 => exact .cons (dp_same e d _ h1) (dpAll_same e ds _ h2)
end
theorem Dp.keep {d : PyData} {v : V} (h : Dp K H v d) (e : Same H H') : Dp K H' v d := dp_same e d v h
theorem DpAll.keep {ds : List PyData} {vs : List V} (h : DpAll K H vs ds) (e : Same H H') : DpAll K H' vs ds := dpAll_same e ds vs h
theorem DpAll.len : ∀ {ds : List PyData} {vs : List V}, DpAll K H vs ds → vs.length = ds.length
  | [], _, h => by cases h; rfl
  | d :: ds, _, h => by
    cases h with
    | cons h1 h2 => rw [List.length_cons, List.length_cons, DpAll.len h2]
theorem DpAll.get : ∀ {ds : List PyData} {vs : List V} {i : Nat} {x : V}, DpAll K H vs ds → vs[i]? = some x → ∃ d, ds[i]? = some d ∧ Dp K H x d
  | [], _, i, x, h, e => by cases h; cases e
  | d :: ds, _, 0, x, h, e => by
    cases h with
    | cons h1 h2 =>
      cases e
      exact ⟨d, rfl, h1⟩
  | d :: ds, _, i + 1, x, h, e => by
    cases h with
    | cons h1 h2 => exact DpAll.get (i := i) h2 e
theorem DpAll.at : ∀ {ds : List PyData} {vs : List V} {i : Nat} {d : PyData}, DpAll K H vs ds → ds[i]? = some d → ∃ x, vs[i]? = some x ∧ Dp K H x d
  | [], _, i, x, h, e => by cases e
  | d :: ds, _, 0, x, h, e => by
    cases h with
    | cons h1 h2 =>
      cases e
      exact ⟨_, rfl, h1⟩
  | d :: ds, _, i + 1, x, h, e => by
    cases h with
    | cons h1 h2 => exact DpAll.at (i := i) h2 e
theorem DpAll.app : ∀ {ds es : List PyData} {vs us : List V}, DpAll K H vs ds → DpAll K H us es → DpAll K H (vs ++ us) (ds ++ es)
  | [], es, _, us, h, g => by cases h; exact g
  | d :: ds, es, _, us, h, g => by
    cases h with
    | cons h1 h2 => exact .cons h1 (DpAll.app h2 g)
theorem DpAll.snoc {ds : List PyData} {vs : List V} {d : PyData} {v : V} (h : DpAll K H vs ds) (g : Dp K H v d) : DpAll K H (vs ++ [v]) (ds ++ [d]) := DpAll.app h (.cons g .nil)
theorem DpAll.dropLast : ∀ {ds : List PyData} {vs : List V}, DpAll K H vs ds → DpAll K H vs.dropLast ds.dropLast
  | [], _, h => by cases h; exact .nil
  | [d], _, h => by
    cases h with
    | cons h1 h2 =>
      cases h2
      exact .nil
  | d :: e :: ds, _, h => by
    cases h with
    | cons h1 h2 =>
      cases h2 with
      | cons h3 h4 => exact .cons h1 (DpAll.dropLast (.cons h3 h4))
theorem DpAll.take : ∀ {ds : List PyData} {vs : List V} (k : Nat), DpAll K H vs ds → DpAll K H (vs.take k) (ds.take k)
  | _, _, 0, h => by
    rw [List.take_zero, List.take_zero]
    exact .nil
  | [], _, k + 1, h => by cases h; exact .nil
  | d :: ds, _, k + 1, h => by
    cases h with
    | cons h1 h2 => exact .cons h1 (DpAll.take k h2)
theorem DpAll.drop : ∀ {ds : List PyData} {vs : List V} (k : Nat), DpAll K H vs ds → DpAll K H (vs.drop k) (ds.drop k)
  | _, _, 0, h => h
  | [], _, k + 1, h => by cases h; exact .nil
  | d :: ds, _, k + 1, h => by
    cases h with
    | cons h1 h2 => exact DpAll.drop k h2
theorem dp_strs {α : Type} (g : α → Str) : ∀ ss : List α, DpAll K H (ss.map fun a => V.str (g a)) (ss.map fun a => PyData.str (g a))
  | [] => .nil
  | s :: r => .cons (.str _) (dp_strs g r)
theorem dp_intsG {α : Type} (g : α → Int) : ∀ ss : List α, DpAll K H (ss.map fun a => V.int (g a)) (ss.map fun a => PyData.int (g a))
  | [] => .nil
  | s :: r => .cons (.int _) (dp_intsG g r)
theorem strs_of {α : Type} (g : α → Str) : ∀ (ss : List α) (vs : List V), DpAll K H vs (ss.map fun a => PyData.str (g a)) → vs = ss.map fun a => V.str (g a)
  | [], _, h => by cases h; rfl
  | s :: r, _, h => by
    cases h with
    | cons h1 h2 =>
      cases h1
      rw [strs_of g r _ h2]
      rfl
theorem ints_of {α : Type} (g : α → Int) : ∀ (ss : List α) (vs : List V), DpAll K H vs (ss.map fun a => PyData.int (g a)) → vs = ss.map fun a => V.int (g a)
  | [], _, h => by cases h; rfl
  | s :: r, _, h => by
    cases h with
    | cons h1 h2 =>
      cases h1
      rw [ints_of g r _ h2]
      rfl
end

/-! ### a heap without some addresses -/
open Classical in
noncomputable def cut (S : Addr → Prop) (H : Hp) : Hp := fun b => if S b then none else H b
theorem cut_in {S : Addr → Prop} {H : Hp} {b : Addr} {o : HO} (h : cut S H b = some o) : ¬ S b ∧ H b = some o := by
  unfold cut at h
  split at h
  · cases h
  · rename_i n
    exact ⟨n, h⟩
theorem cut_of {S : Addr → Prop} {H : Hp} {b : Addr} {o : HO} (n : ¬ S b) (h : H b = some o) : cut S H b = some o := by
  unfold cut
  rw [if_neg n]
  exact h
theorem same_cut {S S' : Addr → Prop} {H H' : Hp} (h : ∀ b o, ¬ S b → H b = some o → ¬ S' b ∧ H' b = some o) : Same (cut S H) (cut S' H') := fun b o e => by
  obtain ⟨n, e'⟩ := cut_in e
  obtain ⟨n', e2⟩ := h b o n e'
  exact cut_of n' e2
theorem cut_same {S : Addr → Prop} {H H' : Hp} (s : Same H H') : Same (cut S H) (cut S H') := same_cut fun b o n e => ⟨n, s b o e⟩
theorem cut_less {S S' : Addr → Prop} {H : Hp} (s : ∀ b, S' b → S b) : Same (cut S H) (cut S' H) := same_cut fun b o n e => ⟨fun x => n (s b x), e⟩
theorem cut_full {S : Addr → Prop} {H : Hp} : Same (cut S H) H := fun b o e => (cut_in e).2
/-- the deal's two addresses -/
def dl (d l : Addr) : Addr → Prop := fun b => b = d ∨ b = l
theorem cut_but {d l : Addr} {H H' : Hp} (h : But d l H H') : Same (cut (dl d l) H) (cut (dl d l) H') :=
  same_cut fun b o n e => ⟨n, h b o (fun x => n (.inl x)) (fun x => n (.inr x)) e⟩
/-- one more address left out, that was free when the heap was H -/
def orA (S : Addr → Prop) (a : Addr) : Addr → Prop := fun b => S b ∨ b = a
theorem cut_or {S : Addr → Prop} {H H' : Hp} {a : Addr} (n : H a = none) (s : Same H H') : Same (cut S H) (cut (orA S a) H') :=
  same_cut fun b o m e => by
    refine ⟨fun x => ?_, s b o e⟩
    rcases x with x | x
    · exact m x
    · rw [x, n] at e
      cases e
theorem cut_upd {S : Addr → Prop} {H : Hp} {a : Addr} {o : HO} (h : S a) : Same (cut S H) (cut S (upd H a o)) :=
  same_cut fun b u n e => ⟨n, by rw [upd_ne (fun x => n (by rw [x]; exact h))]; exact e⟩
theorem cut_at {S : Addr → Prop} {H : Hp} {a : Addr} {o : HO} (h : ¬ S a) : cut S (upd H a o) a = some o := cut_of h upd_same

/-! ### how long data are when they are shown; what can be compared -/
mutual
def bulk : PyData → Nat
  | .none => 4
  | .bool _ => 5
  | .int _ => 66
  | .str x => 10 * x.length + 2
  | .list xs => bulkAll xs + 3
  | .tuple xs => bulkAll xs + 3
  | .dict _ => 0
def bulkAll : List PyData → Nat
  | [] => 0
  | x :: xs => bulk x + 2 + bulkAll xs
end
mutual
def plainD : PyData → Bool
  | .none => true
  | .bool _ => true
  | .int i => decide (i.natAbs < 2 ^ 64)
  | .str x => PyData.strOk x
  | .list xs => plainAll xs
  | .tuple xs => plainAll xs
  | .dict _ => false
def plainAll : List PyData → Bool
  | [] => true
  | x :: xs => plainD x && plainAll xs
end
mutual
theorem plain_lay : ∀ d : PyData, plainD d = true → d.canLay0 = true ∧ d.hasDict = false ∧ d.showable = true
  | .none, _ => by simp [PyData.canLay0, PyData.hasDict, PyData.showable]
  | .bool _, _ => by simp [PyData.canLay0, PyData.hasDict, PyData.showable]
  | .int i, h => by
    have h' : i.natAbs < 2 ^ 64 := by simpa [plainD] using h
    have : i.natAbs.log2 < 64 := PySem.Flt.log2_lt_of (by decide) h'
    simp only [PyData.canLay0, PyData.hasDict, PyData.showable, true_and, decide_eq_true_eq]
    omega
  | .str x, h => by
    have h' : PyData.strOk x = true := by simpa [plainD] using h
    simp [PyData.canLay0, PyData.hasDict, PyData.showable, h']
  | .list xs, h => by
    have h' : plainAll xs = true := by simpa [plainD] using h
    simpa [PyData.canLay0, PyData.hasDict, PyData.showable] using plainAll_lay xs h'
  | .tuple xs, h => by
    have h' : plainAll xs = true := by simpa [plainD] using h
    simpa [PyData.canLay0, PyData.hasDict, PyData.showable] using plainAll_lay xs h'
  | .dict _, h => by simp [plainD] at h
theorem plainAll_lay : ∀ ds : List PyData, plainAll ds = true → PyData.canLayAll0 ds = true ∧ PyData.hasDictAll ds = false ∧ PyData.showableAll ds = true
  | [], _ => by simp [PyData.canLayAll0, PyData.hasDictAll, PyData.showableAll]
  | d :: ds, h => by
    have h' : plainD d = true ∧ plainAll ds = true := by simpa [plainAll] using h
    obtain ⟨a, b, c⟩ := plain_lay d h'.1
    obtain ⟨a', b', c'⟩ := plainAll_lay ds h'.2
    simp [PyData.canLayAll0, PyData.hasDictAll, PyData.showableAll, a, b, c, a', b', c']
end
theorem piled_tuple (ts : List Str) : (tupleText ts).length ≤ piled ts + 3 := by
  unfold tupleText
  rw [strLen_append, strLen_append]
  have e1 : (("(" : String) : Str).length = 1 := rfl
  have e2 : ((if ts.length == 1 then ",)" else ")" : String) : Str).length ≤ 2 := by
    split
    · exact Nat.le_refl 2
    · exact Nat.le_succ 1
  have e3 : (Str.join ", " ts).length ≤ piled ts := by
    cases ts with
    | nil => exact Nat.zero_le _
    | cons t r =>
      have := join_length_add (t :: r) (by simp)
      omega
  omega
theorem piled_list (ts : List Str) : (listText ts).length ≤ piled ts + 3 := by
  cases ts with
  | nil => show 2 ≤ 0 + 3; decide
  | cons t r =>
    have h := textFrom_length_pos r 1 (("[" : Str) ++ (if (0 : Nat) > 0 then ", " else "" : String) ++ t) (Nat.succ_pos 0)
    have e : ((("[" : Str) ++ (if (0 : Nat) > 0 then ", " else "" : String) ++ t)).length = 1 + t.length := by
      rw [strLen_append, strLen_append]; rfl
    have hX : (listText (t :: r)).length = (textFrom 0 "[" (t :: r)).length + 1 := by
      show (textFrom 0 "[" (t :: r) ++ "]").length = _
      rw [strLen_append]
      rfl
    have hY : textFrom 0 "[" (t :: r) = textFrom 1 (("[" : Str) ++ (if (0 : Nat) > 0 then ", " else "" : String) ++ t) r := rfl
    rw [hX, hY, h, e, piled_cons]
    omega
mutual
theorem bulk_shown : ∀ d : PyData, plainD d = true → d.shown.length ≤ bulk d
  | .none, _ => by simp only [PyData.shown, bulk]; decide
  | .bool b, _ => by cases b <;> (simp only [PyData.shown, bulk]; decide)
  | .int i, h => by
    have h' : i.natAbs < 2 ^ 64 := by simpa [plainD] using h
    have h2 : i.natAbs.log2 < 64 := PySem.Flt.log2_lt_of (by decide) h'
    have h3 := int_text_length_le (a := i) (k := 64) (by decide) h2
    simp only [PyData.shown, bulk]
    show (Str.ofString (toString i)).length ≤ 66
    rw [PySem.ofString_length]
    omega
  | .str x, h => by
    have h' : PyData.strOk x = true := by simpa [plainD] using h
    simp only [PyData.shown, bulk]
    refine PySem.StrLaws.reprText_len x fun c hc => ?_
    unfold PyData.strOk at h'
    rw [← Array.all_toList, List.all_eq_true] at h'
    have h2 : c < 1114112 := of_decide_eq_true (h' c hc)
    have h3 : (16 : Nat) ^ 8 = 4294967296 := rfl
    omega
  | .list xs, h => by
    have h' : plainAll xs = true := by simpa [plainD] using h
    simp only [PyData.shown, bulk]
    exact Nat.le_trans (piled_list _) (Nat.add_le_add_right (bulkAll_shown xs h') 3)
  | .tuple xs, h => by
    have h' : plainAll xs = true := by simpa [plainD] using h
    simp only [PyData.shown, bulk]
    exact Nat.le_trans (piled_tuple _) (Nat.add_le_add_right (bulkAll_shown xs h') 3)
  | .dict _, h => by simp [plainD] at h
theorem bulkAll_shown : ∀ ds : List PyData, plainAll ds = true → piled (PyData.shownAll ds) ≤ bulkAll ds
  | [], _ => by simp [PyData.shownAll, bulkAll, piled]
  | d :: ds, h => by
    have h' : plainD d = true ∧ plainAll ds = true := by simpa [plainAll] using h
    have a := bulk_shown d h'.1
    have b := bulkAll_shown ds h'.2
    simp only [PyData.shownAll, bulkAll, piled_cons]
    omega
end
theorem plain_shaped {d : PyData} (h : plainD d = true) (hd : d.depth ≤ 64) : SeqAt.shaped d = true := by
  unfold SeqAt.shaped
  rw [(plain_lay d h).1, decide_eq_true hd]
  rfl
/-- repr of plain data -/
theorem repr_ans {K : PySem.W.Frag} {H : Hp} {Q : VK} {v : V} {d : PyData} (hD : Dp K H v d) (hdsp : isDisplay d = true) (hp : plainD d = true) (hd : d.depth < 40) (hb : bulk d ≤ sizeLine) (q : Q (.str d.shown) H) :
    ∃ v' d', [v] = [v'] ∧ isDisplay d' = true ∧ Dp K H v' d' ∧ d'.showable = true ∧ d'.hasDict = false ∧ d'.depth < 40 ∧ d'.shown.length ≤ sizeLine ∧ Q (.str d'.shown) H :=
  ⟨v, d, rfl, hdsp, hD, (plain_lay d hp).2.2, (plain_lay d hp).2.1, hd, Nat.le_trans (bulk_shown d hp) hb, q⟩
theorem ne_ans {K : PySem.W.Frag} {H : Hp} {Q : VK} {v u : V} {d e : PyData} (hD : Dp K H v d) (hE : Dp K H u e) (hp : plainD d = true) (hq : plainD e = true) (hd : d.depth ≤ 64) (he : e.depth ≤ 64) (q : Q (.bl (!PyData.eqv d e)) H) : rNeD K v u H Q :=
  ⟨d, e, hD, hE, plain_shaped hp hd, plain_shaped hq he, q⟩
theorem eq_ans {K : PySem.W.Frag} {H : Hp} {Q : VK} {v u : V} {d e : PyData} (hD : Dp K H v d) (hE : Dp K H u e) (hp : plainD d = true) (hq : plainD e = true) (hd : d.depth ≤ 64) (he : e.depth ≤ 64) (q : Q (.bl (PyData.eqv d e)) H) : rEqD K v u H Q :=
  ⟨d, e, hD, hE, plain_shaped hp hd, plain_shaped hq he, q⟩
theorem eqv_self {d : PyData} (h : plainD d = true) : PyData.eqv d d = true := SeqAt.eqv_refl d (plain_lay d h).1
/-! ### lists of texts, of ints -/
theorem plain_strs {α : Type} (g : α → Str) : ∀ ss : List α, (∀ s ∈ ss, PyData.strOk (g s) = true) → plainAll (ss.map fun a => PyData.str (g a)) = true
  | [], _ => by simp [plainAll]
  | s :: r, h => by
    have h1 := h s List.mem_cons_self
    have h2 := plain_strs g r fun x hx => h x (List.mem_cons_of_mem _ hx)
    simp [plainAll, plainD, h1, h2]
theorem plain_ints {α : Type} (g : α → Int) : ∀ ss : List α, (∀ s ∈ ss, (g s).natAbs < 2 ^ 64) → plainAll (ss.map fun a => PyData.int (g a)) = true
  | [], _ => by simp [plainAll]
  | s :: r, h => by
    have h1 := h s List.mem_cons_self
    have h2 := plain_ints g r fun x hx => h x (List.mem_cons_of_mem _ hx)
    simp only [List.map_cons, plainAll, plainD, decide_eq_true h1, h2, Bool.and_self]
theorem depth_flat : ∀ ds : List PyData, (∀ d ∈ ds, d.depth = 0) → PyData.depthAll ds = 0
  | [], _ => by simp [PyData.depthAll]
  | d :: r, h => by
    have h1 := h d List.mem_cons_self
    have h2 := depth_flat r fun x hx => h x (List.mem_cons_of_mem _ hx)
    simp [PyData.depthAll, h1, h2]
theorem depth_strs {α : Type} (g : α → Str) (ss : List α) : PyData.depthAll (ss.map fun a => PyData.str (g a)) = 0 :=
  depth_flat _ fun d hd => by
    obtain ⟨a, _, rfl⟩ := List.mem_map.mp hd
    simp [PyData.depth]
theorem depth_intsG {α : Type} (g : α → Int) (ss : List α) : PyData.depthAll (ss.map fun a => PyData.int (g a)) = 0 :=
  depth_flat _ fun d hd => by
    obtain ⟨a, _, rfl⟩ := List.mem_map.mp hd
    simp [PyData.depth]
theorem bulk_strs {α : Type} (g : α → Str) : ∀ ss : List α, bulkAll (ss.map fun a => PyData.str (g a)) = 10 * (ss.map fun a => (g a).length).sum + 4 * ss.length
  | [] => by simp [bulkAll]
  | s :: r => by
    simp only [List.map_cons, bulkAll, bulk, bulk_strs g r, List.sum_cons, List.length_cons]
    omega
theorem bulk_intsG {α : Type} (g : α → Int) : ∀ ss : List α, bulkAll (ss.map fun a => PyData.int (g a)) = 68 * ss.length
  | [] => by simp [bulkAll]
  | s :: r => by
    simp only [List.map_cons, bulkAll, bulk, bulk_intsG g r, List.length_cons]
    omega
theorem str_len_mk (l : List Nat) : (⟨l.toArray⟩ : Str).length = l.length := by simp [Str.length]
theorem strOk_mk {l : List Nat} (h : ∀ c ∈ l, c < 0x110000) : PyData.strOk ⟨l.toArray⟩ = true := by
  unfold PyData.strOk
  rw [← Array.all_toList, List.all_eq_true]
  intro c hc
  exact decide_eq_true (h c (by simpa using hc))
end Zc
end

section
set_option maxHeartbeats 2000000
/-! Base.__init__(self, ..), Base an exception class of one's own that takes ValueError's -/
namespace Zc
open PySem PySem.Spec PyProof.Rows L2
theorem pe_ownInit {X : Cx} {B : Addr} {e : Expr} {es : List Expr} {ta : TA} {x : Str} {p1 p2 pos : Pos} {pl : Sem Bool} (hg : Gl X x) (hm : X.mg x = some (.ref B)) (kB : PySem.W.keepIn X.K (.ref B) = true)
    (tB : PySem.W.typeIn X.K (.ref B) = some (.type "type")) (rB : PySem.W.readsIn X.K B (.type "type") = true)
    (ga : PySem.W.specialIn X.K (.ref B) "__getattribute__" = some (some (.builtin "type.__getattribute__"))) (fi : PySem.W.findCls X.K (.ref B) (.type "type") "__init__" = some (.val (.builtin "ValueError.__init__"))) (ha : PA X (e :: es) ta)
    (hc : eval (.Call (.Attribute (.Name x p1) "__init__" p2) (e :: es) [] pos) X.env = (do
      let ov ← eval (.Name x p1) X.env
      standAt p2.atName
      let (f, first) ← holding [ov] (getMethod ov "__init__" pl)
      callWith pos f first (backTo pos (starEach (e :: es) X.env)) (backToKw pos (keywordEach [] X.env))) := by rfl)
    (hdb : (x == ("__debug__" : Str)) = false := by decide) (he : starEach (e :: es) X.env = (false, eval e X.env) :: starEach es X.env := by rfl) (hpl : (backTo pos (starEach es X.env)).any (·.1) = false := by rfl) :
    PE X (.Call (.Attribute (.Name x p1) "__init__" p2) (e :: es) [] pos) (tVeI X.K ta) := by
  constructor
  intro pins s σ H Q I h
  apply PySem.W.methodCall_KW (ld_glob I hg hm ?_ hdb) hc
  obtain ⟨m, fr⟩ := I.fr
  apply PySem.W.method_of_cls fr I.ok.mod.kin ga
  apply PySem.W.cls_val fr I.ok.mod.kin tB rB fi (by decide +kernel)
  apply PyProof.Rows.callWith_method1 (thn (ha.run pos pins _ σ H _ (I.tok _) h) ?_) he hpl
  rintro us s1 ⟨vs, H1, I1, r1, a, C, ws, rfl, hl, T, ea, q⟩
  cases r1 with
  | @cons _ u0 _ ur ra rw' =>
    obtain rfl : u0 = Value.ref a := ra
    have hlen : ur.length ≤ sizeLine := by
      rw [← Paired.length rw', sizeLine_eq]
      omega
    exact oinit_ok T I1 ea hlen fun s' J => ⟨.non, H1, J, rfl, q⟩
end Zc
end

section
set_option maxHeartbeats 4000000
/-! C(k = v).f and raise C(..), C an exception class of one's own over another one -/
namespace Zc
open PySem PySem.Spec PyProof.Rows L2

section
open PySem.W PySem.HandSPX
variable {M : Model} {prog : Program} {w : World} {A : Around} {E : Value → Shared → Prop}
  {R : Result → Shared → Prop} {h : Heap} {g : Array GenState} {d : Drawn} {t : Nat} {os : OsState}
variable {nm q : Str} {C N : Addr} {bs bm bmB : List Value} {hdct : Bool} {sn : List Str} {sub : List Value}
  {ab : Bool} {col : Option Bool} {dd : Option Addr} {k0 k1 k2 k3 k5 : Option Value} {B newId initId : String}
  {rest : List Value} {kw : List (Str × Value)}

theorem checkNewK (F : ExcBaseFacts B newId initId bmB)
    (hT : ∀ X : String, bm.contains (.type X) = bmB.contains (.type X)) {Q : Unit → Shared → Prop}
    (hC : h.get? C = some (excClassObj nm q C N bs bm hdct sn sub ab col dd k0 k1 k2 k3 k5 newId))
    (hq : Q () ⟨h, g, d, t, os⟩) :
    wpAny M A (checkBuiltinCall newId ⟨.ref C :: rest, kw⟩) Q E ⟨h, g, d, t, os⟩ := by
  have hcont : (Value.ref C :: bm).contains (.type B) = true := by
    simp only [List.contains_cons, hT, F.hasB, Bool.or_true]
  have hstar := F.noStar
  simp only [checkBuiltinCall, F.newKind, F.newSplit, F.newRow]
  repeat (first
    | refine wpAny_loadPart_at hC ?_
    | (refine wpAny_isSubtype_exc hC ?_; rw [hcont])
    | refine wpAny_staticBase_exc hC ?_
    | refine wpAny_madeBy_exc hC ?_
    | simp only [bne_self_eq_false, Bool.false_eq_true, if_false]
    | wp_step)
  exact hq

theorem newK (F : ExcBaseFacts B newId initId bmB)
    (hT : ∀ X : String, bm.contains (.type X) = bmB.contains (.type X))
    (hC : h.get? C = some (excClassObj nm q C N bs bm hdct sn sub ab col dd k0 k1 k2 k3 k5 newId))
    (hq : R (.ok (.ret (.ref (h.objs.size + 1)))) ⟨(h.push (kdv_tup rest)).push (excO C h.objs.size), g, d, t, os⟩)
    (hrest : rest.length ≤ sizeLine) :
    codeAny (model prog w) A (.builtin newId ⟨.ref C :: rest, kw⟩) R ⟨h, g, d, t, os⟩ := by
  have hends := F.ends
  have hcB : (Value.ref C :: bm).contains (.type B) = true := by
    simp only [List.contains_cons, hT, F.hasB, Bool.or_true]
  have hcA : (Value.ref C :: bm).contains (.type "AttributeError") = false := by
    rw [List.contains_cons, hT, F.noAttr]
    rfl
  have hcN : (Value.ref C :: bm).contains (.type "NameError") = false := by
    rw [List.contains_cons, hT, F.noName]
    rfl
  refine codeAny_builtinAt F.entry
    ?_
  unfold Builtin.«BaseException.__new__»
  refine PySem.wpAt_bind ?_
  show PySem.wpAt _ _ _ (stack >>= _) _ _ _
  refine PySem.wpAt_bind (PySem.wpAt_stack fun p below =>
    PySem.wpAt_of_wpAny ?_)
  wp_walk
  refine PySem.wpAt_of_wpAny
    ?_
  rw [F.owner]
  repeat (first
    | with_reducible refine wpAny_madeHere_exc F.canon hC ?_
    | with_reducible refine wpAny_loadPart_at hC ?_
    | (with_reducible refine wpAny_isSubtype_exc hC ?_
       first
       | rw [hcB]
       | rw [hcA]
       | rw [hcN])
    | wp_step)
  show R _ _
  rw [Heap.size_push]
  exact hq

theorem typeCallK (F : ExcBaseFacts B newId initId bmB)
    (hT : ∀ X : String, bm.contains (.type X) = bmB.contains (.type X)) {fI : Addr} {Q : Fin → Shared → Prop}
    (hC : h.get? C = some (excClassObj nm q C N bs bm hdct sn sub ab col dd k0 k1 k2 k3 k5 newId))
    (hi : Looks (model prog w) h (typeLookup (.ref C) "__init__") (some (.ref fI)))
    (hb : ∀ self, Looks (model prog w) h (bindSpecial (.ref fI) self) (.ref fI, [self])) (hrest : rest.length ≤ sizeLine)
    (hq : codeAny (model prog w) A (.call (.ref fI) ⟨.ref (h.objs.size + 1) :: rest, kw⟩)
      (fun r s' => match r with
        | .ok (.ret v) => v = .none ∧ Q (.done (.ret (.ref (h.objs.size + 1)))) s'
        | .ok _ => False
        | .error e => E e s')
      ⟨(h.push (kdv_tup rest)).push (excO C h.objs.size), g, d, t, os⟩) :
    wpAny (model prog w) A (Builtin.«type.__call__» ⟨.ref C :: rest, kw⟩) Q E ⟨h, g, d, t, os⟩ := by
  repeat (first
    | with_reducible refine wpAny_loadPart_at hC ?_
    | with_reducible refine wpAny_madeBy_exc hC ?_
    | wp_step)
  refine codeAny_call_builtin_code (Code.quiet_builtin _ F.quiet) (checkNewK F hT hC ?_)
  refine newK F hT hC ?_ hrest
  show wpAny _ _ _ _ _ _
  have k : ∀ b o, h.get? b = some o → ((h.push (kdv_tup rest)).push (excO C h.objs.size)).get? b = some o := by
    intro b o e
    exact Heap.get?_push_of_some _ (Heap.get?_push_of_some _ e)
  have hC₁ := k _ _ hC
  have hget : ((h.push (kdv_tup rest)).push (excO C h.objs.size)).get? (h.objs.size + 1) = some (excO C h.objs.size) := by
    heap_get
  have hcC : (Value.ref C :: bm).contains (.ref C) = true := by
    simp
  have i1 := hi.keeps k
  have b1 := (hb (.ref (h.objs.size + 1))).keeps k
  unfold isInstance
  repeat (first
    | with_reducible refine wpAny_loadPart_at hget ?_
    | (with_reducible refine wpAny_isSubtype_exc hC₁ ?_; rw [hcC])
    | wp_step)
  show wpAny _ _ (typeLookup (.ref C) _) _ _ _
  refine i1.at
    ?_
  refine wpAny_holding
    (wpAny_bind (b1.at ?_))
  refine wpAny_bind (wpAny_call
    (codeAny_mono hq fun r s' z => ?_))
  rcases r with e | (v | _ | _ | _) <;> first
    | exact z
    | exact z.elim
    | skip
  obtain ⟨rfl, z⟩ := z
  first
    | exact wpAny_pure (wpAny_pure z)
    | (wp_walk; exact z)

theorem callK (F : ExcBaseFacts B newId initId bmB)
    (hT : ∀ X : String, bm.contains (.type X) = bmB.contains (.type X)) {fI : Addr}
    (hC : h.get? C = some (excClassObj nm q C N bs bm hdct sn sub ab col dd k0 k1 k2 k3 k5 newId))
    (hi : Looks (model prog w) h (typeLookup (.ref C) "__init__") (some (.ref fI)))
    (hb : ∀ self, Looks (model prog w) h (bindSpecial (.ref fI) self) (.ref fI, [self])) (hrest : rest.length ≤ sizeLine)
    (hq : codeAny (model prog w) (A.under (.builtin "type.__call__" ⟨.ref C :: rest, kw⟩))
      (.call (.ref fI) ⟨.ref (h.objs.size + 1) :: rest, kw⟩) (InitBack (h.objs.size + 1) R)
      ⟨(h.push (kdv_tup rest)).push (excO C h.objs.size), g, d, t, os⟩) :
    codeAny (model prog w) A (.call (.ref C) ⟨rest, kw⟩) R ⟨h, g, d, t, os⟩ := by
  have f1 := tc_lookup
  have f2 := tc_bind (.ref C)
  have hTy : (⟨h, g, d, t, os⟩ : Shared).TypeIs (.ref C) "type" := ⟨_, hC, rfl⟩
  refine codeAny_of_tree
    ?_
  show wpAny _ _ (callAny (.ref C) _) _ _ _
  repeat (any_goals (first
    | assumption
    | with_reducible refine wpAny_loadPart_at hC ?_
    | wp_step))
  refine And.intro rfl ?_
  show codeAny _ _ (.call (.builtin "type.__call__") ⟨.ref C :: rest, kw⟩) _ _
  refine codeAny_call_builtin_at (Code.quiet_builtin _
    (by decide +kernel)) entry_typeCall
    (wpAny_check_type_call_sub hC (typeCallK (kw := kw) F hT hC hi hb hrest ?_))
  refine codeAny_mono hq
    fun r s' z => ?_
  rcases r with e | (v | _ | _ | _) <;> exact z
end
end Zc
end

section
set_option maxHeartbeats 4000000
/-! the rules: C(k = v).f, raise C(v), raise C() -/
namespace Zc
open PySem PySem.Spec PyProof.Rows L2

/-- C(k = v).n: the new exception is let go again, its dict stands -/
def tMkAt (C : Addr) (n : Str) (sp : Sp) (tk : TA) : TE := fun σ H Q => tk σ H fun zs H1 =>
  ∀ a, H1 a = none → sp (.ref a :: zs) (upd H1 a (exo a C none))
    (fun v H2 => v = .non ∧ ∃ (d : Addr) (fs : List (Str × V)) (y : V), H2 a = some (exo a C (some d)) ∧
      H2 d = some (exd d fs) ∧ H1 d = none ∧ fs.lookup n = some y ∧ Q y (upd (L2.del H2 a) d (.xd fs)))
    (fun _ _ _ => False)

section
variable {X : Cx} {CX : CXT} {k : Nat} {fI C : Addr} {fd : FuncData} {ps ks : List Str} {sp : Sp} {x n : Str} {p pos pos2 : Pos}

theorem pe_mkAt {kws : List Keyword} {tk : TA} (T : OexC X.K C) (T2 : XfC X.K C)
    (hno : PySem.W.findIn X.K (.ref C) n = some none)
    (iC : PySem.W.findIn X.K (.ref C) "__init__" = some (some (.ref fI)))
    (tI : PySem.W.typeIn X.K (.ref fI) = some (.type "function"))
    (F1 : FnOk X.prog X.w X.K X.mg X.base CX k fI fd ps sp) (hr : Room (k + 1) X.A)
    (hb : ∀ (s : Shared) (u : Value) (ws : List Value), ws.length = ks.length →
      BindsTo s fd ⟨[u], ks.zip ws⟩ (ps.zip (u :: ws)))
    (hps : ps.length = ks.length + 1)
    (hx : Passes CX X (fun _ _ _ => False)) (hg : Gl X x) (hm : X.mg x = some (.ref C)) (hkw : PK X kws tk)
    (hall : (backToKw pos (keywordEach kws X.env)).all (·.1.isSome) = true := by rfl)
    (hks : (backToKw pos (keywordEach kws X.env)).filterMap (·.1) = ks := by rfl)
    (hdb : (x == ("__debug__" : Str)) = false := by decide)
    (hpl : ((backTo pos (starEach [] X.env)).any (·.1) ||
      (backToKw pos (keywordEach kws X.env)).any (·.1.isNone)) = false := by rfl)
    (hbase : attributeBase (.Call (.Name x p) [] kws pos) n X.env (eval (.Call (.Name x p) [] kws pos) X.env) =
      eval (.Call (.Name x p) [] kws pos) X.env := by rfl) :
    PE X (.Attribute (.Call (.Name x p) [] kws pos) n pos2) (tMkAt C n sp tk) := by
  constructor
  intro pins s σ H Q I h
  apply attr_of hbase
  obtain ⟨nm, q, N, bs, bm, sn, sub, ab, col, dd, k0, k1, k2, k3, k5, hC, hbm⟩ := T.cls
  apply wpAny_Call_Name_kw (ld_glob I hg hm ?_ hdb)
  apply PySem.W.callWith_KW0 (h₀ := X.base) I.ok.mod.kin T.kC hall ?_ hpl
  apply thn (hkw.run pos pins s σ H _ I h)
  rintro ws s2 ⟨zs, H1, I1, rz, q2⟩
  refine ⟨I1.kIn, ?_⟩
  rw [hks]
  show wpAny _ _ (call (.ref C) [] (ks.zip ws)) _ _ _
  obtain ⟨hp, g, dr, tk', os⟩ := s2
  have hsz : hp.objs.size ≤ hp.objs.size + 1 := Nat.le_succ _
  have hn : H1 (hp.objs.size + 1) = none := I1.hok.fresh hsz
  have hq := q2 (hp.objs.size + 1) hn
  have kk : ∀ b o, hp.get? b = some o →
      ((hp.push (PySem.W.kdv_tup [])).push (PySem.HandSPX.excO C hp.objs.size)).get? b = some o := by
    intro b o e
    exact Heap.get?_push_of_some _ (Heap.get?_push_of_some _ e)
  have hget : ((hp.push (PySem.W.kdv_tup [])).push (PySem.HandSPX.excO C hp.objs.size)).get? (hp.objs.size + 1) =
      some (PySem.HandSPX.excO C hp.objs.size) := by
    heap_get
  have I2 : Inv X pins σ (upd H1 (hp.objs.size + 1) (exo (hp.objs.size + 1) C none))
      ⟨(hp.push (PySem.W.kdv_tup [])).push (PySem.HandSPX.excO C hp.objs.size), g, dr, tk', os⟩ :=
    I1.laid (t' := tk') (a := hp.objs.size + 1) (o := exo (hp.objs.size + 1) C none) kk hsz (exo_ok hget)
  have r2 : Vals (V.ref (hp.objs.size + 1) :: zs) (Value.ref (hp.objs.size + 1) :: ws) := .cons rfl rz
  have hl : ws.length = ks.length := by
    have e := r2.length
    rw [F1.len _ _ _ _ hq, hps] at e
    exact (Nat.succ.inj e).symm
  apply wpAny_call (callK F.excBase_ValueError (fun Y => PySem.HandSPX.refsVE_contains Y bm hbm) (I1.kIn _ _ hC)
    (PySem.W.looks_findIn I1.kIn iC) (fun self => PySem.W.bind_fn I1.kIn self tI) (Nat.zero_le _)
    (codeAny_mono (F1.run _ X.stack _ _ ⟨[.ref (hp.objs.size + 1)], ks.zip ws⟩ (.ref (hp.objs.size + 1) :: ws) _ _
      (fun _ _ _ => False) (hr.make C [] (ks.zip ws)) (I2.env0.make C [] (ks.zip ws)) (hb _ _ ws hl) r2 hq) ?_))
  intro r s' hq'
  match r, hq' with
  | .error er, hq' => exact hx pins σ _ _ er s' I2 hq'
  | .ok .next, hq' => exact False.elim hq'
  | .ok .brk, hq' => exact False.elim hq'
  | .ok .cont, hq' => exact False.elim hq'
  | .ok (.ret u), hq' =>
    obtain ⟨v, H2, os2, bare2, un2, hok2, rv, ev, d, fs, y, ea, ed, hd1, ly, q3⟩ := hq'
    subst ev
    obtain ⟨h2, g2, d2, t2, os'⟩ := s'
    obtain ⟨t0, G, J, kG, ge, hoe, na⟩ := mk_end0 (d2 := d2) (t2 := t2) I1 hsz kk un2 hok2 os2 bare2 ea ed hd1
    have J2 : Inv X pins σ (upd (L2.del H2 (hp.objs.size + 1)) d (.xd fs)) ⟨h2, g2, d2, t2, os'⟩ := J.kept (t' := t2) kG
    refine ⟨rv, ?_⟩
    have hxd : ObjOk X.prog X.w (upd (L2.del H2 (hp.objs.size + 1)) d (.xd fs)) h2 d (.xd fs) := J2.hok d _ upd_same
    obtain ⟨mA, hns, hrel⟩ := hxd
    obtain ⟨od, ho, hlk⟩ := lookIn_ns hns
    obtain ⟨u2, hu2, ru2⟩ := RelO.some_of (v := y) (o := mA n) (by rw [← ly]; exact hrel n)
    have JJ : PySem.W.InstAt h2 (hp.objs.size + 1) _ C (some od) := ⟨hoe, rfl, rfl, ho⟩
    exact HandSPX.exc_get J2.kIn JJ T2.ga T2.gg T2.exC
      (PySem.W.findObj_own T2.hdC hno rfl (by rw [hlk, hu2])) (handed_of ru2) ⟨y, _, J2.tok _, ru2, q3⟩

variable {e : Expr} {es : List Expr} {ta : TA}
/-- raise C(e, ..): the exception's context is none -/
theorem pmk_oexN (T : OexC X.K C) (iC : PySem.W.findIn X.K (.ref C) "__init__" = some (some (.ref fI)))
    (tI : PySem.W.typeIn X.K (.ref fI) = some (.type "function"))
    (F1 : FnOk X.prog X.w X.K X.mg X.base CX k fI fd ps sp) (hr : Room (k + 1) X.A) (hb : Binds X.K fd ps [])
    (hx : Passes CX X (fun _ _ _ => False)) (hg : Gl X x) (hm : X.mg x = some (.ref C)) (ha : PA X (e :: es) ta)
    (hdb : (x == ("__debug__" : Str)) = false := by decide)
    (he : starEach (e :: es) X.env = (false, eval e X.env) :: starEach es X.env := by rfl)
    (hpl : (backTo pos (starEach es X.env)).any (·.1) = false := by rfl) :
    L2N.PMk X (.Call (.Name x p) (e :: es) [] pos) (tMkO C sp [] ta) := by
  intro pins s σ H Q I h
  obtain ⟨nm, q, N, bs, bm, sn, sub, ab, col, dd, k0, k1, k2, k3, k5, hC, hbm⟩ := T.cls
  apply wpAny_Call_Name_kw (ld_glob I hg hm ?_ hdb)
  apply PySem.W.callWith_K (h₀ := X.base) I.ok.mod.kin T.kC ?_ he hpl
  apply thn (ha.run pos pins s σ H _ I h)
  rintro us s1 ⟨vs, H1, I1, r1, hz, q1⟩
  refine ⟨I1.kIn, ?_⟩
  show wpAny _ _ (call (.ref C) us) _ _ _
  obtain ⟨hp, g, dr, tk, os⟩ := s1
  have hsz : hp.objs.size ≤ hp.objs.size + 1 := Nat.le_succ _
  have hn : H1 (hp.objs.size + 1) = none := I1.hok.fresh hsz
  have hq := q1 (hp.objs.size + 1) hn
  rw [List.append_nil] at hq
  have kk : ∀ b o, hp.get? b = some o →
      ((hp.push (PySem.W.kdv_tup us)).push (PySem.HandSPX.excO C hp.objs.size)).get? b = some o := by
    intro b o e
    exact Heap.get?_push_of_some _ (Heap.get?_push_of_some _ e)
  have hget : ((hp.push (PySem.W.kdv_tup us)).push (PySem.HandSPX.excO C hp.objs.size)).get? (hp.objs.size + 1) =
      some (PySem.HandSPX.excO C hp.objs.size) := by
    heap_get
  have I2 : Inv X pins σ (upd H1 (hp.objs.size + 1) (exo (hp.objs.size + 1) C none))
      ⟨(hp.push (PySem.W.kdv_tup us)).push (PySem.HandSPX.excO C hp.objs.size), g, dr, tk, os⟩ :=
    I1.laid (t' := tk) (a := hp.objs.size + 1) (o := exo (hp.objs.size + 1) C none) kk hsz (exo_ok hget)
  have r2 : Vals (V.ref (hp.objs.size + 1) :: vs) (Value.ref (hp.objs.size + 1) :: us) := .cons rfl r1
  have hl : (Value.ref (hp.objs.size + 1) :: us ++ []).length = ps.length := by
    have e := r2.length
    rw [F1.len _ _ _ _ hq] at e
    rw [List.append_nil]
    exact e.symm
  have b2 := hb _ (Value.ref (hp.objs.size + 1) :: us) I2.kIn hl
  rw [List.append_nil] at b2
  have hus : us.length ≤ sizeLine := by
    have e1 := Paired.length r1
    rw [sizeLine_eq]
    omega
  apply wpAny_call (PySem.HandSPX.call_own F.excBase_ValueError (fun Y => PySem.HandSPX.refsVE_contains Y bm hbm)
    (I1.kIn _ _ hC) (PySem.W.looks_findIn I1.kIn iC) (fun self => PySem.W.bind_fn I1.kIn self tI) hus
    (codeAny_mono (F1.run _ X.stack _ _ ⟨.ref (hp.objs.size + 1) :: us, []⟩ (.ref (hp.objs.size + 1) :: us) _ _
      (fun _ _ _ => False) (hr.make C us []) (I2.env0.make C us []) b2 r2 hq) ?_))
  intro r s' hq'
  match r, hq' with
  | .error er, hq' => exact hx pins σ _ _ er s' I2 hq'
  | .ok .next, hq' => exact False.elim hq'
  | .ok .brk, hq' => exact False.elim hq'
  | .ok .cont, hq' => exact False.elim hq'
  | .ok (.ret u), hq' =>
    obtain ⟨v, H2, os2, bare2, un2, hok2, rv, ev, d, fs, ea, ed, hd1, q2⟩ := hq'
    subst ev
    obtain ⟨h2, g2, d2, t2, os'⟩ := s'
    obtain ⟨t0, G, J, kG, ge, hoe, na⟩ := mk_end0 (d2 := d2) (t2 := t2) I1 hsz kk un2 hok2 os2 bare2 ea ed hd1
    refine ⟨rv, hp.objs.size + 1, _, _, ⟨G, g2, d2, t2, os'⟩, _, .ref C, some d, rfl, J, kG, ge, hoe,
      ⟨rfl, rfl, ?_⟩, rfl, rfl, na, rfl, bare2, raises_own T.exC T.tyC, q2⟩
    intro vs hv
    cases hv
    rfl

/-- raise C(), C without an __init__ of its own -/
theorem pmk_own0N {bmB : List Value} {B newId initId : String} (F : ExcBaseFacts B newId initId bmB)
    (q : PySem.W.excIn X.K C bmB newId = true) (gC : X.mg x = some (.ref C))
    (kC : PySem.W.keepIn X.K (.ref C) = true) (r : Raises X (.ref C)) (hg : Gl X x)
    (hdb : (x == ("__debug__" : Str)) = false := by decide) :
    L2N.PMk X (.Call (.Name x p) [] [] pos) (fun _ H Q => Q (.ref C) none H) := by
  intro pins s σ H Q I h
  apply wpAny_Call_Name_kw (ld_glob I hg gC ?_ hdb)
  obtain ⟨bm, N, nm, qn, bs, hdct, sn, sub, ab, col, dd, k0, k1, k2, k3, k5, mN, hC, hN, hni, T⟩ := exc_obj I.kIn q
  obtain ⟨hp, g, dr, tk, os⟩ := s
  apply PySem.W.callWith_KW0 (h₀ := X.base) I.ok.mod.kin kC (by rfl) ?_ (by rfl)
  apply wpAny_pure
  refine ⟨I.kIn, ?_⟩
  show wpAny _ _ (call (.ref C) []) _ _ _
  apply wpAny_call_exc_subT F T hC hN hni ?_ (Nat.zero_le _)
  intro h' e hm
  exact L2N.mk_of I hm r h (I.hok.gone hm.new)
end
end Zc
end

section
set_option maxHeartbeats 4000000
/-! a list comprehension over a range while an exception is handled -/
namespace Zc
open PySem PySem.Spec PyProof.Rows L2 L2H

/-- the block's context, the handled exception still pinned -/
abbrev blkH (X : Cx) (s : Shared) (H : Hp) (scope : Scope) (cenv : Env) (fp : List Addr) : Cx :=
  { X.blk s H scope cenv fp with pn := X.pn }

section
variable {X : Cx} {pins : List (Addr × Obj)} {σ : L2.St} {H : Hp} {s : Shared}

theorem blkH_of {scope : Scope} {cenv : Env} {fp : List Addr} {s0 s1 : Shared} {σ' : L2.St} {H0 H1 : Hp}
    (J : Inv (X.blk s0 H0 scope cenv fp) [] σ' H1 s1)
    (hp : ∀ p ∈ X.pn, s1.heap.get? p.1 = some p.2 ∧ H1 p.1 = none ∧ p.1 ≠ cenv.locals ∧ p.1 ∉ frs X.stack ∧
      ∀ v, p.2.data ≠ .cell v) : Inv (blkH X s0 H0 scope cenv fp) [] σ' H1 s1 := by
  have o := J.ok
  refine ⟨⟨o.mod, o.kind, o.glob, o.blt, o.above, o.inj, o.has, o.cab, o.hd, o.frames, o.stk, o.exf, o.bs, o.bsz,
    o.noex, o.exfs, o.funs, o.frf⟩, J.os, J.bare, J.base, J.loc, J.cell, J.free, J.freeC, ?_, J.hok, J.len⟩
  intro p hm
  rcases List.mem_append.mp hm with z | z
  · exact hp p z
  · exact absurd z List.not_mem_nil

theorem lc_coreH {Q : VK} {elt tg iter : Expr} {ifs : List Expr} {scope : Scope} {own : List (Str × Nat)} {pos pos' : Pos}
    {wi : TI} {g : TG} {tt : TT} {te : TE} {use : Option (Value → Sem Unit)} {Qf : Value → Shared → Prop}
    (hc : HotC X) (hN : X.N.Nodup) (I : Inv X pins σ H s) (hi : PIH X tg iter wi) (ok : BlkOk X.N X.env.scope scope own)
    (hg : ∀ (s : Shared) (H : Hp) (C : Addr) (cl : List (Str × Addr)) (fp : List Addr),
      PG (blkH X s H scope (compEnvC scope cl C X.env) fp) tg g)
    (ht : ∀ (s : Shared) (H : Hp) (C : Addr) (cl : List (Str × Addr)) (fp : List Addr),
      PTs (blkH X s H scope (compEnvC scope cl C X.env) fp) ifs tt)
    (he : ∀ (s : Shared) (H : Hp) (C : Addr) (cl : List (Str × Addr)) (fp : List Addr),
      PE (blkH X s H scope (compEnvC scope cl C X.env) fp) elt te)
    (hs : ∀ x, foldedSetIterable iter X.env x = pure x)
    (h : tLc wi g tt te (own.map (·.2)) σ H Q)
    (hRR : ∀ D C s' m H', Inv X pins σ H' s' → Q (.ref D) H' → s'.heap.Ns C m → FpOk X pins H' C →
      compPost (model X.prog X.w) X.A X.xe use Qf (.ref D) C (.ok .next) s') :
    wpAny (model X.prog X.w) X.A (comprehension (.ListComp elt [⟨tg, iter, ifs, 0⟩] scope pos) scope X.env pos'
      (newList []) false (eval iter X.env) use) Qf X.xe s := by
  have hfree : ∀ y ∈ scope.names, y.2 = .free → ∃ c, X.env.cells.lookup y.1 = some c := by
    intro y hy e
    exact (ok.free y hy e).elim (fun k => I.ok.has _ (.inl k)) (fun k => I.ok.has _ (.inr k))
  refine wpAny_comprehension_free (use := use) rfl hs (closure_ok hfree) ok.kind
    (fun y hy e => by rw [ok.uniq y hy, e]) ?_
  refine thn (hi.run pins s σ H _ I h) ?_
  intro xv s1 hx
  refine thn hx ?_
  rintro itv s2 ⟨it, fp, tn, J, H2, e, I2, T, st2, f2, q⟩
  subst e
  refine wpAny_newObj_type (newEnv_comp ?_)
    (by show 0 ≤ sizeLine; decide)
  generalize hD : s2.heap.objs.size = D
  have hDn : H2 D = none := I2.hok.fresh (Nat.le_of_eq hD)
  obtain ⟨W, ⟨m0, w0⟩, turn⟩ := q D hDn
  generalize hs3 : ({ s2 with heap := s2.heap.push { cls := .type "list", data := .seq ([] : List Value).toArray } } : Shared) = s3
  have I3 : Inv X pins σ (upd H2 D (.lst [])) s3 := by
    rw [← hs3]
    apply I2.laid (t' := s2.toks) (fun b o e => Heap.get?_push_of_some _ e) (Nat.le_of_eq hD)
    refine ⟨Nat.zero_le _, [], 0, .nil, ?_⟩
    rw [← hD]
    exact Heap.get?_push_size _ rfl
  have h3 : s3.heap = s2.heap.push { cls := .type "list", data := .seq ([] : List Value).toArray } := by
    rw [← hs3]
  have sz : ∀ b ∈ fp, b < s2.heap.objs.size := by
    intro b hb
    obtain ⟨o, e, _⟩ := T.obj _ _ st2 b hb
    exact Heap.lt_size e
  have f3 : ∀ b ∈ fp, FpOk X pins (upd H2 D (.lst [])) b ∧ b < s3.heap.objs.size := by
    intro b hb
    have hlt := sz b hb
    refine ⟨⟨?_, (f2 b hb).2⟩, by rw [h3, Heap.size_push]; exact Nat.lt_succ_of_lt hlt⟩
    rw [upd_ne (by rw [← hD]; exact Nat.ne_of_lt hlt)]
    exact (f2 b hb).1
  have st3 : tn 0 s3.heap := by
    apply T.keep _ _ _ st2
    intro b _ o e
    rw [h3]
    exact Heap.get?_push_of_some _ e
  have I4' := block_start I3 ok hN f3
  generalize hcl : cellsFrom (s3.heap.objs.size + 1) scope.names (cloFrom X.env.cells scope.names []) = cl at I4' ⊢
  have pg := hg s3 (upd H2 D (.lst [])) s3.heap.objs.size cl fp
  have pt := ht s3 (upd H2 D (.lst [])) s3.heap.objs.size cl fp
  have pe := he s3 (upd H2 D (.lst [])) s3.heap.objs.size cl fp
  show codeAny _ _ (.compStart (.ListComp elt [⟨tg, iter, ifs, 0⟩] scope pos) 0 (.ref it) (.ref D)
    (compEnvC scope cl s3.heap.objs.size X.env)) (compPost (model X.prog X.w) X.A X.xe use Qf (.ref D) s3.heap.objs.size)
    { s3 with heap := pushCells (s3.heap.push { cls := .type "dict", data := .dict #[] }) scope.names }
  have nfp : ∀ b ∈ fp, (upd H2 D (.lst [])) b = none := fun b hb => (f3 b hb).1.1
  generalize hce : compEnvC scope cl s3.heap.objs.size X.env = ce at I4' pg pt pe ⊢
  have cL : ce.locals = s3.heap.objs.size := by
    subst hce
    rfl
  generalize hH3 : upd H2 D (.lst []) = H3 at I3 I4' pg pt pe w0 nfp f3
  generalize hs4 : ({ s3 with heap := pushCells (s3.heap.push { cls := .type "dict", data := .dict #[] }) scope.names } : Shared) = s4 at I4' ⊢
  have k34 : ∀ b o, s3.heap.get? b = some o → s4.heap.get? b = some o := by
    intro b o e
    rw [← hs4]
    exact pushCells_keeps _ _ _ _ (Heap.get?_push_of_some _ e)
  have st4 : tn 0 s4.heap := T.keep _ _ _ st3 fun b _ o e => k34 b o e
  have I4 : Inv (blkH X s3 H3 scope ce fp) [] (wipe σ (own.map (·.2))) H3 s4 := by
    apply blkH_of I4'
    intro p hm
    obtain ⟨p1, p2, p3, p4, p5⟩ := I3.pin p (List.mem_append_left _ hm)
    refine ⟨k34 _ _ p1, p2, ?_, ?_, p5⟩
    · rw [cL]
      exact Nat.ne_of_lt (Heap.lt_size p1)
    · intro z
      exact (List.mem_cons.mp (I3.stkSub p.1 z)).elim p3 p4
  have stat : ∀ {σ' : L2.St} {H' : Hp} {s' : Shared}, Inv (blkH X s3 H3 scope ce fp) [] σ' H' s' → (∀ b ∈ fp, H' b = none) →
      ∀ b ∈ fp, FpOk (blkH X s3 H3 scope ce fp) [] H' b := by
    intro σ' H' s' I' hn b hb
    refine ⟨hn b hb, (I'.ok.exf b hb).1, I'.ok.exfs b hb, .inl hb, fun x c e => (I'.ok.exf b hb).2 x c e, ?_⟩
    intro p hm
    rcases List.mem_append.mp hm with z | z
    · exact (f3 b hb).1.2.2.2.2.2 p (List.mem_append_left _ z)
    · exact absurd z List.not_mem_nil
  have loop : codeAny (model X.prog X.w) X.A (.compLoop (.ListComp elt [⟨tg, iter, ifs, 0⟩] scope pos) 0 (.ref it) (.ref D) ce)
      (compPost (model X.prog X.w) X.A X.xe use Qf (.ref D) s3.heap.objs.size) s4 := by
    apply compLoop_any (fun n s' => ∃ i H', Inv (blkH X s3 H3 scope ce fp) [] (wipe σ (own.map (·.2))) H' s' ∧
      tn i s'.heap ∧ (∀ b ∈ fp, H' b = none) ∧ W i n H') ?_ m0 ⟨0, H3, I4, st4, nfp, w0⟩
    rintro n s5 ⟨i, H5, I5, st5, n5, w5⟩
    rcases turn i n H5 w5 with ⟨stop, qq⟩ | ⟨go, Nx, hNx, step⟩
    · have td := T.done (blkH X s3 H3 scope ce fp) rfl rfl rfl hc i [] s5 _ H5 (fun _ _ => False) I5 (stat I5 n5) st5 stop
      apply thnF td
      rintro r s6 ⟨hr, I6⟩
      subst hr
      have I7 : Inv X pins σ H5 s6 := by
        apply I3.call' (ch := fp) I6.os I6.base I6.hok I6.bare
        intro b hb
        have z := (f3 b hb).1
        exact ⟨z.2.2.2.1, z.2.1, z.2.2.2.2.1, z.2.2.2.2.2⟩
      have nC : H5 s3.heap.objs.size = none := by
        have z : H5 ce.locals = none := I6.free
        rw [cL] at z
        exact z
      obtain ⟨m, hn, _⟩ := I6.loc
      have hn2 : s6.heap.Ns ce.locals m := hn
      rw [cL] at hn2
      exact hRR D s3.heap.objs.size s6 m H5 I7 qq hn2 (I3.fpOk (Nat.le_refl _) nC)
    · have ti := T.item (blkH X s3 H3 scope ce fp) rfl rfl rfl hc i [] s5 _ H5 (fun _ _ => False) I5 (stat I5 n5) st5 go
      apply thnF ti
      rintro r s6 ⟨u, hr, h6⟩
      subst hr
      apply thnF h6
      rintro _ s7 ⟨x, H7, I7, r7, y7, st7, n7⟩
      have I7' := I7.pinned (stat I7 n7) (T.obj _ _ st7)
      apply thnF (pg.run _ s7 _ H7 x u _ I7' r7 (step x H7 y7))
      rintro _ s8 ⟨σ8, H8, I8, hw8, q8⟩
      apply thnF (pt.run _ s8 σ8 H8 _ I8 q8)
      rintro b s9 ⟨H9, I9, q9⟩
      have fin : ∀ {s' : Shared} {H' : Hp}, Inv (blkH X s3 H3 scope ce fp) ([] ++ pinsAt fp s7.heap) σ8 H' s' → Nx H' →
          ∃ m, m < n ∧ ∃ i H', Inv (blkH X s3 H3 scope ce fp) [] (wipe σ (own.map (·.2))) H' s' ∧ tn i s'.heap ∧
            (∀ b ∈ fp, H' b = none) ∧ W i m H' := by
        intro s' H' I' nx
        obtain ⟨m', hm, w'⟩ := hNx H' nx
        have pin' : ∀ b ∈ fp, ∀ o, s7.heap.get? b = some o → s'.heap.get? b = some o ∧ H' b = none := by
          intro b hb o e
          have z := I'.pin (b, o) (List.mem_append_right _ (List.mem_append_right _ (mem_pinsAt hb e)))
          exact ⟨z.1, z.2.1⟩
        have hl : (wipe σ (own.map (·.2))).length = σ8.length := by
          rw [← hw8, wipe_length]
        refine ⟨m', hm, i + 1, H', (I'.unpinned (pins := [])).weak hl ?_, T.keep _ _ _ st7 (fun b hb o e => (pin' b hb o e).1), ?_, w'⟩
        · intro j v e
          rw [← hw8] at e
          exact (wipe_some e).1
        · intro b hb
          obtain ⟨o, e, _⟩ := T.obj _ _ st7 b hb
          exact (pin' b hb o e).2
      cases b with
      | false =>
        simp only [Bool.false_eq_true, if_false] at q9 ⊢
        exact fin I9 q9
      | true =>
        simp only [if_true] at q9 ⊢
        apply thnF (pe.run _ s9 σ8 H9 _ I9 q9)
        rintro z s10 ⟨yv, H10, I10, r10, acc, hD10, hz10, nx⟩
        exact app_ok (X := blkH X s3 H3 scope ce fp) I10 hD10 hz10 r10 fun s11 I11 => fin I11 nx
  exact codeAny_compStart_list loop (T.self X.A 0 _ _ _ st4 loop)

/-- [elt for tg in iter if ..] as a value, an exception being handled -/
theorem pe_lcH {elt tg iter : Expr} {ifs : List Expr} {scope : Scope} {own : List (Str × Nat)} {pos : Pos} {wi : TI}
    {g : TG} {tt : TT} {te : TE} (hc : HotC X) (hN : X.N.Nodup) (hi : PIH X tg iter wi)
    (ok : BlkOk X.N X.env.scope scope own)
    (hg : ∀ (s : Shared) (H : Hp) (C : Addr) (cl : List (Str × Addr)) (fp : List Addr),
      PG (blkH X s H scope (compEnvC scope cl C X.env) fp) tg g)
    (ht : ∀ (s : Shared) (H : Hp) (C : Addr) (cl : List (Str × Addr)) (fp : List Addr),
      PTs (blkH X s H scope (compEnvC scope cl C X.env) fp) ifs tt)
    (he : ∀ (s : Shared) (H : Hp) (C : Addr) (cl : List (Str × Addr)) (fp : List Addr),
      PE (blkH X s H scope (compEnvC scope cl C X.env) fp) elt te)
    (hs : ∀ x, foldedSetIterable iter X.env x = pure x := by intro _; rfl) :
    PE X (.ListComp elt [⟨tg, iter, ifs, 0⟩] scope pos) (tLc wi g tt te (own.map (·.2))) := by
  constructor
  intro pins s σ H Q I h
  rw [eval_ListComp]
  apply lc_coreH hc hN I hi ok hg ht he hs h
  intro D C s' m H' I' q hn f
  refine ⟨m, hn, ?_⟩
  intro h'' sb
  obtain ⟨f0, f1, f2, f3, f4, f5⟩ := f
  exact ⟨.ref D, H', I'.turned (t' := s'.toks) (fun b o hb e => (sb.2 b hb).trans e) f0 f1 f3 f4 f5, rfl, q⟩
end
end Zc
end

section
set_option maxHeartbeats 4000000
/-! isinstance of the handled exception, its fields, and a def that takes it -/
namespace Zc
open PySem PySem.Spec PyProof.Rows L2 L2H

/-- isinstance(e, c): e the handled exception at a, of the class D, with the dict d or none -/
def rIsX (K : PySem.W.Frag) (D a : Addr) (d : Option Addr) : List V → Hp → VK → Prop := fun xs H Q =>
  ∃ (c : V) (cv : Value) (b : Bool), xs = [.ref a, c] ∧ (∀ u, RelV c u → u = cv) ∧
    PySem.W.kitOne K (.ref D) cv = some b ∧ (∀ dd, d = some dd → ∃ fs, H dd = some (.xd fs)) ∧ Q (.bl b) H

theorem call_isX {X : Cx} {a D : Addr} {oe : Obj} {d : Option Addr} (C : ExcC X.K D) (hz : Zc (.ref D) d oe)
    (hf : ∃ vs, oe.data = .fields vs) (hp : (a, oe) ∈ X.pn) : CallR X (.builtin "isinstance") (rIsX X.K D a d) := by
  intro pins s σ H xs us Q I r h
  obtain ⟨c, cv, b, rfl, hcv, e, hd, q⟩ := h
  obtain ⟨u1, u2, rfl, r1, r2⟩ := vals2 r
  obtain rfl : u1 = Value.ref a := r1
  have ec := hcv _ r2
  subst ec
  obtain ⟨hget, _⟩ := I.pin (a, oe) (List.mem_append_left _ hp)
  obtain ⟨vs, hv⟩ := hf
  obtain ⟨z1, z2⟩ := hz
  have J : ∃ od, PySem.W.InstAt s.heap a oe D od := by
    match d, z2, hd with
    | none, z2, _ =>
      refine ⟨none, hget, z1, ?_, ?_⟩
      · unfold PySem.W.notCls
        rw [hv]
      · rw [z2]
        trivial
    | some dd, z2, hd =>
      obtain ⟨fs, hx⟩ := hd dd rfl
      have ho : ObjOk X.prog X.w H s.heap dd (.xd fs) := I.hok dd _ hx
      obtain ⟨mA, hns, _⟩ := ho
      obtain ⟨od, e1, _⟩ := lookIn_ns hns
      refine ⟨some od, hget, z1, ?_, ?_⟩
      · unfold PySem.W.notCls
        rw [hv]
      · rw [z2]
        exact e1
  obtain ⟨od, J⟩ := J
  obtain ⟨cd, hcd, _⟩ := PySem.W.any_some C.hd
  exact PySem.W.kia_one (PySem.W.kitx_exc (by rw [hcd]; rfl) C.hg C.hk C.hs C.ha C.hn C.ht C.hm) I.kIn J e
    (fun z => nomatch z) fun tk => ⟨.bl b, H, I.kept (t' := tk) fun _ _ z => z, rfl, q⟩

/-- what a def promises whose one argument is the handled exception -/
structure FnE (P : Program) (w : World) (K : PySem.W.Frag) (mg : Str → Option Value) (base : Heap) (CX : CXT) (k : Nat)
    (f : Addr) (fd : FuncData) (ps : List Str) (sp : Value → Option Addr → Sp) : Prop where
  run : ∀ (A : Around) (outer : List Env) (s : Shared) (H : Hp) (args : Args) (Q : VK) (E : XK)
    (p : Addr × Obj) (cls : Value) (d : Option Addr), RoomH k A → Hot1 A p → Zc cls d p.2 → PinOk outer H s p →
    Env0 P w K mg base A outer s H → BindsTo s fd args (ps.zip [.ref p.1]) → sp cls d [.ref p.1] H Q E →
    codeAny (model P w) A (.call (.ref f) args) (CR CX outer P w H s Q E) s

theorem fnE_ok {P : Program} {w : World} {K : PySem.W.Frag} {mg : Str → Option Value} {base : Heap} {CX : CXT}
    {x qual : Str} {st : Stmt} {f : Addr} {fd : FuncData} {N ps : List Str} {k : Nat} {sp : Value → Option Addr → Sp}
    (F : Fun K x qual st f fd) (S : FnScope N ps (defScope st)) (hps : ps.length = 1)
    (body : ∀ (cdv : Value) (A : Around) (outer : List Env) (s : Shared) (H : Hp) (Q : VK) (E : XK) (p : Addr × Obj)
      (cls : Value) (d : Option Addr), Hot1 A p → Zc cls d p.2 → RoomH k (A.deeper (envOfC qual (defScope st) s.heap.objs.size f cdv)) →
      sp cls d [.ref p.1] H Q E →
      ∃ t, PSs (cxH CX P w K mg base N qual (defScope st) f cdv A outer s H E p) (defBody st) t ∧
        t { nx := fun _ H' => Q .non H', rt := Q } (start N [.ref p.1]) H) :
    FnE P w K mg base CX (k + 1) f fd ps sp := by
  obtain ⟨oc, od, kV, doc, pm, an, cdv, ct, osl, rfl, lk, hcd⟩ := F.ex
  constructor
  intro A outer s H args Q E p cls d hr hot hz hpin e0 hb hsp
  have kin : K.In s.heap :=
    e0.mod.kin.keeps fun b o e => (e0.bs b o e).1
  have nolim : s.heap.NoLimit :=
    e0.mod.nolimit.keeps fun b o e => (e0.bs b o e).1
  have kinds : ∀ y ∈ ps.zip [Value.ref p.1], (defScope st).names.lookup y.1 = some .local ∨
      ((defScope st).names.lookup y.1 = some .cell ∧
        ((cellsFrom (s.heap.objs.size + 1) (defScope st).names []).lookup y.1).isSome = true) := by
    rintro ⟨n, v⟩ hy
    cases S.par n (List.of_mem_zip hy).1 with
    | inl q => exact Or.inl q
    | inr q => exact Or.inr ⟨q, PySem.W.cellsFrom_some _ _ _ (Or.inl q)⟩
  apply codeAny_call_function hr.depth (kin _ _ lk) rfl S.co S.gen rfl (PySem.W.codeRec_of kin hcd)
    (hb _ _ _ _ ?_)
  apply wpAny_newFunctionEnv_cells S.kind kinds
  intro env he s1 x
  subst he
  refine And.intro (nolim.keeps x.toInCall.keep) (codeAny_func ?_)
  obtain ⟨t, ht, hq⟩ := body cdv A outer s H Q E p cls d hot hz (hr.deeper _) hsp
  have J : Inv (cxH CX P w K mg base N qual (defScope st) f cdv A outer s H E p) [] (start N [.ref p.1]) H s1 :=
    inv_startH S hpin e0 (by rw [hps]; rfl) (.cons rfl .nil) x
  apply wpAny_mono (ht.run [] s1 (start N [.ref p.1]) H _ J hq)
  · intro fl s' hs
    have fin : ∀ {σ' : L2.St} {H' : Hp} {v : V} {u : Value},
        Inv (cxH CX P w K mg base N qual (defScope st) f cdv A outer s H E p) [] σ' H' s' →
        RelV v u → Q v H' → CE outer P w H s Q u s' := by
      intro σ' H' v u J' rv q
      exact ⟨v, H', J'.os, J'.bare, J'.base, J'.hok, rv, q⟩
    match fl, hs with
    | .ret u, hs =>
      obtain ⟨v, σ', H', J', rv, q⟩ := hs
      exact fin J' rv q
    | .next, hs =>
      obtain ⟨σ', H', J', q⟩ := hs
      exact fin (v := V.non) (u := Value.none) J' rfl q
    | .brk, hs =>
      obtain ⟨_, _, _, q⟩ := hs
      exact q.elim
    | .cont, hs =>
      obtain ⟨_, _, _, q⟩ := hs
      exact q.elim
  · intro e s' hs
    exact hs

section
variable {X : Cx} {CX : CXT} {k : Nat} {f : Addr} {fd : FuncData} {ps : List Str} {sp : Value → Option Addr → Sp} {E : L2.St → XK}
  {x : Str} {q pos : Pos} {e : Expr} {t : TA}
/-- f(e), e the handled exception -/
theorem pe_callE {p : Addr × Obj} {cls : Value} {d : Option Addr} (F : FnE X.prog X.w X.K X.mg X.base CX k f fd ps sp)
    (hps : ps.length = 1) (hr : RoomH k X.A) (hot : Hot1 X.A p) (hp : p ∈ X.pn) (hz : Zc cls d p.2) (hg : Gl X x)
    (hm : X.mg x = some (.ref f)) (hk : PySem.W.keepIn X.K (.ref f) = true) (hb : Binds X.K fd ps [])
    (hx : ∀ σ, PassesAt CX X σ (E σ)) (ha : PA X [e] t) (hdb : (x == ("__debug__" : Str)) = false := by decide)
    (he : starEach [e] X.env = (false, eval e X.env) :: starEach [] X.env := by rfl)
    (hpl : (backTo pos (starEach [] X.env)).any (·.1) = false := by rfl) :
    PE X (.Call (.Name x q) [e] [] pos) (fun σ H Q => t σ H fun vs H1 => vs = [.ref p.1] ∧ sp cls d vs H1 Q (E σ)) := by
  constructor
  intro pins s σ H Q I h
  apply wpAny_Call_Name_kw (ld_glob I hg hm ?_ hdb)
  apply PySem.W.callWith_K (h₀ := X.base) I.ok.mod.kin hk ?_ he hpl
  apply thn (ha.run pos pins s σ H _ I h)
  rintro us s1 ⟨vs, H1, I1, r, rfl, q2⟩
  refine ⟨I1.kIn, ?_⟩
  obtain ⟨u1, rfl, r1⟩ := vals1 r
  obtain rfl : u1 = Value.ref p.1 := r1
  have b := hb s1 [.ref p.1] I1.kIn (by rw [hps]; rfl)
  rw [List.append_nil] at b
  obtain ⟨p1, p2, p3, p4, p5⟩ := I1.pin p (List.mem_append_left _ hp)
  have hpin : PinOk X.stack H1 s1 p := by
    refine ⟨p1, p2, ?_, p5⟩
    intro hm
    exact (List.mem_cons.mp (I1.stkSub p.1 hm)).elim p3 p4
  apply wpAny_call
  apply codeAny_mono (F.run X.A X.stack s1 H1 ⟨[.ref p.1], []⟩ Q (E σ) p cls d hr hot hz hpin I1.env0 b q2)
  intro r s' hq
  match r, hq with
  | .error e, hq => exact hx σ pins H1 s1 e s' I1 hq
  | .ok (.ret u), hq => exact I1.after hq
  | .ok .next, hq => exact False.elim hq
  | .ok .brk, hq => exact False.elim hq
  | .ok .cont, hq => exact False.elim hq
end
end Zc
end

section
set_option maxHeartbeats 4000000
/-! within an except suite: the class of what is handled is told by the reading -/
namespace Zc
open PySem PySem.Spec PyProof.Rows L2 L2H

/-- isinstance(e, c), e what is handled, whatever its class -/
def rIsY (K : PySem.W.Frag) (cls : Value) (a : Addr) (d : Option Addr) : List V → Hp → VK → Prop := fun xs H Q =>
  ∃ D, cls = .ref D ∧ ExcC K D ∧ rIsX K D a d xs H Q
theorem call_isY {X : Cx} {a : Addr} {cls : Value} {oe : Obj} {d : Option Addr} (hz : Zc cls d oe)
    (hf : ∃ vs, oe.data = .fields vs) (hp : (a, oe) ∈ X.pn) : CallR X (.builtin "isinstance") (rIsY X.K cls a d) := by
  rintro pins s σ H xs us Q I r ⟨D, rfl, C, h⟩
  exact call_isX C hz hf hp pins s σ H xs us Q I r h

/-- e.n, e what is handled -/
def tXfY (K : PySem.W.Frag) (a : Addr) (cls : Value) (d : Option Addr) (n : Str) (te : TE) : TE := fun σ H Q =>
  te σ H fun x H1 => x = .ref a ∧ ∃ (C dd : Addr) (fs : List (Str × V)) (v : V), cls = .ref C ∧ XfC K C ∧
    PySem.W.findIn K (.ref C) n = some none ∧ d = some dd ∧ H1 dd = some (.xd fs) ∧ fs.lookup n = some v ∧ Q v H1
theorem pe_xfY {X : Cx} {a : Addr} {oe : Obj} {cls : Value} {d : Option Addr} {e : Expr} {te : TE} {pos : Pos} {n : Str}
    (hz : Zc cls d oe) (hf : ∃ vs, oe.data = .fields vs) (hp : (a, oe) ∈ X.pn) (he : PE X e te)
    (hb : attributeBase e n X.env (eval e X.env) = eval e X.env := by rfl) :
    PE X (.Attribute e n pos) (tXfY X.K a cls d n te) := by
  constructor
  intro pins s σ H Q I h
  apply attr_of hb
  apply thn (he.run pins s σ H _ I h)
  rintro u s1 ⟨x, H1, I1, rx, ex, C, dd, fs, v, ec, T, hno, ed, ea, l, q⟩
  subst ex ec ed
  obtain rfl : u = Value.ref a := rx
  obtain ⟨ha, _⟩ := I1.pin (a, oe) (List.mem_append_left _ hp)
  obtain ⟨vs, hd⟩ := hf
  have hx : ObjOk X.prog X.w H1 s1.heap dd (.xd fs) := I1.hok dd _ ea
  obtain ⟨mA, hns, hr⟩ := hx
  obtain ⟨od, ho, hl⟩ := lookIn_ns hns
  obtain ⟨u2, hu, ru⟩ := RelO.some_of (v := v) (o := mA n) (by rw [← l]; exact hr n)
  have J : PySem.W.InstAt s1.heap a oe C (some od) := by
    refine ⟨ha, hz.1, ?_, ?_⟩
    · unfold PySem.W.notCls
      rw [hd]
    · rw [hz.2]
      exact ho
  exact HandSPX.exc_get I1.kIn J T.ga T.gg T.exC (PySem.W.findObj_own T.hdC hno rfl (by rw [hl, hu]))
    (handed_of ru) ⟨v, H1, I1.tok _, ru, q⟩

theorem passN {X : Cx} : ∀ σ : L2.St, PassesAt (L2N.CX X.prog X.w) X σ (fun _ _ _ => False) := by
  rintro σ pins H s e s' I ⟨_, _, _, _, _, _, _, _, _, _, _, _, z⟩
  exact z.elim
theorem takesN {X : Cx} : L2N.Takes X (fun _ _ _ _ => False) := by
  rintro u s' ⟨_, _, _, _, _, _, _, _, _, _, _, _, _, _, _, _, z⟩
  exact z.elim

section
variable {X : Cx} {CX : CXT} {k : Nat} {f : Addr} {fd : FuncData} {ps : List Str} {sp : Value → Option Addr → Sp} {E : L2.St → XK}
  {x : Str} {q pos : Pos} {e : Expr} {t : TA}
/-- f(e), e what is handled at a -/
def tCallE (a : Addr) (cls : Value) (d : Option Addr) (sp : Value → Option Addr → Sp) (E : L2.St → XK) (t : TA) : TE :=
  fun σ H Q => t σ H fun vs H1 => vs = [.ref a] ∧ sp cls d vs H1 Q (E σ)
theorem pe_callEa {a : Addr} {oe : Obj} {cls : Value} {d : Option Addr} (F : FnE X.prog X.w X.K X.mg X.base CX k f fd ps sp)
    (hps : ps.length = 1) (hr : RoomH k X.A) (hot : Hot1 X.A (a, oe)) (hp : (a, oe) ∈ X.pn) (hz : Zc cls d oe) (hg : Gl X x)
    (hm : X.mg x = some (.ref f)) (hk : PySem.W.keepIn X.K (.ref f) = true) (hb : Binds X.K fd ps [])
    (hx : ∀ σ, PassesAt CX X σ (E σ)) (ha : PA X [e] t) (hdb : (x == ("__debug__" : Str)) = false := by decide)
    (he : starEach [e] X.env = (false, eval e X.env) :: starEach [] X.env := by rfl)
    (hpl : (backTo pos (starEach [] X.env)).any (·.1) = false := by rfl) :
    PE X (.Call (.Name x q) [e] [] pos) (tCallE a cls d sp E t) :=
  pe_callE F hps hr hot hp hz hg hm hk hb hx ha hdb he hpl
end

/-! ### repr of any of a law's things -/
inductive Shows (K : PySem.W.Frag) (H : Hp) : V → Str → Prop
  | int (i : Int) (h : i.natAbs.log2 < 1920) : Shows K H (.int i) (toString i)
  | str (x : Str) (h : (reprText x).length ≤ sizeLine) : Shows K H (.str x) (reprText x)
  | non : Shows K H .non "None"
  | dat {v : V} {d : PyData} (h1 : PyProof.Rows.isDisplay d = true) (h2 : ∀ H', Same H H' → Dp K H' v d) (h3 : d.showable = true)
      (h4 : d.hasDict = false) (h5 : d.depth < 40) (h6 : d.shown.length ≤ sizeLine) : Shows K H v d.shown
theorem Shows.same {K : PySem.W.Frag} {H H' : Hp} {v : V} {s : Str} (h : Shows K H v s) (z : Same H H') : Shows K H' v s := by
  cases h with
  | int i h => exact .int i h
  | str x h => exact .str x h
  | non => exact .non
  | dat h1 h2 h3 h4 h5 h6 => exact .dat h1 (fun H2 z2 => h2 H2 (z.trans z2)) h3 h4 h5 h6
def rShows (K : PySem.W.Frag) : List V → Hp → VK → Prop := fun xs H Q => ∃ v s, xs = [v] ∧ Shows K H v s ∧ Q (.str s) H
theorem call_shows {X : Cx} (hg : X.A.guards = some []) (hu : X.A.units + 64 < cLine) :
    CallR X (.builtin "repr") (rShows X.K) := by
  rintro pins s σ H xs us Q I r ⟨v, t, rfl, hs, q⟩
  cases hs with
  | int i hz =>
    obtain ⟨u, rfl, t, rfl⟩ := vals1 r
    exact PySem.P.repr_of_int hz ⟨.str _, H, I.tok _, ⟨_, rfl⟩, q⟩
  | str x hz =>
    obtain ⟨u, rfl, t, rfl⟩ := vals1 r
    exact PySem.P.repr_of_str (hsz := hz) ⟨.str _, H, I.tok _, ⟨_, rfl⟩, q⟩
  | non =>
    obtain ⟨u, rfl, rfl⟩ := vals1 r
    exact PySem.P.repr_of_none ⟨.str _, H, I.tok _, ⟨_, rfl⟩, q⟩
  | dat h1 h2 h3 h4 h5 h6 =>
    exact call_repr_D hg hu pins s σ H _ us Q I r ⟨_, _, rfl, h1, h2 H (fun _ _ e => e), h3, h4, h5, h6, q⟩
end Zc
end

section
set_option maxHeartbeats 2000000
/-! a call of a def whose promise holds where no repr runs around it -/
namespace Zc
open PySem PySem.Spec PyProof.Rows L2
section
variable {X : Cx} {k : Nat} {f : Addr} {fd : FuncData} {ps : List Str} {sp : Sp} {x : Str} {q pos : Pos} {e : Expr} {es : List Expr} {t : TA}
def tCallG (sp : Sp) (t : TA) : TE := fun σ H Q => t σ H fun vs H1 => sp vs H1 Q fun _ _ _ => False
theorem pe_callG (F : FnG X.prog X.w X.K X.mg X.base k f fd ps sp) (hr : Room k X.A) (hgd : X.A.guards = some [])
    (hg : Gl X x) (hm : X.mg x = some (.ref f)) (hk : PySem.W.keepIn X.K (.ref f) = true) (hb : Binds X.K fd ps [])
    (ha : PA X (e :: es) t) (hdb : (x == ("__debug__" : Str)) = false := by decide)
    (he : starEach (e :: es) X.env = (false, eval e X.env) :: starEach es X.env := by rfl)
    (hpl : (backTo pos (starEach es X.env)).any (·.1) = false := by rfl) :
    PE X (.Call (.Name x q) (e :: es) [] pos) (tCallG sp t) := by
  constructor
  intro pins s σ H Q I h
  apply wpAny_Call_Name_kw (ld_glob I hg hm ?_ hdb)
  apply PySem.W.callWith_K (h₀ := X.base) I.ok.mod.kin hk ?_ he hpl
  apply thn (ha.run pos pins s σ H _ I h)
  rintro us s1 ⟨vs, H1, I1, r, q2⟩
  refine ⟨I1.kIn, ?_⟩
  have hl : us.length = ps.length := by
    rw [← r.length]
    exact F.len _ _ _ _ q2
  have b := hb s1 us I1.kIn (by rw [List.append_nil]; exact hl)
  rw [List.append_nil] at b
  apply wpAny_call
  apply codeAny_mono (F.run X.A X.stack s1 H1 ⟨us, []⟩ us vs Q (fun _ _ _ => False) hr hgd I1.env0 b r q2)
  intro r s' hq
  match r, hq with
  | .error e, hq => exact pass0 (X := X) pins σ H1 s1 e s' I1 hq
  | .ok (.ret u), hq => exact I1.after hq
  | .ok .next, hq => exact False.elim hq
  | .ok .brk, hq => exact False.elim hq
  | .ok .cont, hq => exact False.elim hq
end
end Zc
end

section
set_option maxHeartbeats 400000
namespace K00
open PySem PySem.Spec PyProof.Rows L2 Zc
/-- the statement at a place of the program's top -/
def topS (i : Nat) : Stmt :=
  PySem.Challenge.pw_lookalike_k00_errors_and_what_they_keep.main.body.getD i (.Pass ⟨0, 0, 0, 0⟩)
abbrev s__law_marks : Stmt := topS 11
theorem sc__law_marks : FnScope ["e", "found"]
    ["e"] (defScope s__law_marks) :=
  ⟨rfl, rfl, rfl, by decide +kernel, rfl, by decide +kernel, by decide +kernel⟩
abbrev s__law_raise : Stmt := topS 12
theorem sc__law_raise : FnScope ["at", "thing"]
    ["at", "thing"] (defScope s__law_raise) :=
  ⟨rfl, rfl, rfl, by decide +kernel, rfl, by decide +kernel, by decide +kernel⟩
abbrev s__law_heard : Stmt := topS 13
theorem sc__law_heard : FnScope ["at", "thing", "e", "spot"]
    ["at", "thing"] (defScope s__law_heard) :=
  ⟨rfl, rfl, rfl, by decide +kernel, rfl, by decide +kernel, by decide +kernel⟩
abbrev s__law_named : Stmt := topS 14
theorem sc__law_named : FnScope ["thing", "made", "one"]
    ["thing"] (defScope s__law_named) :=
  ⟨rfl, rfl, rfl, by decide +kernel, rfl, by decide +kernel, by decide +kernel⟩
abbrev s_law : Stmt := topS 15
theorem sc_law : FnScope ["script", "k", "cell", "things", "thing", "at"]
    ["script"] (defScope s_law) :=
  ⟨rfl, rfl, rfl, by decide +kernel, rfl, by decide +kernel, by decide +kernel⟩
/-- the first statement of a class's body -/
def meth (i : Nat) : Stmt := match topS i with
  | .ClassDef _ _ _ b _ _ _ _ _ _ _ => b.getD 0 (.Pass ⟨0, 0, 0, 0⟩)
  | s => s
theorem sc_init : ∀ i : Nat, i < 7 → FnScope ["self", "at"] ["self", "at"] (defScope (meth (i + 2)))
  | 0, _ => ⟨rfl, rfl, rfl, by decide +kernel, rfl, by decide +kernel, by decide +kernel⟩
  | 1, _ => ⟨rfl, rfl, rfl, by decide +kernel, rfl, by decide +kernel, by decide +kernel⟩
  | 2, _ => ⟨rfl, rfl, rfl, by decide +kernel, rfl, by decide +kernel, by decide +kernel⟩
  | 3, _ => ⟨rfl, rfl, rfl, by decide +kernel, rfl, by decide +kernel, by decide +kernel⟩
  | 4, _ => ⟨rfl, rfl, rfl, by decide +kernel, rfl, by decide +kernel, by decide +kernel⟩
  | 5, _ => ⟨rfl, rfl, rfl, by decide +kernel, rfl, by decide +kernel, by decide +kernel⟩
  | 6, _ => ⟨rfl, rfl, rfl, by decide +kernel, rfl, by decide +kernel, by decide +kernel⟩
end K00
end

section
set_option maxHeartbeats 2000000
namespace K00
open PySem PySem.Spec PyProof.Rows L2 Zc

/-- the base class -/
structure Bas (K : PySem.W.Frag) (mg : Str → Option Value) (B : Addr) : Prop where
  g : mg "LookError" = some (.ref B)
  k : PySem.W.keepIn K (.ref B) = true
  t : PySem.W.typeIn K (.ref B) = some (.type "type")
  r : PySem.W.readsIn K B (.type "type") = true
  ga : PySem.W.specialIn K (.ref B) "__getattribute__" = some (some (.builtin "type.__getattribute__"))
  fi : PySem.W.findCls K (.ref B) (.type "type") "__init__" = some (.val (.builtin "ValueError.__init__"))

/-- one of the classes whose errors keep something -/
structure Err (K : PySem.W.Frag) (mg : Str → Option Value) (i : Nat) (x qual : Str) (C f : Addr) (fd : FuncData) : Prop where
  g : mg x = some (.ref C)
  T : OexC K C
  X : XfC K C
  E : ExcC K C
  no : PySem.W.findIn K (.ref C) "at" = some none
  iC : PySem.W.findIn K (.ref C) "__init__" = some (some (.ref f))
  tI : PySem.W.typeIn K (.ref f) = some (.type "function")
  F : Fun K "__init__" qual (meth (i + 2)) f fd
  b : Binds K fd ["self", "at"] []
  kb : ∀ (s : Shared) (u : Value) (ws : List Value), ws.length = 1 → BindsTo s fd ⟨[u], ([("at" : Str)]).zip ws⟩ ((["self", "at"] : List Str).zip (u :: ws))

def spInit (C : Addr) : Sp := fun vs H Q _ => ∃ (a : Addr) (y : V), vs = [.ref a, y] ∧ H a = some (exo a C none) ∧
  ∀ dx, H dx = none → dx ≠ a → Q .non (upd (upd H dx (exd dx [("at", y)])) a (exo a C (some dx)))

section
variable {P : Program} {w : World} {K : PySem.W.Frag} {mg : Str → Option Value} {base : Heap}
theorem ok_init {i : Nat} (hi : i < 7) {x qual : Str} {C B f : Addr} {fd : FuncData} (R : Err K mg i x qual C f fd) (b : Bas K mg B) :
    FnOk P w K mg base CX0 1 f fd ["self", "at"] (spInit C) := by
  refine R.F.ok (sc_init i hi) (fun vs H Q E h => ?_) (fun cdv A outer s H vs Q E hr h => ?_)
  · obtain ⟨a, y, rfl, _⟩ := h
    rfl
  obtain ⟨a, y, rfl, ha, q⟩ := h
  have nd := (sc_init i hi).nd
  have cs : i = 0 ∨ i = 1 ∨ i = 2 ∨ i = 3 ∨ i = 4 ∨ i = 5 ∨ i = 6 := by omega
  rcases cs with rfl | rfl | rfl | rfl | rfl | rfl | rfl
  all_goals
    refine ⟨_, pss_cons (ps_expr (pe_ownInit (by rfl) b.g b.k b.t b.r b.ga b.fi (pa_cons (pv 0) (pa_cons pe_str pa_nil))))
      (pss_one (ps_ost (pv 0) (pv 1))), ?_⟩
    exact ⟨_, rfl, a, C, [.str _], rfl, by decide, R.T, ha, _, rfl, _, rfl, a, C, rfl, R.T, R.no, .inl ⟨ha, q⟩⟩

theorem made {C a : Addr} {y : V} {H : Hp} {R : List (Str × V) → Addr → Hp → Prop} {E : XK} (na : H a = none)
    (q : ∀ (d : Addr) (H' : Hp), Same H H' → H' d = some (.xd [("at", y)]) → R [("at", y)] d H') :
    spInit C [.ref a, y] (upd H a (exo a C none)) (fun v H2 => v = .non ∧ ∃ (d : Addr) (fs : List (Str × V)),
      H2 a = some (exo a C (some d)) ∧ H2 d = some (exd d fs) ∧ H d = none ∧ R fs d (upd (L2.del H2 a) d (.xd fs))) E := by
  refine ⟨a, y, rfl, upd_same, fun dx ndx ne => ⟨rfl, dx, [("at", y)], upd_same, by rw [upd_ne ne, upd_same], ?_, ?_⟩⟩
  · rw [upd_ne ne] at ndx
    exact ndx
  · rw [upd_ne ne] at ndx
    apply q dx _ ?_ upd_same
    intro b o e
    have n1 : b ≠ dx := ne_of_none e ndx
    have n2 : b ≠ a := ne_of_none e na
    rw [upd_ne n1, L2.del_ne n2, upd_ne n2, upd_ne n1, upd_ne n2]
    exact e

/-- what the error with a number has kept -/
def kept (at_ : Nat) (H : Hp) (d : Option Addr) (y : V) : Prop :=
  (at_ < 7 → ∃ dd, d = some dd ∧ H dd = some (.xd [("at", y)])) ∧ (7 ≤ at_ → d = none)

/-- the error with a number is raised -/
def spRaise (C : Nat → Addr) : Sp := fun vs H _ E => ∃ (n : Nat) (y : V), vs = [.int n, y] ∧ n < 8 ∧
  ∀ (d : Option Addr) (H' : Hp), Same H H' → kept n H' d y → E (.ref (C n)) d H'

/-- the rule for a def that raises, the context of what it raises being none -/
theorem okN {x qual : Str} {st : Stmt} {f : Addr} {fd : FuncData} {N ps : List Str} {k : Nat} {sp : Sp}
    (F : Fun K x qual st f fd) (S : FnScope N ps (defScope st)) (len : ∀ vs H Q E, sp vs H Q E → vs.length = ps.length)
    (body : ∀ (cdv : Value) (A : Around) (outer : List Env) (s : Shared) (H : Hp) (vs : List V) (Q : VK) (E : XK),
      Room k (A.deeper (envOfC qual (defScope st) s.heap.objs.size f cdv)) → sp vs H Q E →
      ∃ t, PSs (cxOf (L2N.CX P w) P w K mg base N qual (defScope st) f cdv A outer s H E) (defBody st) t ∧
        t { nx := fun _ H' => Q .non H', rt := Q } (start N vs) H) : FnOk P w K mg base (L2N.CX P w) (k + 1) f fd ps sp := by
  obtain ⟨oc, od, kV, doc, pm, an, cdv, ct, osl, rfl, lk, hcd⟩ := F.ex
  exact fn_of lk hcd S len fun A outer s H vs Q E hr hsp => body cdv A outer s H vs Q E hr hsp

theorem ok_raise {C F : Nat → Addr} {fds : Nat → FuncData} {xs qs : Nat → Str} {B f : Addr} {fd : FuncData}
    (D : At K mg "_law_raise" s__law_raise ["at", "thing"] f fd) (b : Bas K mg B)
    (R0 : Err K mg 0 "InvalidOrder" (qs 0) (C 0) (F 0) (fds 0)) (R1 : Err K mg 1 "InvalidText" (qs 1) (C 1) (F 1) (fds 1))
    (R2 : Err K mg 2 "InvalidProgram" (qs 2) (C 2) (F 2) (fds 2)) (R3 : Err K mg 3 "InvalidCode" (qs 3) (C 3) (F 3) (fds 3))
    (R4 : Err K mg 4 "InvalidPaper" (qs 4) (C 4) (F 4) (fds 4)) (R5 : Err K mg 5 "InvalidQuestion" (qs 5) (C 5) (F 5) (fds 5))
    (R6 : Err K mg 6 "Refused" (qs 6) (C 6) (F 6) (fds 6))
    (g7 : mg "InvalidCommand" = some (.ref (C 7))) (k7 : PySem.W.keepIn K (.ref (C 7)) = true)
    (x7 : PySem.W.excIn K (C 7) [.type "ValueError", .type "Exception", .type "BaseException", .type "object"] "ValueError.__new__" = true)
    (b7 : PySem.W.subIn K (.ref (C 7)) (.type "BaseException") = some true) (t7 : PySem.W.typeIn K (.ref (C 7)) = some (.type "type")) :
    FnOk P w K mg base (L2N.CX P w) 3 f fd ["at", "thing"] (spRaise C) := by
  have G0 := ok_init (P := P) (w := w) (base := base) (by decide) R0 b
  have G1 := ok_init (P := P) (w := w) (base := base) (by decide) R1 b
  have G2 := ok_init (P := P) (w := w) (base := base) (by decide) R2 b
  have G3 := ok_init (P := P) (w := w) (base := base) (by decide) R3 b
  have G4 := ok_init (P := P) (w := w) (base := base) (by decide) R4 b
  have G5 := ok_init (P := P) (w := w) (base := base) (by decide) R5 b
  have G6 := ok_init (P := P) (w := w) (base := base) (by decide) R6 b
  refine okN D.F sc__law_raise (fun vs H Q E h => ?_) (fun cdv A outer s H vs Q E hr h => ?_)
  · obtain ⟨n, y, rfl, _⟩ := h
    rfl
  obtain ⟨n, y, rfl, hn, q⟩ := h
  have tk := L2N.takes_of (X := cxOf (L2N.CX P w) P w K mg base ["at", "thing"] "_law_raise" (defScope s__law_raise) f cdv A outer s H E) rfl rfl rfl rfl
  refine ⟨_, (pss_cons (ps_if (pt_cmp (pc_eqI (pv 0) pe_int)) (pss_one (L2N.ps_raise rfl tk (pmk_oexN R0.T R0.iC R0.tI G0 hr R0.b pass0 (by rfl) R0.g (pa_cons (pv 1) pa_nil)))) pss_nil)
    (pss_cons (ps_if (pt_cmp (pc_eqI (pv 0) pe_int)) (pss_one (L2N.ps_raise rfl tk (pmk_oexN R1.T R1.iC R1.tI G1 hr R1.b pass0 (by rfl) R1.g (pa_cons (pv 1) pa_nil)))) pss_nil)
    (pss_cons (ps_if (pt_cmp (pc_eqI (pv 0) pe_int)) (pss_one (L2N.ps_raise rfl tk (pmk_oexN R2.T R2.iC R2.tI G2 hr R2.b pass0 (by rfl) R2.g (pa_cons (pv 1) pa_nil)))) pss_nil)
    (pss_cons (ps_if (pt_cmp (pc_eqI (pv 0) pe_int)) (pss_one (L2N.ps_raise rfl tk (pmk_oexN R3.T R3.iC R3.tI G3 hr R3.b pass0 (by rfl) R3.g (pa_cons (pv 1) pa_nil)))) pss_nil)
    (pss_cons (ps_if (pt_cmp (pc_eqI (pv 0) pe_int)) (pss_one (L2N.ps_raise rfl tk (pmk_oexN R4.T R4.iC R4.tI G4 hr R4.b pass0 (by rfl) R4.g (pa_cons (pv 1) pa_nil)))) pss_nil)
    (pss_cons (ps_if (pt_cmp (pc_eqI (pv 0) pe_int)) (pss_one (L2N.ps_raise rfl tk (pmk_oexN R5.T R5.iC R5.tI G5 hr R5.b pass0 (by rfl) R5.g (pa_cons (pv 1) pa_nil)))) pss_nil)
    (pss_cons (ps_if (pt_cmp (pc_eqI (pv 0) pe_int)) (pss_one (L2N.ps_raise rfl tk (pmk_oexN R6.T R6.iC R6.tI G6 hr R6.b pass0 (by rfl) R6.g (pa_cons (pv 1) pa_nil)))) pss_nil)
    (pss_one (L2N.ps_raise rfl tk (pmk_own0N PySem.F.excBase_ValueError x7 g7 k7 (raises_own b7 t7) (by rfl))))))))))), ?_⟩
  have cs : n = 0 ∨ n = 1 ∨ n = 2 ∨ n = 3 ∨ n = 4 ∨ n = 5 ∨ n = 6 ∨ n = 7 := by omega
  have yes : ∀ m : Nat, m < 7 → ∀ (d : Addr) (H' : Hp), Same H H' → H' d = some (.xd [("at", y)]) → kept m H' (some d) y :=
    fun m hm d H' _ e => ⟨fun _ => ⟨d, rfl, e⟩, fun z => absurd hm (by omega)⟩
  rcases cs with rfl | rfl | rfl | rfl | rfl | rfl | rfl | rfl
  · exact ⟨_, rfl, _, _, rfl, rfl, _, rfl, iteTe (by decide) ⟨_, rfl, (show (1 : Nat) ≤ 1000 by decide), fun a na => made na fun d H2 s2 e2 => q (some d) H2 s2 (yes 0 (by decide) d H2 s2 e2)⟩⟩
  · exact ⟨_, rfl, _, _, rfl, rfl, _, rfl, iteFe (by decide) ⟨_, rfl, _, _, rfl, rfl, _, rfl, iteTe (by decide) ⟨_, rfl, (show (1 : Nat) ≤ 1000 by decide), fun a na => made na fun d H2 s2 e2 => q (some d) H2 s2 (yes 1 (by decide) d H2 s2 e2)⟩⟩⟩
  · exact ⟨_, rfl, _, _, rfl, rfl, _, rfl, iteFe (by decide) ⟨_, rfl, _, _, rfl, rfl, _, rfl, iteFe (by decide) ⟨_, rfl, _, _, rfl, rfl, _, rfl, iteTe (by decide) ⟨_, rfl, (show (1 : Nat) ≤ 1000 by decide), fun a na => made na fun d H2 s2 e2 => q (some d) H2 s2 (yes 2 (by decide) d H2 s2 e2)⟩⟩⟩⟩
  · exact ⟨_, rfl, _, _, rfl, rfl, _, rfl, iteFe (by decide) ⟨_, rfl, _, _, rfl, rfl, _, rfl, iteFe (by decide) ⟨_, rfl, _, _, rfl, rfl, _, rfl, iteFe (by decide) ⟨_, rfl, _, _, rfl, rfl, _, rfl, iteTe (by decide) ⟨_, rfl, (show (1 : Nat) ≤ 1000 by decide), fun a na => made na fun d H2 s2 e2 => q (some d) H2 s2 (yes 3 (by decide) d H2 s2 e2)⟩⟩⟩⟩⟩
  · exact ⟨_, rfl, _, _, rfl, rfl, _, rfl, iteFe (by decide) ⟨_, rfl, _, _, rfl, rfl, _, rfl, iteFe (by decide) ⟨_, rfl, _, _, rfl, rfl, _, rfl, iteFe (by decide) ⟨_, rfl, _, _, rfl, rfl, _, rfl, iteFe (by decide) ⟨_, rfl, _, _, rfl, rfl, _, rfl, iteTe (by decide) ⟨_, rfl, (show (1 : Nat) ≤ 1000 by decide), fun a na => made na fun d H2 s2 e2 => q (some d) H2 s2 (yes 4 (by decide) d H2 s2 e2)⟩⟩⟩⟩⟩⟩
  · exact ⟨_, rfl, _, _, rfl, rfl, _, rfl, iteFe (by decide) ⟨_, rfl, _, _, rfl, rfl, _, rfl, iteFe (by decide) ⟨_, rfl, _, _, rfl, rfl, _, rfl, iteFe (by decide) ⟨_, rfl, _, _, rfl, rfl, _, rfl, iteFe (by decide) ⟨_, rfl, _, _, rfl, rfl, _, rfl, iteFe (by decide) ⟨_, rfl, _, _, rfl, rfl, _, rfl, iteTe (by decide) ⟨_, rfl, (show (1 : Nat) ≤ 1000 by decide), fun a na => made na fun d H2 s2 e2 => q (some d) H2 s2 (yes 5 (by decide) d H2 s2 e2)⟩⟩⟩⟩⟩⟩⟩
  · exact ⟨_, rfl, _, _, rfl, rfl, _, rfl, iteFe (by decide) ⟨_, rfl, _, _, rfl, rfl, _, rfl, iteFe (by decide) ⟨_, rfl, _, _, rfl, rfl, _, rfl, iteFe (by decide) ⟨_, rfl, _, _, rfl, rfl, _, rfl, iteFe (by decide) ⟨_, rfl, _, _, rfl, rfl, _, rfl, iteFe (by decide) ⟨_, rfl, _, _, rfl, rfl, _, rfl, iteFe (by decide) ⟨_, rfl, _, _, rfl, rfl, _, rfl, iteTe (by decide) ⟨_, rfl, (show (1 : Nat) ≤ 1000 by decide), fun a na => made na fun d H2 s2 e2 => q (some d) H2 s2 (yes 6 (by decide) d H2 s2 e2)⟩⟩⟩⟩⟩⟩⟩⟩
  · exact ⟨_, rfl, _, _, rfl, rfl, _, rfl, iteFe (by decide) ⟨_, rfl, _, _, rfl, rfl, _, rfl, iteFe (by decide) ⟨_, rfl, _, _, rfl, rfl, _, rfl, iteFe (by decide) ⟨_, rfl, _, _, rfl, rfl, _, rfl, iteFe (by decide) ⟨_, rfl, _, _, rfl, rfl, _, rfl, iteFe (by decide) ⟨_, rfl, _, _, rfl, rfl, _, rfl, iteFe (by decide) ⟨_, rfl, _, _, rfl, rfl, _, rfl, iteFe (by decide) (q none H (fun _ _ e => e) ⟨fun z => absurd z (by decide), fun _ => rfl⟩)⟩⟩⟩⟩⟩⟩⟩
end
end K00
end

section
set_option maxHeartbeats 2000000
namespace K00
open PySem PySem.Spec PyProof.Rows L2 L2H Zc

def names (k : Nat) : Str := match k with
  | 0 => "InvalidOrder"
  | 1 => "InvalidText"
  | 2 => "InvalidProgram"
  | 3 => "InvalidCode"
  | 4 => "InvalidPaper"
  | 5 => "InvalidQuestion"
  | 6 => "Refused"
  | _ => "InvalidCommand"
def mark (n k : Nat) : V := .bl (decide (n = k))
def marks (n : Nat) : List V := [mark n 0, mark n 1, mark n 2, mark n 3, mark n 4, mark n 5, mark n 6, mark n 7]
def spMarks (C : Nat → Addr) : Value → Option Addr → Sp := fun cls d vs H Q _ => ∃ (a : Addr) (n : Nat) (y : V), vs = [.ref a] ∧ n < 8 ∧
  cls = .ref (C n) ∧ kept n H d y ∧ ∀ D H', Same H H' → H D = none → H' D = some (.lst (marks n)) → Q (.ref D) H'

theorem none_of_same {H H' : Hp} {D : Addr} (s : Same H H') (h : H' D = none) : H D = none := by
  cases e : H D with
  | none => rfl
  | some o =>
    rw [s _ _ e] at h
    cases h

section
variable {P : Program} {w : World} {K : PySem.W.Frag} {mg : Str → Option Value} {base : Heap}
theorem kept.dict {n : Nat} {H : Hp} {d : Option Addr} {y : V} (h : kept n H d y) : ∀ H', Same H H' → ∀ dd, d = some dd → ∃ fs, H' dd = some (.xd fs) := by
  rintro H' s dd rfl
  by_cases c : n < 7
  · obtain ⟨d2, e, z⟩ := h.1 c
    cases e
    exact ⟨_, s _ _ z⟩
  · cases h.2 (by omega)
theorem ok_marks {C : Nat → Addr} {f : Addr} {fd : FuncData} (D : At K mg "_law_marks" s__law_marks ["e"] f fd)
    (cE : ∀ n, n < 8 → ExcC K (C n)) (cG : ∀ k, k < 8 → mg (names k) = some (.ref (C k)))
    (kt : ∀ n k, n < 8 → k < 8 → PySem.W.kitOne K (.ref (C n)) (.ref (C k)) = some (decide (n = k))) (ms : mg "isinstance" = none) :
    FnE P w K mg base (L2N.CX P w) 1 f fd ["e"] (spMarks C) := by
  refine fnE_ok D.F sc__law_marks rfl ?_
  rintro cdv A outer s H Q E p cls d hot hz hr ⟨a, n, y, ea, hn, rfl, hk, q⟩
  have hd := hk.dict
  have nd := sc__law_marks.nd
  obtain ⟨hh, vs, hv, _⟩ := hot
  have hf : ∃ vs, p.2.data = .fields vs := ⟨vs, hv⟩
  have hpn : (p.1, p.2) ∈ (cxH (L2N.CX P w) P w K mg base ["e", "found"] "_law_marks" (defScope s__law_marks) f cdv A outer s H E p).pn := List.mem_cons_self
  refine ⟨_, pss_cons (ps_set (i := 1) nd rfl (.inl rfl) (pe_lst (pa_cons (pe_callB (call_isX (cE n hn) hz hf hpn) (by rfl) ms boot_isinstance (pa_cons (pv 0) (pa_cons (pe_glob (v := .ref (C 0)) (by rfl) (cG 0 (by decide)) rfl) pa_nil))) (pa_cons (pe_callB (call_isX (cE n hn) hz hf hpn) (by rfl) ms boot_isinstance (pa_cons (pv 0) (pa_cons (pe_glob (v := .ref (C 1)) (by rfl) (cG 1 (by decide)) rfl) pa_nil))) (pa_cons (pe_callB (call_isX (cE n hn) hz hf hpn) (by rfl) ms boot_isinstance (pa_cons (pv 0) (pa_cons (pe_glob (v := .ref (C 2)) (by rfl) (cG 2 (by decide)) rfl) pa_nil))) (pa_cons (pe_callB (call_isX (cE n hn) hz hf hpn) (by rfl) ms boot_isinstance (pa_cons (pv 0) (pa_cons (pe_glob (v := .ref (C 3)) (by rfl) (cG 3 (by decide)) rfl) pa_nil))) pa_nil))))))
    (pss_one (ps_ret (pe_op op_cat (pv 1) (pe_lst (pa_cons (pe_callB (call_isX (cE n hn) hz hf hpn) (by rfl) ms boot_isinstance (pa_cons (pv 0) (pa_cons (pe_glob (v := .ref (C 4)) (by rfl) (cG 4 (by decide)) rfl) pa_nil))) (pa_cons (pe_callB (call_isX (cE n hn) hz hf hpn) (by rfl) ms boot_isinstance (pa_cons (pv 0) (pa_cons (pe_glob (v := .ref (C 5)) (by rfl) (cG 5 (by decide)) rfl) pa_nil))) (pa_cons (pe_callB (call_isX (cE n hn) hz hf hpn) (by rfl) ms boot_isinstance (pa_cons (pv 0) (pa_cons (pe_glob (v := .ref (C 6)) (by rfl) (cG 6 (by decide)) rfl) pa_nil))) (pa_cons (pe_callB (call_isX (cE n hn) hz hf hpn) (by rfl) ms boot_isinstance (pa_cons (pv 0) (pa_cons (pe_glob (v := .ref (C 7)) (by rfl) (cG 7 (by decide)) rfl) pa_nil))) pa_nil)))))))), ?_⟩
  refine ⟨_, rfl, _, _, _, rfl, fun u r => r, kt n 0 hn (by decide), hd _ (fun _ _ e => e), ⟨_, rfl, _, _, _, rfl, fun u r => r, kt n 1 hn (by decide), hd _ (fun _ _ e => e), ⟨_, rfl, _, _, _, rfl, fun u r => r, kt n 2 hn (by decide), hd _ (fun _ _ e => e), ⟨_, rfl, _, _, _, rfl, fun u r => r, kt n 3 hn (by decide), hd _ (fun _ _ e => e), ⟨by show 4 ≤ sizeLine; decide, fun b nb => ?_⟩⟩⟩⟩⟩
  have s1 := same_new (o := .lst [mark n 0, mark n 1, mark n 2, mark n 3]) nb
  refine ⟨_, rfl, ⟨_, rfl, _, _, _, rfl, fun u r => r, kt n 4 hn (by decide), hd _ s1, ⟨_, rfl, _, _, _, rfl, fun u r => r, kt n 5 hn (by decide), hd _ s1, ⟨_, rfl, _, _, _, rfl, fun u r => r, kt n 6 hn (by decide), hd _ s1, ⟨_, rfl, _, _, _, rfl, fun u r => r, kt n 7 hn (by decide), hd _ s1, ⟨by show 4 ≤ sizeLine; decide, fun c nc => ?_⟩⟩⟩⟩⟩⟩
  have s2 := s1.trans (same_new (o := .lst [mark n 4, mark n 5, mark n 6, mark n 7]) nc)
  refine ⟨b, c, _, _, rfl, rfl, same_new nc _ _ upd_same, upd_same, by show 8 ≤ sizeLine; decide, fun D nD => ?_⟩
  exact q D _ (s2.trans (same_new nD)) (none_of_same s2 nD) upd_same
end
end K00
end

section
set_option maxHeartbeats 2000000
namespace K00
open PySem PySem.Spec PyProof.Rows L2 L2H Zc

def spHeard (K : PySem.W.Frag) : Sp := fun vs H Q _ => ∃ (n : Nat) (y : V) (t : Str), vs = [.int n, y] ∧ n < 8 ∧ Shows K H y t ∧
  ∀ H', Same H H' → Q (.bl true) H'

def marksD (n : Nat) : List PyData := [.bool (decide (n = 0)), .bool (decide (n = 1)), .bool (decide (n = 2)), .bool (decide (n = 3)),
  .bool (decide (n = 4)), .bool (decide (n = 5)), .bool (decide (n = 6)), .bool (decide (n = 7))]
theorem dp_marks {K : PySem.W.Frag} {H : Hp} (n : Nat) : DpAll K H (marks n) (marksD n) :=
  .cons (.bl _) (.cons (.bl _) (.cons (.bl _) (.cons (.bl _) (.cons (.bl _) (.cons (.bl _) (.cons (.bl _) (.cons (.bl _) .nil)))))))
theorem eqv_marks : ∀ n : Nat, n < 8 → PyData.eqv (.list (marksD n)) (.list (marksD n)) = true := by decide +kernel
theorem dep_marks (n : Nat) : (PyData.list (marksD n)).depth ≤ 64 := by
  simp [marksD, PyData.depth, PyData.depthAll]
/-- the reading of the suite -/
def tsHeard (K : PySem.W.Frag) (C : Nat → Addr) (a : Addr) (cls : Value) (d : Option Addr) : TS :=
  tSeq (tIfS (tOr (tTest (tOp (rNeD K) (tCallE a cls d (spMarks C) (fun _ _ _ _ => False) (tCons (tVar 2) tNil))
      (tLc (iRng1 (tCons (tC (.int 8)) tNil)) (gName 3) tYes (tEqI (tVar 3) (tVar 0)) [3])))
    (tNot (tB (tCB (rIsY K cls a d) (tCons (tVar 2) (tCons (tC (.ty "ValueError")) tNil))))))
    (tRet (tC (.bl false))) tNext)
  (tRet (tOrV (tGt (tVar 0) (tC (.int 6))) (tOp rEq (tCB (rShows K) (tCons (tXfY K a cls d "at" (tVar 2)) tNil)) (tCB (rShows K) (tCons (tVar 1) tNil)))))

section
variable {P : Program} {w : World} {K : PySem.W.Frag} {mg : Str → Option Value} {base : Heap}
theorem ok_heard {C : Nat → Addr} {B f fR fM : Addr} {fd fdR fdM : FuncData} (D : At K mg "_law_heard" s__law_heard ["at", "thing"] f fd)
    (DR : At K mg "_law_raise" s__law_raise ["at", "thing"] fR fdR) (DM : At K mg "_law_marks" s__law_marks ["e"] fM fdM)
    (GR : FnOk P w K mg base (L2N.CX P w) 3 fR fdR ["at", "thing"] (spRaise C)) (GM : FnE P w K mg base (L2N.CX P w) 1 fM fdM ["e"] (spMarks C))
    (b : Bas K mg B) (cE : ∀ n, n < 8 → ExcC K (C n)) (cX : ∀ n, n < 8 → XfC K (C n)) (cN : ∀ n, n < 8 → PySem.W.findIn K (.ref (C n)) "at" = some none)
    (kV : ∀ n, n < 8 → PySem.W.kitOne K (.ref (C n)) (.type "ValueError") = some true) (xB : ∀ n, n < 8 → PySem.W.exmOne K (.ref (C n)) (.ref B) = some true)
    (ms : mg "isinstance" = none) (mV : mg "ValueError" = none) (mr : mg "range" = none) (mp : mg "repr" = none) :
    FnG P w K mg base 4 f fd ["at", "thing"] (spHeard K) := by
  refine fnG_ok D.F sc__law_heard (fun vs H Q E h => ?_) (fun cdv A outer s H vs Q E hr hg h => ?_)
  · obtain ⟨n, y, t, rfl, _⟩ := h
    rfl
  obtain ⟨n, y, t, rfl, hn, hs, q⟩ := h
  have hu := hr.units
  have nd := sc__law_heard.nd
  refine ⟨_, pss_cons (L2N.ps_try_as (i := 2) rfl rfl nd rfl rfl ⟨by rfl, by decide, .inl b.g⟩ takesN
      (fun W pn xe tk _ => pss_one (ps_expr (pe_callS GR hr (by rfl) DR.g DR.F.kp DR.b (fun σ => L2N.passAt tk σ) (pa_cons (pv 0) (pa_cons (pv 1) pa_nil)))))
      (ts := tsHeard K C)
      (fun a oe cls d pn hz hf => ?su)) (pss_one (ps_ret pe_bl)), ?_⟩
  case su =>
    obtain ⟨vs, hv⟩ := hf
    have hot : Hot1 ((cxOf CX0 P w K mg base ["at", "thing", "e", "spot"] "_law_heard" (defScope s__law_heard) f cdv A outer s H E).nox.suite a ((a, oe) :: pn)).A (a, oe) :=
      ⟨rfl, vs, hv, hz.2.2 vs hv⟩
    have hf : ∃ vs, oe.data = .fields vs := ⟨vs, hv⟩
    have hpn : (a, oe) ∈ ((cxOf CX0 P w K mg base ["at", "thing", "e", "spot"] "_law_heard" (defScope s__law_heard) f cdv A outer s H E).nox.suite a ((a, oe) :: pn)).pn := List.mem_cons_self
    unfold tsHeard
    exact pss_cons (ps_if (PW.pt (pw_or (pt_cmpR (op_neD hu) (pe_callEa GM rfl ((roomH_mark hr _).mono (by decide)) hot hpn hz.zc (by rfl) DM.g DM.F.kp DM.b passN (pa_cons (pv 2) pa_nil))
        (pe_lcH (own := [("spot", 3)]) (g := gName 3) (tt := tYes) ⟨_, hot, hpn⟩ nd (pi_range1H (by rfl) mr (pa_cons pe_int pa_nil))
          (blkOk_by (own := [("spot", 3)]) (N := ["at", "thing", "e", "spot"]) (sc := defScope s__law_heard) (by decide +kernel))
          (fun _ _ _ _ _ => pg_name (i := 3) nd rfl (Or.inl rfl)) (fun _ _ _ _ _ => pts_nil) (fun _ _ _ _ _ => pe_cmp (pc_eqI (pv 3) (pv 0)))) (nomark _))
        (pw_or1 (pt_not (pt_val (pe_callB (call_isY hz.zc hf hpn) (by rfl) ms boot_isinstance (pa_cons (pv 2) (pa_cons (pe_bltn (v := .ty "ValueError") (by rfl) mV PyProof.Rows.Boot.«ValueError» rfl) pa_nil))))))))
      (pss_one (ps_ret pe_bl)) pss_nil)
      (pss_one (ps_ret (pe_or (pe_cmp (pc_gt (pv 0) pe_int)) (pe_one (pe_cmpR op_eq (pe_callB (call_shows hg hu) (by rfl) mp PyProof.Rows.boot_repr (pa_cons (pe_xfY hz.zc hf hpn (pv 2)) pa_nil))
        (pe_callB (call_shows hg hu) (by rfl) mp PyProof.Rows.boot_repr (pa_cons (pv 1) pa_nil)) (nomark _))))))
  refine ⟨_, rfl, _, rfl, n, y, rfl, hn, fun d H1 s1 hk => ⟨true, xB n hn, fun _ a na => ?_, fun z => (by cases z)⟩⟩
  unfold tsHeard
  refine ⟨_, rfl, rfl, a, n, y, rfl, hn, rfl, hk, fun D H2 s2 nD hD => ⟨8, rfl, by decide, by decide, fun D2 nD2 => ?_⟩⟩
  refine lc_range (lo := 0) (n := 8) (fun i H' => ∃ l, H' = upd H2 D2 (.lst l) ∧ l = (marks n).take i) ⟨_, rfl, rfl⟩ ?_ ?_
  · rintro i H3 hi ⟨l, rfl, rfl⟩
    refine ⟨rfl, _, rfl, _, rfl, _, _, rfl, rfl, _, upd_same, ?_, _, upd_upd, ?_⟩
    · rw [List.length_take]
      have : (8 : Nat) < sizeLine := by decide
      omega
    · have e : V.bl (decide ((0 : Int) + (i : Int) = (n : Int))) = mark n i := by
        unfold mark
        rw [decide_eq_decide.mpr (show (0 : Int) + (i : Int) = (n : Int) ↔ n = i by omega)]
      rw [e]
      have cs : i = 0 ∨ i = 1 ∨ i = 2 ∨ i = 3 ∨ i = 4 ∨ i = 5 ∨ i = 6 ∨ i = 7 := by omega
      rcases cs with rfl | rfl | rfl | rfl | rfl | rfl | rfl | rfl <;> rfl
  · rintro H3 ⟨l, rfl, rfl⟩
    have s3 := same_new (o := .lst ((marks n).take 8)) nD2
    have s13 := (s1.trans s2).trans s3
    refine ne_ans (.lst (.inl (.inl (s3 _ _ hD))) (dp_marks n)) (.lst (.inl (.inl upd_same)) (dp_marks n)) (by rfl) (by rfl) (dep_marks n) (dep_marks n) ?_
    rw [eqv_marks n hn]
    refine ⟨_, rfl, iteF ⟨_, rfl, _, rfl, cE n hn, _, _, true, rfl, fun u r => r, kV n hn, hk.dict _ (s2.trans s3), ?_⟩⟩
    refine ⟨true, rfl, iteF ⟨_, rfl, _, _, rfl, rfl, _, rfl, ?_⟩⟩
    by_cases c : n < 7
    · refine iteFe (decide_eq_false (by omega)) ?_
      obtain ⟨dd, rfl, hdd⟩ := hk.1 c
      refine ⟨_, rfl, rfl, C n, dd, _, y, rfl, cX n hn, cN n hn, rfl, (s2.trans s3) _ _ hdd, rfl, y, t, rfl, hs.same s13, _, rfl, y, t, rfl, hs.same s13, rfl, ?_⟩
      rw [decide_eq_true (rfl : V.str t = V.str t)]
      exact q _ s13
    · refine iteTe (decide_eq_true (by omega)) ?_
      exact q _ s13
end
end K00
end

section
set_option maxHeartbeats 2000000
namespace K00
open PySem PySem.Spec PyProof.Rows L2 L2H Zc

theorem call_showsK {X : Cx} (K : PySem.W.Frag) (h : X.K = K) (hg : X.A.guards = some []) (hu : X.A.units + 64 < cLine) :
    CallR X (.builtin "repr") (rShows K) := h ▸ call_shows hg hu
def spNamed (K : PySem.W.Frag) : Sp := fun vs H Q _ => ∃ (y : V) (t : Str), vs = [y] ∧ Shows K H y t ∧ ∀ H', Same H H' → Q (.bl true) H'
theorem made_nd {C a dx : Addr} {H : Hp} (e : dx ≠ a) (m : (upd H a (exo a C none)) dx = none) : H dx = none := by
  rw [upd_ne e] at m
  exact m
theorem made_same {C a dx : Addr} {y : V} {H : Hp} (na : H a = none) (nd : H dx = none) :
    Same H (upd (L2.del (upd (upd (upd H a (exo a C none)) dx (exd dx [("at", y)])) a (exo a C (some dx))) a) dx (.xd [("at", y)])) := by
  intro b o e
  have n1 : b ≠ dx := ne_of_none e nd
  have n2 : b ≠ a := ne_of_none e na
  rw [upd_ne n1, L2.del_ne n2, upd_ne n2, upd_ne n1, upd_ne n2]
  exact e
section
variable {P : Program} {w : World} {K : PySem.W.Frag} {mg : Str → Option Value} {base : Heap}
theorem ok_named {C F : Nat → Addr} {fds : Nat → FuncData} {qs : Nat → Str} {B f : Addr} {fd : FuncData}
    (D : At K mg "_law_named" s__law_named ["thing"] f fd) (b : Bas K mg B)
    (R0 : Err K mg 0 "InvalidOrder" (qs 0) (C 0) (F 0) (fds 0)) (R1 : Err K mg 1 "InvalidText" (qs 1) (C 1) (F 1) (fds 1))
    (R2 : Err K mg 2 "InvalidProgram" (qs 2) (C 2) (F 2) (fds 2)) (R3 : Err K mg 3 "InvalidCode" (qs 3) (C 3) (F 3) (fds 3))
    (R4 : Err K mg 4 "InvalidPaper" (qs 4) (C 4) (F 4) (fds 4)) (R5 : Err K mg 5 "InvalidQuestion" (qs 5) (C 5) (F 5) (fds 5))
    (R6 : Err K mg 6 "Refused" (qs 6) (C 6) (F 6) (fds 6)) (mp : mg "repr" = none) :
    FnG P w K mg base 3 f fd ["thing"] (spNamed K) := by
  have G0 := ok_init (P := P) (w := w) (base := base) (by decide) R0 b
  have G1 := ok_init (P := P) (w := w) (base := base) (by decide) R1 b
  have G2 := ok_init (P := P) (w := w) (base := base) (by decide) R2 b
  have G3 := ok_init (P := P) (w := w) (base := base) (by decide) R3 b
  have G4 := ok_init (P := P) (w := w) (base := base) (by decide) R4 b
  have G5 := ok_init (P := P) (w := w) (base := base) (by decide) R5 b
  have G6 := ok_init (P := P) (w := w) (base := base) (by decide) R6 b
  refine fnG_ok D.F sc__law_named (fun vs H Q E h => ?_) (fun cdv A outer s H vs Q E hr hg h => ?_)
  · obtain ⟨y, t, rfl, _⟩ := h
    rfl
  obtain ⟨y, t, rfl, hs, q⟩ := h
  have hu := hr.units
  have nd := sc__law_named.nd
  refine ⟨_, pss_cons (ps_set (i := 1) nd rfl (.inl rfl) (pe_lst (pa_cons (pe_mkAt (ks := [("at" : Str)]) R0.T R0.X R0.no R0.iC R0.tI G0 hr R0.kb rfl pass0 (by rfl) R0.g (pk_cons (pv 0) pk_nil)) (pa_cons (pe_mkAt (ks := [("at" : Str)]) R1.T R1.X R1.no R1.iC R1.tI G1 hr R1.kb rfl pass0 (by rfl) R1.g (pk_cons (pv 0) pk_nil)) (pa_cons (pe_mkAt (ks := [("at" : Str)]) R2.T R2.X R2.no R2.iC R2.tI G2 hr R2.kb rfl pass0 (by rfl) R2.g (pk_cons (pv 0) pk_nil)) (pa_cons (pe_mkAt (ks := [("at" : Str)]) R3.T R3.X R3.no R3.iC R3.tI G3 hr R3.kb rfl pass0 (by rfl) R3.g (pk_cons (pv 0) pk_nil)) pa_nil))))))
    (pss_cons (ps_set (i := 1) nd rfl (.inl rfl) (pe_op op_cat (pv 1) (pe_lst (pa_cons (pe_mkAt (ks := [("at" : Str)]) R4.T R4.X R4.no R4.iC R4.tI G4 hr R4.kb rfl pass0 (by rfl) R4.g (pk_cons (pv 0) pk_nil)) (pa_cons (pe_mkAt (ks := [("at" : Str)]) R5.T R5.X R5.no R5.iC R5.tI G5 hr R5.kb rfl pass0 (by rfl) R5.g (pk_cons (pv 0) pk_nil)) (pa_cons (pe_mkAt (ks := [("at" : Str)]) R6.T R6.X R6.no R6.iC R6.tI G6 hr R6.kb rfl pass0 (by rfl) R6.g (pk_cons (pv 0) pk_nil)) pa_nil))))))
    (pss_one (ps_ret (pe_cmpR (op_eqD hu) (pe_lc (own := [("one", 2)]) (g := gName 2) (by rfl) nd (pi_list (pv 1))
      (blkOk_by (own := [("one", 2)]) (N := ["thing", "made", "one"]) (sc := defScope s__law_named) (by decide +kernel))
      (fun _ _ _ _ _ => pg_name (i := 2) nd rfl (Or.inl rfl))
      (fun _ _ _ _ _ => pts_one (pt_cmpR op_ne (pe_callB (call_showsK K rfl hg hu) (by rfl) mp PyProof.Rows.boot_repr (pa_cons (pv 2) pa_nil))
        (pe_callB (call_showsK K rfl hg hu) (by rfl) mp PyProof.Rows.boot_repr (pa_cons (pv 0) pa_nil)) (nomark _)))
      (fun _ _ _ _ _ => pv 2)) (pe_lst pa_nil) (nomark _))))), ?_⟩
  refine ⟨_, rfl, fun a1 n1 => ⟨a1, y, rfl, upd_same, fun d1 m1 e1 => ⟨rfl, d1, [("at", y)], y, upd_same, by rw [upd_ne e1, upd_same], made_nd e1 m1, rfl, ?_⟩⟩⟩
  have s1 := made_same (C := C 0) (y := y) n1 (made_nd e1 m1)
  generalize upd (L2.del (upd (upd (upd H a1 (exo a1 (C 0) none)) d1 (exd d1 [("at", y)])) a1 (exo a1 (C 0) (some d1))) a1) d1 (.xd [("at", y)]) = H1 at s1 ⊢
  refine ⟨_, rfl, fun a2 n2 => ⟨a2, y, rfl, upd_same, fun d2 m2 e2 => ⟨rfl, d2, [("at", y)], y, upd_same, by rw [upd_ne e2, upd_same], made_nd e2 m2, rfl, ?_⟩⟩⟩
  have s2 := made_same (C := C 1) (y := y) n2 (made_nd e2 m2)
  generalize upd (L2.del (upd (upd (upd H1 a2 (exo a2 (C 1) none)) d2 (exd d2 [("at", y)])) a2 (exo a2 (C 1) (some d2))) a2) d2 (.xd [("at", y)]) = H2 at s2 ⊢
  refine ⟨_, rfl, fun a3 n3 => ⟨a3, y, rfl, upd_same, fun d3 m3 e3 => ⟨rfl, d3, [("at", y)], y, upd_same, by rw [upd_ne e3, upd_same], made_nd e3 m3, rfl, ?_⟩⟩⟩
  have s3 := made_same (C := C 2) (y := y) n3 (made_nd e3 m3)
  generalize upd (L2.del (upd (upd (upd H2 a3 (exo a3 (C 2) none)) d3 (exd d3 [("at", y)])) a3 (exo a3 (C 2) (some d3))) a3) d3 (.xd [("at", y)]) = H3 at s3 ⊢
  refine ⟨_, rfl, fun a4 n4 => ⟨a4, y, rfl, upd_same, fun d4 m4 e4 => ⟨rfl, d4, [("at", y)], y, upd_same, by rw [upd_ne e4, upd_same], made_nd e4 m4, rfl, ?_⟩⟩⟩
  have s4 := made_same (C := C 3) (y := y) n4 (made_nd e4 m4)
  generalize upd (L2.del (upd (upd (upd H3 a4 (exo a4 (C 3) none)) d4 (exd d4 [("at", y)])) a4 (exo a4 (C 3) (some d4))) a4) d4 (.xd [("at", y)]) = H4 at s4 ⊢
  refine ⟨by show 4 ≤ sizeLine; decide, fun p np => ?_⟩
  have t1 := (((s1.trans s2).trans s3).trans s4).trans (same_new (o := .lst [y, y, y, y]) np)
  have hp : (upd H4 p (.lst [y, y, y, y])) p = some (.lst [y, y, y, y]) := upd_same
  generalize upd H4 p (.lst [y, y, y, y]) = HH at t1 hp ⊢
  refine ⟨_, rfl, ?_⟩
  refine ⟨_, rfl, fun a5 n5 => ⟨a5, y, rfl, upd_same, fun d5 m5 e5 => ⟨rfl, d5, [("at", y)], y, upd_same, by rw [upd_ne e5, upd_same], made_nd e5 m5, rfl, ?_⟩⟩⟩
  have s5 := made_same (C := C 4) (y := y) n5 (made_nd e5 m5)
  generalize upd (L2.del (upd (upd (upd HH a5 (exo a5 (C 4) none)) d5 (exd d5 [("at", y)])) a5 (exo a5 (C 4) (some d5))) a5) d5 (.xd [("at", y)]) = H5 at s5 ⊢
  refine ⟨_, rfl, fun a6 n6 => ⟨a6, y, rfl, upd_same, fun d6 m6 e6 => ⟨rfl, d6, [("at", y)], y, upd_same, by rw [upd_ne e6, upd_same], made_nd e6 m6, rfl, ?_⟩⟩⟩
  have s6 := made_same (C := C 5) (y := y) n6 (made_nd e6 m6)
  generalize upd (L2.del (upd (upd (upd H5 a6 (exo a6 (C 5) none)) d6 (exd d6 [("at", y)])) a6 (exo a6 (C 5) (some d6))) a6) d6 (.xd [("at", y)]) = H6 at s6 ⊢
  refine ⟨_, rfl, fun a7 n7 => ⟨a7, y, rfl, upd_same, fun d7 m7 e7 => ⟨rfl, d7, [("at", y)], y, upd_same, by rw [upd_ne e7, upd_same], made_nd e7 m7, rfl, ?_⟩⟩⟩
  have s7 := made_same (C := C 6) (y := y) n7 (made_nd e7 m7)
  generalize upd (L2.del (upd (upd (upd H6 a7 (exo a7 (C 6) none)) d7 (exd d7 [("at", y)])) a7 (exo a7 (C 6) (some d7))) a7) d7 (.xd [("at", y)]) = H7 at s7 ⊢
  refine ⟨by show 3 ≤ sizeLine; decide, fun p2 np2 => ?_⟩
  have s8 := ((s5.trans s6).trans s7).trans (same_new (o := .lst [y, y, y]) np2)
  have hp : (upd H7 p2 (.lst [y, y, y])) p = some (.lst [y, y, y, y]) := s8 _ _ hp
  refine ⟨p, p2, _, _, rfl, rfl, hp, upd_same, by show 7 ≤ sizeLine; decide, fun p3 np3 => ?_⟩
  have t2 := (t1.trans s8).trans (same_new (o := .lst ([y, y, y, y] ++ [y, y, y])) np3)
  have hp3 : (upd (upd H7 p2 (.lst [y, y, y])) p3 (.lst ([y, y, y, y] ++ [y, y, y]))) p3 = some (.lst ([y, y, y, y] ++ [y, y, y])) := upd_same
  generalize upd (upd H7 p2 (.lst [y, y, y])) p3 (.lst ([y, y, y, y] ++ [y, y, y])) = H8 at t2 hp3 ⊢
  refine ⟨_, rfl, p3, rfl, ⟨_, .inl (.inl hp3)⟩, fun Dl nD => ?_⟩
  have pD : p3 ≠ Dl := ne_of_none hp3 nD
  have s9 := same_new (o := .lst []) nD
  refine lc_list (K := K) (a := p3) (xs := [y, y, y, y] ++ [y, y, y]) (fun i H' => H' = upd H8 Dl (.lst [])) rfl
    (fun i H' _ e => by rw [e]; exact .inl (.inl (s9 _ _ hp3))) ?_ ?_
  · rintro i x H' hx rfl
    have ex : x = y := by
      have hm := List.mem_of_getElem? hx
      simpa using hm
    subst ex
    have sh := hs.same (t2.trans s9)
    refine ⟨rfl, _, rfl, x, t, rfl, sh, _, rfl, x, t, rfl, sh, rfl, ?_⟩
    rw [decide_eq_true (rfl : V.str t = V.str t)]
    exact ⟨_, rfl, iteF rfl⟩
  · rintro H' rfl
    refine ⟨by show 0 ≤ sizeLine; decide, fun p4 np4 => ?_⟩
    have s10 := same_new (o := .lst []) np4
    refine eq_ans (.lst (.inl (.inl (s10 _ _ upd_same))) .nil) (.lst (.inl (.inl upd_same)) .nil) (by rfl) (by rfl) (by decide +kernel) (by decide +kernel) ?_
    exact q _ ((t2.trans s9).trans s10)
end
end K00
end

section
set_option maxHeartbeats 2000000
namespace K00
open PySem PySem.Spec PyProof.Rows L2 L2H Zc

def spLaw (K : PySem.W.Frag) : Sp := fun vs H Q _ => ∃ (a : Addr) (ns : List Int), vs = [.ref a] ∧ SqL K H a (ns.map V.int) ∧
  ns.length ≤ 63 ∧ ∀ H', Q (.bl true) H'

theorem same_seqL {K : PySem.W.Frag} {H H' : Hp} {a : Addr} {xs : List V} (e : Same H H') (h : SqL K H a xs) : SqL K H' a xs := by
  rcases h with (h | ⟨o, h⟩) | h
  · exact .inl (.inl (e _ _ h))
  · exact .inl (.inr ⟨o, e _ _ h⟩)
  · exact .inr h
theorem small_log {i : Int} (h : i.natAbs < 1000000008) : i.natAbs.log2 < 1920 := by
  by_cases z : i.natAbs = 0
  · rw [z]
    decide
  · have h2 := Nat.log2_lt (k := 30) z
    have h3 : i.natAbs < 2 ^ 30 := Nat.lt_trans h (by decide)
    exact Nat.lt_trans (h2.mpr h3) (by decide)
abbrev things (z : Int) (pt pl : Addr) : List V :=
  [.int (z % 1000000007), .int (0 - z % 97), .str (Str.ofString (toString (z % 1000))), .non, .ref pt, .ref pl]
theorem rep_small : ∀ r : Nat, r < 1000 → (reprText (Str.ofString (toString (r : Int)))).length ≤ 100 := by
  decide +kernel
theorem shows_all {K : PySem.W.Frag} {H : Hp} {z : Int} {pt pl : Addr} (hp : H pt = some (.tup [.int (z % 7), .str "a"]))
    (hl : H pl = some (.lst [.int (z % 11)])) : ∀ x ∈ things z pt pl, ∃ t, Shows K H x t := by
  intro x hx
  have b7 : (z % 7).natAbs < 2 ^ 64 := by omega
  have b11 : (z % 11).natAbs < 2 ^ 64 := by omega
  have cs : x = .int (z % 1000000007) ∨ x = .int (0 - z % 97) ∨ x = .str (Str.ofString (toString (z % 1000))) ∨ x = .non ∨ x = .ref pt ∨ x = .ref pl := by
    simpa [things] using hx
  rcases cs with rfl | rfl | rfl | rfl | rfl | rfl
  · exact ⟨_, .int _ (small_log (by omega))⟩
  · exact ⟨_, .int _ (small_log (by omega))⟩
  · refine ⟨_, .str _ ?_⟩
    have h := rep_small (z % 1000).toNat (by omega)
    rw [show (((z % 1000).toNat : Nat) : Int) = z % 1000 by omega] at h
    exact Nat.le_trans h (by decide)
  · exact ⟨_, .non⟩
  · have pd : plainD (.tuple [.int (z % 7), .str "a"]) = true := by
      simp only [plainD, plainAll, decide_eq_true b7]
      decide +kernel
    obtain ⟨_, h4, h3⟩ := plain_lay _ pd
    refine ⟨_, .dat (d := .tuple [.int (z % 7), .str "a"]) rfl (fun H' s => .tup (.inl (.inl (s _ _ hp))) (.cons (.int _) (.cons (.str _) .nil))) h3 h4 ?_ ?_⟩
    · simp [PyData.depth, PyData.depthAll]
    · refine Nat.le_trans (bulk_shown _ pd) ?_
      show 66 + 2 + (10 * ("a" : Str).length + 2 + 2 + 0) + 3 ≤ sizeLine
      decide +kernel
  · have pd : plainD (.list [.int (z % 11)]) = true := by
      simp only [plainD, plainAll, decide_eq_true b11]
      decide +kernel
    obtain ⟨_, h4, h3⟩ := plain_lay _ pd
    refine ⟨_, .dat (d := .list [.int (z % 11)]) rfl (fun H' s => .lst (.inl (.inl (s _ _ hl))) (.cons (.int _) .nil)) h3 h4 ?_ ?_⟩
    · simp [PyData.depth, PyData.depthAll]
    · refine Nat.le_trans (bulk_shown _ pd) ?_
      show 66 + 2 + 0 + 3 ≤ sizeLine
      decide +kernel
section
variable {P : Program} {w : World} {K : PySem.W.Frag} {mg : Str → Option Value} {base : Heap}
theorem ok_law {f fN fE : Addr} {fd fdN fdE : FuncData} (D : At K mg "law" s_law ["script"] f fd)
    (DN : At K mg "_law_named" s__law_named ["thing"] fN fdN) (DE : At K mg "_law_heard" s__law_heard ["at", "thing"] fE fdE)
    (GN : FnG P w K mg base 4 fN fdN ["thing"] (spNamed K)) (GE : FnG P w K mg base 4 fE fdE ["at", "thing"] (spHeard K))
    (m_int : mg "int" = none) (m_len : mg "len" = none) (m_range : mg "range" = none) (m_max : mg "max" = none) (m_min : mg "min" = none)
    (m_str : mg "str" = none) : FnG P w K mg base 5 f fd ["script"] (spLaw K) := by
  refine fnG_ok D.F sc_law (fun vs H Q E h => ?_) (fun cdv A outer s H vs Q E hr hg h => ?_)
  · obtain ⟨a, ns, rfl, _⟩ := h
    rfl
  obtain ⟨a, ns, rfl, hS, hl, q⟩ := h
  have hu := hr.units
  have nd := sc_law.nd
  refine ⟨_, pss_cons (ps_for PassesOwn.never rfl (pi_range1 (by rfl) m_range (pa_cons
      (pe_callB (call_max2 rfl) (by rfl) m_max PyProof.Rows.boot_max (pa_cons pe_int (pa_cons (pe_callB (call_min2 rfl) (by rfl) m_min PyProof.Rows.boot_min (pa_cons pe_int (pa_cons (pe_callB call_len_seq (by rfl) m_len PySem.boot_len (pa_cons (pv 0) pa_nil)) pa_nil))) pa_nil))) pa_nil))
      (pg_name (i := 1) nd rfl (Or.inl rfl))
      (pss_cons (ps_set (i := 2) nd rfl (.inl rfl) (pe_ifExp (pt_cmp (pc_lt (pv 1) (pe_callB call_len_seq (by rfl) m_len PySem.boot_len (pa_cons (pv 0) pa_nil)))) (pe_ix ix_list (pv 0) (pv 1) (fun _ _ => rfl)) pe_int))
      (pss_cons (ps_set (i := 3) nd rfl (.inl rfl) (pe_lst
        (pa_cons (pe_op op_mod (pe_callTy call_int1 (by rfl) m_int PyProof.Rows.boot_int (pa_cons (pv 2) pa_nil)) pe_int)
        (pa_cons (pe_op op_sub pe_int (pe_op op_mod (pe_callTy call_int1 (by rfl) m_int PyProof.Rows.boot_int (pa_cons (pv 2) pa_nil)) pe_int))
        (pa_cons (pe_callTy call_str_int (by rfl) m_str PyProof.Rows.boot_str (pa_cons (pe_op op_mod (pe_callTy call_int1 (by rfl) m_int PyProof.Rows.boot_int (pa_cons (pv 2) pa_nil)) pe_int) pa_nil))
        (pa_cons pe_non
        (pa_cons (pe_tup (pa_cons (pe_op op_mod (pe_callTy call_int1 (by rfl) m_int PyProof.Rows.boot_int (pa_cons (pv 2) pa_nil)) pe_int) (pa_cons pe_str pa_nil)))
        (pa_cons (pe_lst (pa_cons (pe_op op_mod (pe_callTy call_int1 (by rfl) m_int PyProof.Rows.boot_int (pa_cons (pv 2) pa_nil)) pe_int) pa_nil)) pa_nil))))))))
      (pss_one (ps_for PassesOwn.never rfl (pi_list (pv 3)) (pg_name (i := 4) nd rfl (Or.inl rfl))
        (pss_cons (ps_if (pt_not (pt_val (pe_callG GN hr hg (by rfl) DN.g DN.F.kp DN.b (pa_cons (pv 4) pa_nil)))) (pss_one (ps_ret pe_bl)) pss_nil)
        (pss_one (ps_for PassesOwn.never rfl (pi_range1 (by rfl) m_range (pa_cons pe_int pa_nil)) (pg_name (i := 5) nd rfl (Or.inl rfl))
          (pss_one (ps_if (pt_not (pt_val (pe_callG GE hr hg (by rfl) DE.g DE.F.kp DE.b (pa_cons (pv 5) (pa_cons (pv 4) pa_nil))))) (pss_one (ps_ret pe_bl)) pss_nil))))))))))
    (pss_one (ps_ret pe_bl)), ?_⟩
  refine ⟨_, rfl, a, ns.map V.int, rfl, .inl hS, _, _, rfl, _, _, rfl, _, rfl, ?_, ?_, for_range (lo := 0)
    (fun i σ H' => ∃ y1 y2 y3 y4 y5, σ = [some (.ref a), y1, y2, y3, y4, y5] ∧ Same H H') ⟨none, none, none, none, none, rfl, Same.refl _⟩ ?_ ?_⟩
  · split <;> split <;> omega
  · split <;> split <;> omega
  · rintro i σ H1 hi ⟨y1, y2, y3, y4, y5, rfl, s1⟩
    refine ⟨_, rfl, _, rfl, a, _, rfl, .inl (same_seqL s1 hS), _, _, rfl, rfl, _, rfl, ?_⟩
    by_cases c : (0 : Int) + (i : Int) < (ns.map V.int).length
    · rw [List.length_map] at c
      obtain ⟨z, hz⟩ : ∃ z, ns[i]? = some z := ⟨ns[i]'(by omega), by simp⟩
      have hat : atI (ns.map V.int) ((0 : Int) + (i : Int)) = some (V.int z) := by
        rw [show (0 : Int) + (i : Int) = (i : Int) by omega]
        exact atI_nat (by rw [List.getElem?_map, hz]; rfl)
      refine iteTe (decide_eq_true (by rw [List.length_map]; exact c)) ⟨_, rfl, _, rfl, a, _, _, .int z, rfl, rfl, same_seqL s1 hS, hat, ?_⟩
      refine ⟨_, rfl, .inl ⟨_, rfl, _, _, rfl, rfl, (show (0 : Int) < 1000000007 by decide), ?_⟩⟩
      refine ⟨_, rfl, .inl ⟨_, rfl, _, _, rfl, rfl, (show (0 : Int) < 97 by decide), ⟨_, _, rfl, rfl, ?_⟩⟩⟩
      refine ⟨_, rfl, .inl ⟨_, rfl, _, _, rfl, rfl, (show (0 : Int) < 1000 by decide), ⟨_, rfl, small_log (by omega), ?_⟩⟩⟩
      refine ⟨_, rfl, .inl ⟨_, rfl, _, _, rfl, rfl, (show (0 : Int) < 7 by decide), ⟨by show 2 ≤ sizeLine; decide, fun pt npt => ?_⟩⟩⟩
      refine ⟨_, rfl, .inl ⟨_, rfl, _, _, rfl, rfl, (show (0 : Int) < 11 by decide), ⟨by show 1 ≤ sizeLine; decide, fun pl npl => ⟨by show 6 ≤ sizeLine; decide, fun pk npk => ?_⟩⟩⟩⟩
      change gName 3 (V.ref pk) _ (upd (upd (upd H1 pt (.tup [.int (z % 7), .str "a"])) pl (.lst [.int (z % 11)])) pk (.lst (things z pt pl))) _
      have s12 := ((same_new (o := .tup [.int (z % 7), .str "a"]) npt).trans (same_new (o := .lst [.int (z % 11)]) npl)).trans (same_new (o := .lst (things z pt pl)) npk)
      have hl2 : (upd (upd (upd H1 pt (.tup [.int (z % 7), .str "a"])) pl (.lst [.int (z % 11)])) pk (.lst (things z pt pl))) pl = some (.lst [.int (z % 11)]) := same_new npk _ _ upd_same
      have hp2 : (upd (upd (upd H1 pt (.tup [.int (z % 7), .str "a"])) pl (.lst [.int (z % 11)])) pk (.lst (things z pt pl))) pt = some (.tup [.int (z % 7), .str "a"]) := same_new npk _ _ (same_new npl _ _ upd_same)
      have hk2 : (upd (upd (upd H1 pt (.tup [.int (z % 7), .str "a"])) pl (.lst [.int (z % 11)])) pk (.lst (things z pt pl))) pk = some (.lst (things z pt pl)) := upd_same
      generalize upd (upd (upd H1 pt (.tup [.int (z % 7), .str "a"])) pl (.lst [.int (z % 11)])) pk (.lst (things z pt pl)) = H2 at s12 hl2 hp2 hk2 ⊢
      refine ⟨_, rfl, pk, rfl, ⟨_, .inl (.inl hk2)⟩, for_list (K := K) (a := pk) (xs := things z pt pl)
        (fun j σ H' => ∃ y4 y5, σ = [some (.ref a), some (.int (0 + (i : Int))), some (.int z), some (.ref pk), y4, y5] ∧ Same H2 H')
        ⟨_, _, rfl, Same.refl _⟩ (fun j σ H' _ h => by
          obtain ⟨_, _, _, s3⟩ := h
          exact .inl (.inl (s3 _ _ hk2))) ?_ ?_⟩
      · rintro j x σ H3 hx ⟨y4, y5, rfl, s3⟩
        obtain ⟨t, hsh⟩ := shows_all (K := K) hp2 hl2 x (List.mem_of_getElem? hx)
        have hsh := hsh.same s3
        refine ⟨_, rfl, x, t, rfl, hsh, fun H4 s4 => ⟨true, rfl, iteFe rfl ⟨8, rfl, by decide, by decide, for_range (lo := 0) (n := 8)
          (fun i' σ H' => ∃ y5, σ = [some (.ref a), some (.int (0 + (i : Int))), some (.int z), some (.ref pk), some x, y5] ∧ Same H3 H') ⟨_, rfl, s4⟩ ?_ ?_⟩⟩⟩
        · rintro m σ H5 hm ⟨y5, rfl, s5⟩
          refine ⟨_, rfl, _, rfl, m, x, t, by rw [Int.zero_add], hm, hsh.same s5, fun H6 s6 => ⟨true, rfl, iteFe rfl ⟨_, rfl, s5.trans s6⟩⟩⟩
        · rintro σ H5 ⟨y5, rfl, s5⟩
          exact ⟨_, _, rfl, s3.trans s5⟩
      · rintro σ H3 ⟨y4, y5, rfl, s3⟩
        exact ⟨_, _, _, _, _, rfl, (s1.trans s12).trans s3⟩
    · refine iteFe (decide_eq_false c) ?_
      refine ⟨_, rfl, .inl ⟨_, rfl, _, _, rfl, rfl, (show (0 : Int) < 1000000007 by decide), ?_⟩⟩
      refine ⟨_, rfl, .inl ⟨_, rfl, _, _, rfl, rfl, (show (0 : Int) < 97 by decide), ⟨_, _, rfl, rfl, ?_⟩⟩⟩
      refine ⟨_, rfl, .inl ⟨_, rfl, _, _, rfl, rfl, (show (0 : Int) < 1000 by decide), ⟨_, rfl, small_log (by omega), ?_⟩⟩⟩
      refine ⟨_, rfl, .inl ⟨_, rfl, _, _, rfl, rfl, (show (0 : Int) < 7 by decide), ⟨by show 2 ≤ sizeLine; decide, fun pt npt => ?_⟩⟩⟩
      refine ⟨_, rfl, .inl ⟨_, rfl, _, _, rfl, rfl, (show (0 : Int) < 11 by decide), ⟨by show 1 ≤ sizeLine; decide, fun pl npl => ⟨by show 6 ≤ sizeLine; decide, fun pk npk => ?_⟩⟩⟩⟩
      change gName 3 (V.ref pk) _ (upd (upd (upd H1 pt (.tup [.int ((0 : Int) % 7), .str "a"])) pl (.lst [.int ((0 : Int) % 11)])) pk (.lst (things (0 : Int) pt pl))) _
      have s12 := ((same_new (o := .tup [.int ((0 : Int) % 7), .str "a"]) npt).trans (same_new (o := .lst [.int ((0 : Int) % 11)]) npl)).trans (same_new (o := .lst (things (0 : Int) pt pl)) npk)
      have hl2 : (upd (upd (upd H1 pt (.tup [.int ((0 : Int) % 7), .str "a"])) pl (.lst [.int ((0 : Int) % 11)])) pk (.lst (things (0 : Int) pt pl))) pl = some (.lst [.int ((0 : Int) % 11)]) := same_new npk _ _ upd_same
      have hp2 : (upd (upd (upd H1 pt (.tup [.int ((0 : Int) % 7), .str "a"])) pl (.lst [.int ((0 : Int) % 11)])) pk (.lst (things (0 : Int) pt pl))) pt = some (.tup [.int ((0 : Int) % 7), .str "a"]) := same_new npk _ _ (same_new npl _ _ upd_same)
      have hk2 : (upd (upd (upd H1 pt (.tup [.int ((0 : Int) % 7), .str "a"])) pl (.lst [.int ((0 : Int) % 11)])) pk (.lst (things (0 : Int) pt pl))) pk = some (.lst (things (0 : Int) pt pl)) := upd_same
      generalize upd (upd (upd H1 pt (.tup [.int ((0 : Int) % 7), .str "a"])) pl (.lst [.int ((0 : Int) % 11)])) pk (.lst (things (0 : Int) pt pl)) = H2 at s12 hl2 hp2 hk2 ⊢
      refine ⟨_, rfl, pk, rfl, ⟨_, .inl (.inl hk2)⟩, for_list (K := K) (a := pk) (xs := things (0 : Int) pt pl)
        (fun j σ H' => ∃ y4 y5, σ = [some (.ref a), some (.int (0 + (i : Int))), some (.int (0 : Int)), some (.ref pk), y4, y5] ∧ Same H2 H')
        ⟨_, _, rfl, Same.refl _⟩ (fun j σ H' _ h => by
          obtain ⟨_, _, _, s3⟩ := h
          exact .inl (.inl (s3 _ _ hk2))) ?_ ?_⟩
      · rintro j x σ H3 hx ⟨y4, y5, rfl, s3⟩
        obtain ⟨t, hsh⟩ := shows_all (K := K) hp2 hl2 x (List.mem_of_getElem? hx)
        have hsh := hsh.same s3
        refine ⟨_, rfl, x, t, rfl, hsh, fun H4 s4 => ⟨true, rfl, iteFe rfl ⟨8, rfl, by decide, by decide, for_range (lo := 0) (n := 8)
          (fun i' σ H' => ∃ y5, σ = [some (.ref a), some (.int (0 + (i : Int))), some (.int (0 : Int)), some (.ref pk), some x, y5] ∧ Same H3 H') ⟨_, rfl, s4⟩ ?_ ?_⟩⟩⟩
        · rintro m σ H5 hm ⟨y5, rfl, s5⟩
          refine ⟨_, rfl, _, rfl, m, x, t, by rw [Int.zero_add], hm, hsh.same s5, fun H6 s6 => ⟨true, rfl, iteFe rfl ⟨_, rfl, s5.trans s6⟩⟩⟩
        · rintro σ H5 ⟨y5, rfl, s5⟩
          exact ⟨_, _, rfl, s3.trans s5⟩
      · rintro σ H3 ⟨y4, y5, rfl, s3⟩
        exact ⟨_, _, _, _, _, rfl, (s1.trans s12).trans s3⟩
  · rintro σ H1 ⟨y1, y2, y3, y4, y5, rfl, s1⟩
    exact q _
end
end K00
end

section
set_option maxHeartbeats 4000000
namespace K00
open PySem PySem.Spec PyProof.Rows L2 L2H Zc
theorem FnG_mono {P : Program} {w : World} {K : PySem.W.Frag} {mg : Str → Option Value} {base : Heap} {j k : Nat} {f : Addr} {fd : FuncData}
    {ps : List Str} {sp : Sp} (F : FnG P w K mg base j f fd ps sp) (h : j ≤ k) : FnG P w K mg base k f fd ps sp :=
  ⟨F.len, fun A outer s H args us vs Q E hr => F.run A outer s H args us vs Q E (hr.mono h)⟩
/-- what every exception class of the program has -/
structure Cl (K : PySem.W.Frag) (C : Addr) : Prop where
  ga : PySem.W.findIn K (.ref C) "__getattribute__" = some (some (.builtin "BaseException.__getattribute__"))
  gg : PySem.W.findIn K (.ref C) "__getattr__" = some none
  xc : PySem.W.subIn K (.ref C) (.type "BaseException") = some true
  hd : PySem.W.hasDictIn K C = true
  cl : PySem.W.findIn K (.ref C) "__class__" = some (some (.builtin "object.__class__"))
  mr : PySem.W.mroIn K C (.type "object") = some true
  no : PySem.W.findIn K (.ref C) "at" = some none
theorem err_mk {K : PySem.W.Frag} {h : Heap} {mg : Str → Option Value} {i : Nat} {x qual : Str} {C f : Addr} (hi : i < 7)
    (G : mg x = some (.ref C)) (c : Cl K C)
    (n1 : PySem.W.specialIn K (.builtin "object.__class__") "__get__" = some (some (.builtin "getset_descriptor.__get__")))
    (n2 : PySem.W.takesIn K (.builtin "object.__class__") = some true)
    (T : OexC K C) (iC : PySem.W.findIn K (.ref C) "__init__" = some (some (.ref f))) (tI : PySem.W.typeIn K (.ref f) = some (.type "function"))
    {oc : Value} {od an : Option Addr} {osl : Array (Option Value)} {kV doc pm cdv ct : Value}
    (F : Fun K "__init__" qual (meth (i + 2)) f (PySem.W.fnOf "__init__" qual (defArgs (meth (i + 2))) (defBody (meth (i + 2))) (defScope (meth (i + 2))) .none kV doc pm an cdv ct)) :
    Err K mg i x qual C f (PySem.W.fnOf "__init__" qual (defArgs (meth (i + 2))) (defBody (meth (i + 2))) (defScope (meth (i + 2))) .none kV doc pm an cdv ct) := by
  have cs : i = 0 ∨ i = 1 ∨ i = 2 ∨ i = 3 ∨ i = 4 ∨ i = 5 ∨ i = 6 := by omega
  refine ⟨G, T, ⟨c.ga, c.gg, c.xc, c.hd⟩, ⟨c.ga, c.gg, c.xc, c.hd, c.cl, n1, n2, c.mr⟩, c.no, iC, tI, F, ?_, ?_⟩
  · rcases cs with rfl | rfl | rfl | rfl | rfl | rfl | rfl
    all_goals exact F.binds (ps := ["self", "at"]) fun _ _ _ _ _ _ us hl => match us, hl with | [_, _], _ => rfl
  · intro s u ws hl
    rcases cs with rfl | rfl | rfl | rfl | rfl | rfl | rfl
    all_goals exact match ws, hl with | [_], _ => .of_eq rfl
theorem all_mk {l : PySem.W.OpenLaw} {w : World} {K : PySem.W.Frag} {h : Heap} {mg : Str → Option Value} {fa : Addr}
    (X : K.In h) (G : h.Ns mainGlobals mg) (hfa : mg "law" = some (.ref fa))
    {f0 : Addr} {od0 an0 : Option Addr} {sl0 : Array (Option Value)} {oc0 kV0 dc0 pm0 cd0 ct0 : Value}
    {f1 : Addr} {od1 an1 : Option Addr} {sl1 : Array (Option Value)} {oc1 kV1 dc1 pm1 cd1 ct1 : Value}
    {f2 : Addr} {od2 an2 : Option Addr} {sl2 : Array (Option Value)} {oc2 kV2 dc2 pm2 cd2 ct2 : Value}
    {f3 : Addr} {od3 an3 : Option Addr} {sl3 : Array (Option Value)} {oc3 kV3 dc3 pm3 cd3 ct3 : Value}
    {f4 : Addr} {od4 an4 : Option Addr} {sl4 : Array (Option Value)} {oc4 kV4 dc4 pm4 cd4 ct4 : Value}
    (a0 : PySem.W.nsIn K mainGlobals "law" = some (some (.ref f0)))
    (l0 : K.lookup f0 = some ⟨oc0, od0, .func (PySem.W.fnOf "law" "law" (defArgs s_law) (defBody s_law)
      (defScope s_law) .none kV0 dc0 pm0 an0 cd0 ct0), sl0⟩)
    (c0 : PySem.W.codeIn K cd0 "law" = true)
    (k0 : PySem.W.keepIn K (.ref f0) = true)
    (a1 : PySem.W.nsIn K mainGlobals "_law_marks" = some (some (.ref f1)))
    (l1 : K.lookup f1 = some ⟨oc1, od1, .func (PySem.W.fnOf "_law_marks" "_law_marks" (defArgs s__law_marks) (defBody s__law_marks)
      (defScope s__law_marks) .none kV1 dc1 pm1 an1 cd1 ct1), sl1⟩)
    (c1 : PySem.W.codeIn K cd1 "_law_marks" = true)
    (k1 : PySem.W.keepIn K (.ref f1) = true)
    (a2 : PySem.W.nsIn K mainGlobals "_law_raise" = some (some (.ref f2)))
    (l2 : K.lookup f2 = some ⟨oc2, od2, .func (PySem.W.fnOf "_law_raise" "_law_raise" (defArgs s__law_raise) (defBody s__law_raise)
      (defScope s__law_raise) .none kV2 dc2 pm2 an2 cd2 ct2), sl2⟩)
    (c2 : PySem.W.codeIn K cd2 "_law_raise" = true)
    (k2 : PySem.W.keepIn K (.ref f2) = true)
    (a3 : PySem.W.nsIn K mainGlobals "_law_heard" = some (some (.ref f3)))
    (l3 : K.lookup f3 = some ⟨oc3, od3, .func (PySem.W.fnOf "_law_heard" "_law_heard" (defArgs s__law_heard) (defBody s__law_heard)
      (defScope s__law_heard) .none kV3 dc3 pm3 an3 cd3 ct3), sl3⟩)
    (c3 : PySem.W.codeIn K cd3 "_law_heard" = true)
    (k3 : PySem.W.keepIn K (.ref f3) = true)
    (a4 : PySem.W.nsIn K mainGlobals "_law_named" = some (some (.ref f4)))
    (l4 : K.lookup f4 = some ⟨oc4, od4, .func (PySem.W.fnOf "_law_named" "_law_named" (defArgs s__law_named) (defBody s__law_named)
      (defScope s__law_named) .none kV4 dc4 pm4 an4 cd4 ct4), sl4⟩)
    (c4 : PySem.W.codeIn K cd4 "_law_named" = true)
    (k4 : PySem.W.keepIn K (.ref f4) = true)
    (z_isinstance : PySem.W.nsIn K mainGlobals "isinstance" = some none)
    (z_ValueError : PySem.W.nsIn K mainGlobals "ValueError" = some none)
    (z_range : PySem.W.nsIn K mainGlobals "range" = some none)
    (z_repr : PySem.W.nsIn K mainGlobals "repr" = some none)
    (z_int : PySem.W.nsIn K mainGlobals "int" = some none)
    (z_len : PySem.W.nsIn K mainGlobals "len" = some none)
    (z_max : PySem.W.nsIn K mainGlobals "max" = some none)
    (z_min : PySem.W.nsIn K mainGlobals "min" = some none)
    (z_str : PySem.W.nsIn K mainGlobals "str" = some none)
    {B : Addr}
    (gB : PySem.W.nsIn K mainGlobals "LookError" = some (some (.ref B)))
    (kB : PySem.W.keepIn K (.ref B) = true)
    (tB : PySem.W.typeIn K (.ref B) = some (.type "type"))
    (rB : PySem.W.readsIn K B (.type "type") = true)
    (sB : PySem.W.specialIn K (.ref B) "__getattribute__" = some (some (.builtin "type.__getattribute__")))
    (iB : PySem.W.findCls K (.ref B) (.type "type") "__init__" = some (.val (.builtin "ValueError.__init__")))
    (xB0 : PySem.W.subIn K (.ref B) (.type "BaseException") = some true)
    (hB0 : PySem.W.hasDictIn K B = true)
    (n1 : PySem.W.specialIn K (.builtin "object.__class__") "__get__" = some (some (.builtin "getset_descriptor.__get__")))
    (n2 : PySem.W.takesIn K (.builtin "object.__class__") = some true)
    {C0 : Addr}
    (g0 : PySem.W.nsIn K mainGlobals "InvalidOrder" = some (some (.ref C0)))
    (ga0 : PySem.W.findIn K (.ref C0) "__getattribute__" = some (some (.builtin "BaseException.__getattribute__")))
    (gg0 : PySem.W.findIn K (.ref C0) "__getattr__" = some none)
    (xc0 : PySem.W.subIn K (.ref C0) (.type "BaseException") = some true)
    (hd0 : PySem.W.hasDictIn K C0 = true)
    (cl0 : PySem.W.findIn K (.ref C0) "__class__" = some (some (.builtin "object.__class__")))
    (mr0 : PySem.W.mroIn K C0 (.type "object") = some true)
    (no0 : PySem.W.findIn K (.ref C0) "at" = some none)
    (ty0 : PySem.W.typeIn K (.ref C0) = some (.type "type"))
    (kc0 : PySem.W.keepIn K (.ref C0) = true)
    {nm0 q0 : Str} {N0 : Addr} {bs0 bm0 : List Value} {sn0 : List Str} {sub0 : List Value} {ab0 : Bool} {col0 : Option Bool} {dd0 : Option Addr} {p0_0 p0_1 p0_2 p0_3 p0_5 : Option Value}
    (L0 : K.lookup C0 = some (excClassObj nm0 q0 C0 N0 bs0 bm0 true sn0 sub0 ab0 col0 dd0 p0_0 p0_1 p0_2 p0_3 p0_5 "ValueError.__new__"))
    (R0 : PySem.HandSPX.refsVE bm0 = true)
    (sa0 : PySem.W.findIn K (.ref C0) "__setattr__" = some (some (.builtin "object.__setattr__")))
    {I0 : Addr} {iod0 ian0 : Option Addr} {isl0 : Array (Option Value)} {ioc0 ikV0 idc0 ipm0 icd0 ict0 : Value}
    (iC0 : PySem.W.findIn K (.ref C0) "__init__" = some (some (.ref I0)))
    (tI0 : PySem.W.typeIn K (.ref I0) = some (.type "function"))
    (il0 : K.lookup I0 = some ⟨ioc0, iod0, .func (PySem.W.fnOf "__init__" "InvalidOrder.__init__" (defArgs (meth (0 + 2))) (defBody (meth (0 + 2)))
      (defScope (meth (0 + 2))) .none ikV0 idc0 ipm0 ian0 icd0 ict0), isl0⟩)
    (ic0 : PySem.W.codeIn K icd0 "InvalidOrder.__init__" = true)
    (ik0 : PySem.W.keepIn K (.ref I0) = true)
    {C1 : Addr}
    (g1 : PySem.W.nsIn K mainGlobals "InvalidText" = some (some (.ref C1)))
    (ga1 : PySem.W.findIn K (.ref C1) "__getattribute__" = some (some (.builtin "BaseException.__getattribute__")))
    (gg1 : PySem.W.findIn K (.ref C1) "__getattr__" = some none)
    (xc1 : PySem.W.subIn K (.ref C1) (.type "BaseException") = some true)
    (hd1 : PySem.W.hasDictIn K C1 = true)
    (cl1 : PySem.W.findIn K (.ref C1) "__class__" = some (some (.builtin "object.__class__")))
    (mr1 : PySem.W.mroIn K C1 (.type "object") = some true)
    (no1 : PySem.W.findIn K (.ref C1) "at" = some none)
    (ty1 : PySem.W.typeIn K (.ref C1) = some (.type "type"))
    (kc1 : PySem.W.keepIn K (.ref C1) = true)
    {nm1 q1 : Str} {N1 : Addr} {bs1 bm1 : List Value} {sn1 : List Str} {sub1 : List Value} {ab1 : Bool} {col1 : Option Bool} {dd1 : Option Addr} {p1_0 p1_1 p1_2 p1_3 p1_5 : Option Value}
    (L1 : K.lookup C1 = some (excClassObj nm1 q1 C1 N1 bs1 bm1 true sn1 sub1 ab1 col1 dd1 p1_0 p1_1 p1_2 p1_3 p1_5 "ValueError.__new__"))
    (R1 : PySem.HandSPX.refsVE bm1 = true)
    (sa1 : PySem.W.findIn K (.ref C1) "__setattr__" = some (some (.builtin "object.__setattr__")))
    {I1 : Addr} {iod1 ian1 : Option Addr} {isl1 : Array (Option Value)} {ioc1 ikV1 idc1 ipm1 icd1 ict1 : Value}
    (iC1 : PySem.W.findIn K (.ref C1) "__init__" = some (some (.ref I1)))
    (tI1 : PySem.W.typeIn K (.ref I1) = some (.type "function"))
    (il1 : K.lookup I1 = some ⟨ioc1, iod1, .func (PySem.W.fnOf "__init__" "InvalidText.__init__" (defArgs (meth (1 + 2))) (defBody (meth (1 + 2)))
      (defScope (meth (1 + 2))) .none ikV1 idc1 ipm1 ian1 icd1 ict1), isl1⟩)
    (ic1 : PySem.W.codeIn K icd1 "InvalidText.__init__" = true)
    (ik1 : PySem.W.keepIn K (.ref I1) = true)
    {C2 : Addr}
    (g2 : PySem.W.nsIn K mainGlobals "InvalidProgram" = some (some (.ref C2)))
    (ga2 : PySem.W.findIn K (.ref C2) "__getattribute__" = some (some (.builtin "BaseException.__getattribute__")))
    (gg2 : PySem.W.findIn K (.ref C2) "__getattr__" = some none)
    (xc2 : PySem.W.subIn K (.ref C2) (.type "BaseException") = some true)
    (hd2 : PySem.W.hasDictIn K C2 = true)
    (cl2 : PySem.W.findIn K (.ref C2) "__class__" = some (some (.builtin "object.__class__")))
    (mr2 : PySem.W.mroIn K C2 (.type "object") = some true)
    (no2 : PySem.W.findIn K (.ref C2) "at" = some none)
    (ty2 : PySem.W.typeIn K (.ref C2) = some (.type "type"))
    (kc2 : PySem.W.keepIn K (.ref C2) = true)
    {nm2 q2 : Str} {N2 : Addr} {bs2 bm2 : List Value} {sn2 : List Str} {sub2 : List Value} {ab2 : Bool} {col2 : Option Bool} {dd2 : Option Addr} {p2_0 p2_1 p2_2 p2_3 p2_5 : Option Value}
    (L2 : K.lookup C2 = some (excClassObj nm2 q2 C2 N2 bs2 bm2 true sn2 sub2 ab2 col2 dd2 p2_0 p2_1 p2_2 p2_3 p2_5 "ValueError.__new__"))
    (R2 : PySem.HandSPX.refsVE bm2 = true)
    (sa2 : PySem.W.findIn K (.ref C2) "__setattr__" = some (some (.builtin "object.__setattr__")))
    {I2 : Addr} {iod2 ian2 : Option Addr} {isl2 : Array (Option Value)} {ioc2 ikV2 idc2 ipm2 icd2 ict2 : Value}
    (iC2 : PySem.W.findIn K (.ref C2) "__init__" = some (some (.ref I2)))
    (tI2 : PySem.W.typeIn K (.ref I2) = some (.type "function"))
    (il2 : K.lookup I2 = some ⟨ioc2, iod2, .func (PySem.W.fnOf "__init__" "InvalidProgram.__init__" (defArgs (meth (2 + 2))) (defBody (meth (2 + 2)))
      (defScope (meth (2 + 2))) .none ikV2 idc2 ipm2 ian2 icd2 ict2), isl2⟩)
    (ic2 : PySem.W.codeIn K icd2 "InvalidProgram.__init__" = true)
    (ik2 : PySem.W.keepIn K (.ref I2) = true)
    {C3 : Addr}
    (g3 : PySem.W.nsIn K mainGlobals "InvalidCode" = some (some (.ref C3)))
    (ga3 : PySem.W.findIn K (.ref C3) "__getattribute__" = some (some (.builtin "BaseException.__getattribute__")))
    (gg3 : PySem.W.findIn K (.ref C3) "__getattr__" = some none)
    (xc3 : PySem.W.subIn K (.ref C3) (.type "BaseException") = some true)
    (hd3 : PySem.W.hasDictIn K C3 = true)
    (cl3 : PySem.W.findIn K (.ref C3) "__class__" = some (some (.builtin "object.__class__")))
    (mr3 : PySem.W.mroIn K C3 (.type "object") = some true)
    (no3 : PySem.W.findIn K (.ref C3) "at" = some none)
    (ty3 : PySem.W.typeIn K (.ref C3) = some (.type "type"))
    (kc3 : PySem.W.keepIn K (.ref C3) = true)
    {nm3 q3 : Str} {N3 : Addr} {bs3 bm3 : List Value} {sn3 : List Str} {sub3 : List Value} {ab3 : Bool} {col3 : Option Bool} {dd3 : Option Addr} {p3_0 p3_1 p3_2 p3_3 p3_5 : Option Value}
    (L3 : K.lookup C3 = some (excClassObj nm3 q3 C3 N3 bs3 bm3 true sn3 sub3 ab3 col3 dd3 p3_0 p3_1 p3_2 p3_3 p3_5 "ValueError.__new__"))
    (R3 : PySem.HandSPX.refsVE bm3 = true)
    (sa3 : PySem.W.findIn K (.ref C3) "__setattr__" = some (some (.builtin "object.__setattr__")))
    {I3 : Addr} {iod3 ian3 : Option Addr} {isl3 : Array (Option Value)} {ioc3 ikV3 idc3 ipm3 icd3 ict3 : Value}
    (iC3 : PySem.W.findIn K (.ref C3) "__init__" = some (some (.ref I3)))
    (tI3 : PySem.W.typeIn K (.ref I3) = some (.type "function"))
    (il3 : K.lookup I3 = some ⟨ioc3, iod3, .func (PySem.W.fnOf "__init__" "InvalidCode.__init__" (defArgs (meth (3 + 2))) (defBody (meth (3 + 2)))
      (defScope (meth (3 + 2))) .none ikV3 idc3 ipm3 ian3 icd3 ict3), isl3⟩)
    (ic3 : PySem.W.codeIn K icd3 "InvalidCode.__init__" = true)
    (ik3 : PySem.W.keepIn K (.ref I3) = true)
    {C4 : Addr}
    (g4 : PySem.W.nsIn K mainGlobals "InvalidPaper" = some (some (.ref C4)))
    (ga4 : PySem.W.findIn K (.ref C4) "__getattribute__" = some (some (.builtin "BaseException.__getattribute__")))
    (gg4 : PySem.W.findIn K (.ref C4) "__getattr__" = some none)
    (xc4 : PySem.W.subIn K (.ref C4) (.type "BaseException") = some true)
    (hd4 : PySem.W.hasDictIn K C4 = true)
    (cl4 : PySem.W.findIn K (.ref C4) "__class__" = some (some (.builtin "object.__class__")))
    (mr4 : PySem.W.mroIn K C4 (.type "object") = some true)
    (no4 : PySem.W.findIn K (.ref C4) "at" = some none)
    (ty4 : PySem.W.typeIn K (.ref C4) = some (.type "type"))
    (kc4 : PySem.W.keepIn K (.ref C4) = true)
    {nm4 q4 : Str} {N4 : Addr} {bs4 bm4 : List Value} {sn4 : List Str} {sub4 : List Value} {ab4 : Bool} {col4 : Option Bool} {dd4 : Option Addr} {p4_0 p4_1 p4_2 p4_3 p4_5 : Option Value}
    (L4 : K.lookup C4 = some (excClassObj nm4 q4 C4 N4 bs4 bm4 true sn4 sub4 ab4 col4 dd4 p4_0 p4_1 p4_2 p4_3 p4_5 "ValueError.__new__"))
    (R4 : PySem.HandSPX.refsVE bm4 = true)
    (sa4 : PySem.W.findIn K (.ref C4) "__setattr__" = some (some (.builtin "object.__setattr__")))
    {I4 : Addr} {iod4 ian4 : Option Addr} {isl4 : Array (Option Value)} {ioc4 ikV4 idc4 ipm4 icd4 ict4 : Value}
    (iC4 : PySem.W.findIn K (.ref C4) "__init__" = some (some (.ref I4)))
    (tI4 : PySem.W.typeIn K (.ref I4) = some (.type "function"))
    (il4 : K.lookup I4 = some ⟨ioc4, iod4, .func (PySem.W.fnOf "__init__" "InvalidPaper.__init__" (defArgs (meth (4 + 2))) (defBody (meth (4 + 2)))
      (defScope (meth (4 + 2))) .none ikV4 idc4 ipm4 ian4 icd4 ict4), isl4⟩)
    (ic4 : PySem.W.codeIn K icd4 "InvalidPaper.__init__" = true)
    (ik4 : PySem.W.keepIn K (.ref I4) = true)
    {C5 : Addr}
    (g5 : PySem.W.nsIn K mainGlobals "InvalidQuestion" = some (some (.ref C5)))
    (ga5 : PySem.W.findIn K (.ref C5) "__getattribute__" = some (some (.builtin "BaseException.__getattribute__")))
    (gg5 : PySem.W.findIn K (.ref C5) "__getattr__" = some none)
    (xc5 : PySem.W.subIn K (.ref C5) (.type "BaseException") = some true)
    (hd5 : PySem.W.hasDictIn K C5 = true)
    (cl5 : PySem.W.findIn K (.ref C5) "__class__" = some (some (.builtin "object.__class__")))
    (mr5 : PySem.W.mroIn K C5 (.type "object") = some true)
    (no5 : PySem.W.findIn K (.ref C5) "at" = some none)
    (ty5 : PySem.W.typeIn K (.ref C5) = some (.type "type"))
    (kc5 : PySem.W.keepIn K (.ref C5) = true)
    {nm5 q5 : Str} {N5 : Addr} {bs5 bm5 : List Value} {sn5 : List Str} {sub5 : List Value} {ab5 : Bool} {col5 : Option Bool} {dd5 : Option Addr} {p5_0 p5_1 p5_2 p5_3 p5_5 : Option Value}
    (L5 : K.lookup C5 = some (excClassObj nm5 q5 C5 N5 bs5 bm5 true sn5 sub5 ab5 col5 dd5 p5_0 p5_1 p5_2 p5_3 p5_5 "ValueError.__new__"))
    (R5 : PySem.HandSPX.refsVE bm5 = true)
    (sa5 : PySem.W.findIn K (.ref C5) "__setattr__" = some (some (.builtin "object.__setattr__")))
    {I5 : Addr} {iod5 ian5 : Option Addr} {isl5 : Array (Option Value)} {ioc5 ikV5 idc5 ipm5 icd5 ict5 : Value}
    (iC5 : PySem.W.findIn K (.ref C5) "__init__" = some (some (.ref I5)))
    (tI5 : PySem.W.typeIn K (.ref I5) = some (.type "function"))
    (il5 : K.lookup I5 = some ⟨ioc5, iod5, .func (PySem.W.fnOf "__init__" "InvalidQuestion.__init__" (defArgs (meth (5 + 2))) (defBody (meth (5 + 2)))
      (defScope (meth (5 + 2))) .none ikV5 idc5 ipm5 ian5 icd5 ict5), isl5⟩)
    (ic5 : PySem.W.codeIn K icd5 "InvalidQuestion.__init__" = true)
    (ik5 : PySem.W.keepIn K (.ref I5) = true)
    {C6 : Addr}
    (g6 : PySem.W.nsIn K mainGlobals "Refused" = some (some (.ref C6)))
    (ga6 : PySem.W.findIn K (.ref C6) "__getattribute__" = some (some (.builtin "BaseException.__getattribute__")))
    (gg6 : PySem.W.findIn K (.ref C6) "__getattr__" = some none)
    (xc6 : PySem.W.subIn K (.ref C6) (.type "BaseException") = some true)
    (hd6 : PySem.W.hasDictIn K C6 = true)
    (cl6 : PySem.W.findIn K (.ref C6) "__class__" = some (some (.builtin "object.__class__")))
    (mr6 : PySem.W.mroIn K C6 (.type "object") = some true)
    (no6 : PySem.W.findIn K (.ref C6) "at" = some none)
    (ty6 : PySem.W.typeIn K (.ref C6) = some (.type "type"))
    (kc6 : PySem.W.keepIn K (.ref C6) = true)
    {nm6 q6 : Str} {N6 : Addr} {bs6 bm6 : List Value} {sn6 : List Str} {sub6 : List Value} {ab6 : Bool} {col6 : Option Bool} {dd6 : Option Addr} {p6_0 p6_1 p6_2 p6_3 p6_5 : Option Value}
    (L6 : K.lookup C6 = some (excClassObj nm6 q6 C6 N6 bs6 bm6 true sn6 sub6 ab6 col6 dd6 p6_0 p6_1 p6_2 p6_3 p6_5 "ValueError.__new__"))
    (R6 : PySem.HandSPX.refsVE bm6 = true)
    (sa6 : PySem.W.findIn K (.ref C6) "__setattr__" = some (some (.builtin "object.__setattr__")))
    {I6 : Addr} {iod6 ian6 : Option Addr} {isl6 : Array (Option Value)} {ioc6 ikV6 idc6 ipm6 icd6 ict6 : Value}
    (iC6 : PySem.W.findIn K (.ref C6) "__init__" = some (some (.ref I6)))
    (tI6 : PySem.W.typeIn K (.ref I6) = some (.type "function"))
    (il6 : K.lookup I6 = some ⟨ioc6, iod6, .func (PySem.W.fnOf "__init__" "Refused.__init__" (defArgs (meth (6 + 2))) (defBody (meth (6 + 2)))
      (defScope (meth (6 + 2))) .none ikV6 idc6 ipm6 ian6 icd6 ict6), isl6⟩)
    (ic6 : PySem.W.codeIn K icd6 "Refused.__init__" = true)
    (ik6 : PySem.W.keepIn K (.ref I6) = true)
    {C7 : Addr}
    (g7 : PySem.W.nsIn K mainGlobals "InvalidCommand" = some (some (.ref C7)))
    (ga7 : PySem.W.findIn K (.ref C7) "__getattribute__" = some (some (.builtin "BaseException.__getattribute__")))
    (gg7 : PySem.W.findIn K (.ref C7) "__getattr__" = some none)
    (xc7 : PySem.W.subIn K (.ref C7) (.type "BaseException") = some true)
    (hd7 : PySem.W.hasDictIn K C7 = true)
    (cl7 : PySem.W.findIn K (.ref C7) "__class__" = some (some (.builtin "object.__class__")))
    (mr7 : PySem.W.mroIn K C7 (.type "object") = some true)
    (no7 : PySem.W.findIn K (.ref C7) "at" = some none)
    (ty7 : PySem.W.typeIn K (.ref C7) = some (.type "type"))
    (kc7 : PySem.W.keepIn K (.ref C7) = true)
    (x7 : PySem.W.excIn K C7 [.type "ValueError", .type "Exception", .type "BaseException", .type "object"] "ValueError.__new__" = true)
    (t0_0 : PySem.W.kitOne K (.ref C0) (.ref C0) = some true)
    (t0_1 : PySem.W.kitOne K (.ref C0) (.ref C1) = some false)
    (t0_2 : PySem.W.kitOne K (.ref C0) (.ref C2) = some false)
    (t0_3 : PySem.W.kitOne K (.ref C0) (.ref C3) = some false)
    (t0_4 : PySem.W.kitOne K (.ref C0) (.ref C4) = some false)
    (t0_5 : PySem.W.kitOne K (.ref C0) (.ref C5) = some false)
    (t0_6 : PySem.W.kitOne K (.ref C0) (.ref C6) = some false)
    (t0_7 : PySem.W.kitOne K (.ref C0) (.ref C7) = some false)
    (v0 : PySem.W.kitOne K (.ref C0) (.type "ValueError") = some true)
    (m0 : PySem.W.subIn K (.ref C0) (.ref B) = some true)
    (t1_0 : PySem.W.kitOne K (.ref C1) (.ref C0) = some false)
    (t1_1 : PySem.W.kitOne K (.ref C1) (.ref C1) = some true)
    (t1_2 : PySem.W.kitOne K (.ref C1) (.ref C2) = some false)
    (t1_3 : PySem.W.kitOne K (.ref C1) (.ref C3) = some false)
    (t1_4 : PySem.W.kitOne K (.ref C1) (.ref C4) = some false)
    (t1_5 : PySem.W.kitOne K (.ref C1) (.ref C5) = some false)
    (t1_6 : PySem.W.kitOne K (.ref C1) (.ref C6) = some false)
    (t1_7 : PySem.W.kitOne K (.ref C1) (.ref C7) = some false)
    (v1 : PySem.W.kitOne K (.ref C1) (.type "ValueError") = some true)
    (m1 : PySem.W.subIn K (.ref C1) (.ref B) = some true)
    (t2_0 : PySem.W.kitOne K (.ref C2) (.ref C0) = some false)
    (t2_1 : PySem.W.kitOne K (.ref C2) (.ref C1) = some false)
    (t2_2 : PySem.W.kitOne K (.ref C2) (.ref C2) = some true)
    (t2_3 : PySem.W.kitOne K (.ref C2) (.ref C3) = some false)
    (t2_4 : PySem.W.kitOne K (.ref C2) (.ref C4) = some false)
    (t2_5 : PySem.W.kitOne K (.ref C2) (.ref C5) = some false)
    (t2_6 : PySem.W.kitOne K (.ref C2) (.ref C6) = some false)
    (t2_7 : PySem.W.kitOne K (.ref C2) (.ref C7) = some false)
    (v2 : PySem.W.kitOne K (.ref C2) (.type "ValueError") = some true)
    (m2 : PySem.W.subIn K (.ref C2) (.ref B) = some true)
    (t3_0 : PySem.W.kitOne K (.ref C3) (.ref C0) = some false)
    (t3_1 : PySem.W.kitOne K (.ref C3) (.ref C1) = some false)
    (t3_2 : PySem.W.kitOne K (.ref C3) (.ref C2) = some false)
    (t3_3 : PySem.W.kitOne K (.ref C3) (.ref C3) = some true)
    (t3_4 : PySem.W.kitOne K (.ref C3) (.ref C4) = some false)
    (t3_5 : PySem.W.kitOne K (.ref C3) (.ref C5) = some false)
    (t3_6 : PySem.W.kitOne K (.ref C3) (.ref C6) = some false)
    (t3_7 : PySem.W.kitOne K (.ref C3) (.ref C7) = some false)
    (v3 : PySem.W.kitOne K (.ref C3) (.type "ValueError") = some true)
    (m3 : PySem.W.subIn K (.ref C3) (.ref B) = some true)
    (t4_0 : PySem.W.kitOne K (.ref C4) (.ref C0) = some false)
    (t4_1 : PySem.W.kitOne K (.ref C4) (.ref C1) = some false)
    (t4_2 : PySem.W.kitOne K (.ref C4) (.ref C2) = some false)
    (t4_3 : PySem.W.kitOne K (.ref C4) (.ref C3) = some false)
    (t4_4 : PySem.W.kitOne K (.ref C4) (.ref C4) = some true)
    (t4_5 : PySem.W.kitOne K (.ref C4) (.ref C5) = some false)
    (t4_6 : PySem.W.kitOne K (.ref C4) (.ref C6) = some false)
    (t4_7 : PySem.W.kitOne K (.ref C4) (.ref C7) = some false)
    (v4 : PySem.W.kitOne K (.ref C4) (.type "ValueError") = some true)
    (m4 : PySem.W.subIn K (.ref C4) (.ref B) = some true)
    (t5_0 : PySem.W.kitOne K (.ref C5) (.ref C0) = some false)
    (t5_1 : PySem.W.kitOne K (.ref C5) (.ref C1) = some false)
    (t5_2 : PySem.W.kitOne K (.ref C5) (.ref C2) = some false)
    (t5_3 : PySem.W.kitOne K (.ref C5) (.ref C3) = some false)
    (t5_4 : PySem.W.kitOne K (.ref C5) (.ref C4) = some false)
    (t5_5 : PySem.W.kitOne K (.ref C5) (.ref C5) = some true)
    (t5_6 : PySem.W.kitOne K (.ref C5) (.ref C6) = some false)
    (t5_7 : PySem.W.kitOne K (.ref C5) (.ref C7) = some false)
    (v5 : PySem.W.kitOne K (.ref C5) (.type "ValueError") = some true)
    (m5 : PySem.W.subIn K (.ref C5) (.ref B) = some true)
    (t6_0 : PySem.W.kitOne K (.ref C6) (.ref C0) = some false)
    (t6_1 : PySem.W.kitOne K (.ref C6) (.ref C1) = some false)
    (t6_2 : PySem.W.kitOne K (.ref C6) (.ref C2) = some false)
    (t6_3 : PySem.W.kitOne K (.ref C6) (.ref C3) = some false)
    (t6_4 : PySem.W.kitOne K (.ref C6) (.ref C4) = some false)
    (t6_5 : PySem.W.kitOne K (.ref C6) (.ref C5) = some false)
    (t6_6 : PySem.W.kitOne K (.ref C6) (.ref C6) = some true)
    (t6_7 : PySem.W.kitOne K (.ref C6) (.ref C7) = some false)
    (v6 : PySem.W.kitOne K (.ref C6) (.type "ValueError") = some true)
    (m6 : PySem.W.subIn K (.ref C6) (.ref B) = some true)
    (t7_0 : PySem.W.kitOne K (.ref C7) (.ref C0) = some false)
    (t7_1 : PySem.W.kitOne K (.ref C7) (.ref C1) = some false)
    (t7_2 : PySem.W.kitOne K (.ref C7) (.ref C2) = some false)
    (t7_3 : PySem.W.kitOne K (.ref C7) (.ref C3) = some false)
    (t7_4 : PySem.W.kitOne K (.ref C7) (.ref C4) = some false)
    (t7_5 : PySem.W.kitOne K (.ref C7) (.ref C5) = some false)
    (t7_6 : PySem.W.kitOne K (.ref C7) (.ref C6) = some false)
    (t7_7 : PySem.W.kitOne K (.ref C7) (.ref C7) = some true)
    (v7 : PySem.W.kitOne K (.ref C7) (.type "ValueError") = some true)
    (m7 : PySem.W.subIn K (.ref C7) (.ref B) = some true) :
    ∃ fd : FuncData, (∀ (s : Shared) (v : Value), BindsTo s fd ⟨[v], []⟩ [("script", v)]) ∧
      ∀ base : Heap, K.In base → base.Ns mainGlobals mg → FnG l.prog w K mg base 5 fa fd ["script"] (spLaw K) := by
  have e := hfa.symm.trans (PySem.W.mg_of X G a0)
  cases e
  have F0 := fun_mk (st := s_law) l0 c0 k0
  have D0 : At K mg "law" s_law ["script"] fa _ := ⟨F0, PySem.W.mg_of X G a0,
    F0.binds (ps := ["script"]) fun _ _ _ _ _ _ us hl => match us, hl with | [_], _ => rfl⟩
  have F1 := fun_mk (st := s__law_marks) l1 c1 k1
  have D1 : At K mg "_law_marks" s__law_marks ["e"] f1 _ := ⟨F1, PySem.W.mg_of X G a1,
    F1.binds (ps := ["e"]) fun _ _ _ _ _ _ us hl => match us, hl with | [_], _ => rfl⟩
  have F2 := fun_mk (st := s__law_raise) l2 c2 k2
  have D2 : At K mg "_law_raise" s__law_raise ["at", "thing"] f2 _ := ⟨F2, PySem.W.mg_of X G a2,
    F2.binds (ps := ["at", "thing"]) fun _ _ _ _ _ _ us hl => match us, hl with | [_, _], _ => rfl⟩
  have F3 := fun_mk (st := s__law_heard) l3 c3 k3
  have D3 : At K mg "_law_heard" s__law_heard ["at", "thing"] f3 _ := ⟨F3, PySem.W.mg_of X G a3,
    F3.binds (ps := ["at", "thing"]) fun _ _ _ _ _ _ us hl => match us, hl with | [_, _], _ => rfl⟩
  have F4 := fun_mk (st := s__law_named) l4 c4 k4
  have D4 : At K mg "_law_named" s__law_named ["thing"] f4 _ := ⟨F4, PySem.W.mg_of X G a4,
    F4.binds (ps := ["thing"]) fun _ _ _ _ _ _ us hl => match us, hl with | [_], _ => rfl⟩
  have b : Bas K mg B := ⟨PySem.W.mg_of X G gB, kB, tB, rB, sB, iB⟩
  have c_0 : Cl K C0 := ⟨ga0, gg0, xc0, hd0, cl0, mr0, no0⟩
  have e_0 : ExcC K C0 := ⟨ga0, gg0, xc0, hd0, cl0, n1, n2, mr0⟩
  have c_1 : Cl K C1 := ⟨ga1, gg1, xc1, hd1, cl1, mr1, no1⟩
  have e_1 : ExcC K C1 := ⟨ga1, gg1, xc1, hd1, cl1, n1, n2, mr1⟩
  have c_2 : Cl K C2 := ⟨ga2, gg2, xc2, hd2, cl2, mr2, no2⟩
  have e_2 : ExcC K C2 := ⟨ga2, gg2, xc2, hd2, cl2, n1, n2, mr2⟩
  have c_3 : Cl K C3 := ⟨ga3, gg3, xc3, hd3, cl3, mr3, no3⟩
  have e_3 : ExcC K C3 := ⟨ga3, gg3, xc3, hd3, cl3, n1, n2, mr3⟩
  have c_4 : Cl K C4 := ⟨ga4, gg4, xc4, hd4, cl4, mr4, no4⟩
  have e_4 : ExcC K C4 := ⟨ga4, gg4, xc4, hd4, cl4, n1, n2, mr4⟩
  have c_5 : Cl K C5 := ⟨ga5, gg5, xc5, hd5, cl5, mr5, no5⟩
  have e_5 : ExcC K C5 := ⟨ga5, gg5, xc5, hd5, cl5, n1, n2, mr5⟩
  have c_6 : Cl K C6 := ⟨ga6, gg6, xc6, hd6, cl6, mr6, no6⟩
  have e_6 : ExcC K C6 := ⟨ga6, gg6, xc6, hd6, cl6, n1, n2, mr6⟩
  have c_7 : Cl K C7 := ⟨ga7, gg7, xc7, hd7, cl7, mr7, no7⟩
  have e_7 : ExcC K C7 := ⟨ga7, gg7, xc7, hd7, cl7, n1, n2, mr7⟩
  have r_0 := err_mk (x := "InvalidOrder") (i := 0) (h := h) (oc := ioc0) (od := iod0) (osl := isl0) (by decide) (PySem.W.mg_of X G g0) c_0 n1 n2 ⟨⟨_, _, _, _, _, _, _, _, _, _, _, _, _, _, _, L0, R0⟩, sa0, xc0, ty0, kc0⟩ iC0 tI0 (fun_mk (st := meth (0 + 2)) il0 ic0 ik0)
  have r_1 := err_mk (x := "InvalidText") (i := 1) (h := h) (oc := ioc1) (od := iod1) (osl := isl1) (by decide) (PySem.W.mg_of X G g1) c_1 n1 n2 ⟨⟨_, _, _, _, _, _, _, _, _, _, _, _, _, _, _, L1, R1⟩, sa1, xc1, ty1, kc1⟩ iC1 tI1 (fun_mk (st := meth (1 + 2)) il1 ic1 ik1)
  have r_2 := err_mk (x := "InvalidProgram") (i := 2) (h := h) (oc := ioc2) (od := iod2) (osl := isl2) (by decide) (PySem.W.mg_of X G g2) c_2 n1 n2 ⟨⟨_, _, _, _, _, _, _, _, _, _, _, _, _, _, _, L2, R2⟩, sa2, xc2, ty2, kc2⟩ iC2 tI2 (fun_mk (st := meth (2 + 2)) il2 ic2 ik2)
  have r_3 := err_mk (x := "InvalidCode") (i := 3) (h := h) (oc := ioc3) (od := iod3) (osl := isl3) (by decide) (PySem.W.mg_of X G g3) c_3 n1 n2 ⟨⟨_, _, _, _, _, _, _, _, _, _, _, _, _, _, _, L3, R3⟩, sa3, xc3, ty3, kc3⟩ iC3 tI3 (fun_mk (st := meth (3 + 2)) il3 ic3 ik3)
  have r_4 := err_mk (x := "InvalidPaper") (i := 4) (h := h) (oc := ioc4) (od := iod4) (osl := isl4) (by decide) (PySem.W.mg_of X G g4) c_4 n1 n2 ⟨⟨_, _, _, _, _, _, _, _, _, _, _, _, _, _, _, L4, R4⟩, sa4, xc4, ty4, kc4⟩ iC4 tI4 (fun_mk (st := meth (4 + 2)) il4 ic4 ik4)
  have r_5 := err_mk (x := "InvalidQuestion") (i := 5) (h := h) (oc := ioc5) (od := iod5) (osl := isl5) (by decide) (PySem.W.mg_of X G g5) c_5 n1 n2 ⟨⟨_, _, _, _, _, _, _, _, _, _, _, _, _, _, _, L5, R5⟩, sa5, xc5, ty5, kc5⟩ iC5 tI5 (fun_mk (st := meth (5 + 2)) il5 ic5 ik5)
  have r_6 := err_mk (x := "Refused") (i := 6) (h := h) (oc := ioc6) (od := iod6) (osl := isl6) (by decide) (PySem.W.mg_of X G g6) c_6 n1 n2 ⟨⟨_, _, _, _, _, _, _, _, _, _, _, _, _, _, _, L6, R6⟩, sa6, xc6, ty6, kc6⟩ iC6 tI6 (fun_mk (st := meth (6 + 2)) il6 ic6 ik6)
  let C : Nat → Addr := fun n => match n with | 0 => C0 | 1 => C1 | 2 => C2 | 3 => C3 | 4 => C4 | 5 => C5 | 6 => C6 | _ => C7
  let I : Nat → Addr := fun n => match n with | 0 => I0 | 1 => I1 | 2 => I2 | 3 => I3 | 4 => I4 | 5 => I5 | _ => I6
  let fds : Nat → FuncData := fun n => match n with | 0 => PySem.W.fnOf "__init__" "InvalidOrder.__init__" (defArgs (meth (0 + 2))) (defBody (meth (0 + 2))) (defScope (meth (0 + 2))) .none ikV0 idc0 ipm0 ian0 icd0 ict0 | 1 => PySem.W.fnOf "__init__" "InvalidText.__init__" (defArgs (meth (1 + 2))) (defBody (meth (1 + 2))) (defScope (meth (1 + 2))) .none ikV1 idc1 ipm1 ian1 icd1 ict1 | 2 => PySem.W.fnOf "__init__" "InvalidProgram.__init__" (defArgs (meth (2 + 2))) (defBody (meth (2 + 2))) (defScope (meth (2 + 2))) .none ikV2 idc2 ipm2 ian2 icd2 ict2 | 3 => PySem.W.fnOf "__init__" "InvalidCode.__init__" (defArgs (meth (3 + 2))) (defBody (meth (3 + 2))) (defScope (meth (3 + 2))) .none ikV3 idc3 ipm3 ian3 icd3 ict3 | 4 => PySem.W.fnOf "__init__" "InvalidPaper.__init__" (defArgs (meth (4 + 2))) (defBody (meth (4 + 2))) (defScope (meth (4 + 2))) .none ikV4 idc4 ipm4 ian4 icd4 ict4 | 5 => PySem.W.fnOf "__init__" "InvalidQuestion.__init__" (defArgs (meth (5 + 2))) (defBody (meth (5 + 2))) (defScope (meth (5 + 2))) .none ikV5 idc5 ipm5 ian5 icd5 ict5 | _ => PySem.W.fnOf "__init__" "Refused.__init__" (defArgs (meth (6 + 2))) (defBody (meth (6 + 2))) (defScope (meth (6 + 2))) .none ikV6 idc6 ipm6 ian6 icd6 ict6
  let qs : Nat → Str := fun n => match n with | 0 => ("InvalidOrder.__init__" : Str) | 1 => ("InvalidText.__init__" : Str) | 2 => ("InvalidProgram.__init__" : Str) | 3 => ("InvalidCode.__init__" : Str) | 4 => ("InvalidPaper.__init__" : Str) | 5 => ("InvalidQuestion.__init__" : Str) | _ => ("Refused.__init__" : Str)
  have cE : ∀ n, n < 8 → ExcC K (C n) := fun n hn => match n, hn with
    | 0, _ => e_0
    | 1, _ => e_1
    | 2, _ => e_2
    | 3, _ => e_3
    | 4, _ => e_4
    | 5, _ => e_5
    | 6, _ => e_6
    | 7, _ => e_7
  have cX : ∀ n, n < 8 → XfC K (C n) := fun n hn => match n, hn with
    | 0, _ => ⟨ga0, gg0, xc0, hd0⟩
    | 1, _ => ⟨ga1, gg1, xc1, hd1⟩
    | 2, _ => ⟨ga2, gg2, xc2, hd2⟩
    | 3, _ => ⟨ga3, gg3, xc3, hd3⟩
    | 4, _ => ⟨ga4, gg4, xc4, hd4⟩
    | 5, _ => ⟨ga5, gg5, xc5, hd5⟩
    | 6, _ => ⟨ga6, gg6, xc6, hd6⟩
    | 7, _ => ⟨ga7, gg7, xc7, hd7⟩
  have cN : ∀ n, n < 8 → PySem.W.findIn K (.ref (C n)) "at" = some none := fun n hn => match n, hn with
    | 0, _ => no0
    | 1, _ => no1
    | 2, _ => no2
    | 3, _ => no3
    | 4, _ => no4
    | 5, _ => no5
    | 6, _ => no6
    | 7, _ => no7
  have kV : ∀ n, n < 8 → PySem.W.kitOne K (.ref (C n)) (.type "ValueError") = some true := fun n hn => match n, hn with
    | 0, _ => v0
    | 1, _ => v1
    | 2, _ => v2
    | 3, _ => v3
    | 4, _ => v4
    | 5, _ => v5
    | 6, _ => v6
    | 7, _ => v7
  have xB : ∀ n, n < 8 → PySem.W.exmOne K (.ref (C n)) (.ref B) = some true := fun n hn => match n, hn with
    | 0, _ => PySem.W.exm_ref xB0 hB0 tB m0
    | 1, _ => PySem.W.exm_ref xB0 hB0 tB m1
    | 2, _ => PySem.W.exm_ref xB0 hB0 tB m2
    | 3, _ => PySem.W.exm_ref xB0 hB0 tB m3
    | 4, _ => PySem.W.exm_ref xB0 hB0 tB m4
    | 5, _ => PySem.W.exm_ref xB0 hB0 tB m5
    | 6, _ => PySem.W.exm_ref xB0 hB0 tB m6
    | 7, _ => PySem.W.exm_ref xB0 hB0 tB m7
  have cG : ∀ n, n < 8 → mg (names n) = some (.ref (C n)) := fun n hn => match n, hn with
    | 0, _ => PySem.W.mg_of X G g0
    | 1, _ => PySem.W.mg_of X G g1
    | 2, _ => PySem.W.mg_of X G g2
    | 3, _ => PySem.W.mg_of X G g3
    | 4, _ => PySem.W.mg_of X G g4
    | 5, _ => PySem.W.mg_of X G g5
    | 6, _ => PySem.W.mg_of X G g6
    | 7, _ => PySem.W.mg_of X G g7
  have kt : ∀ n k, n < 8 → k < 8 → PySem.W.kitOne K (.ref (C n)) (.ref (C k)) = some (decide (n = k)) := fun n k hn hk => match n, k, hn, hk with
    | 0, 0, _, _ => t0_0
    | 0, 1, _, _ => t0_1
    | 0, 2, _, _ => t0_2
    | 0, 3, _, _ => t0_3
    | 0, 4, _, _ => t0_4
    | 0, 5, _, _ => t0_5
    | 0, 6, _, _ => t0_6
    | 0, 7, _, _ => t0_7
    | 1, 0, _, _ => t1_0
    | 1, 1, _, _ => t1_1
    | 1, 2, _, _ => t1_2
    | 1, 3, _, _ => t1_3
    | 1, 4, _, _ => t1_4
    | 1, 5, _, _ => t1_5
    | 1, 6, _, _ => t1_6
    | 1, 7, _, _ => t1_7
    | 2, 0, _, _ => t2_0
    | 2, 1, _, _ => t2_1
    | 2, 2, _, _ => t2_2
    | 2, 3, _, _ => t2_3
    | 2, 4, _, _ => t2_4
    | 2, 5, _, _ => t2_5
    | 2, 6, _, _ => t2_6
    | 2, 7, _, _ => t2_7
    | 3, 0, _, _ => t3_0
    | 3, 1, _, _ => t3_1
    | 3, 2, _, _ => t3_2
    | 3, 3, _, _ => t3_3
    | 3, 4, _, _ => t3_4
    | 3, 5, _, _ => t3_5
    | 3, 6, _, _ => t3_6
    | 3, 7, _, _ => t3_7
    | 4, 0, _, _ => t4_0
    | 4, 1, _, _ => t4_1
    | 4, 2, _, _ => t4_2
    | 4, 3, _, _ => t4_3
    | 4, 4, _, _ => t4_4
    | 4, 5, _, _ => t4_5
    | 4, 6, _, _ => t4_6
    | 4, 7, _, _ => t4_7
    | 5, 0, _, _ => t5_0
    | 5, 1, _, _ => t5_1
    | 5, 2, _, _ => t5_2
    | 5, 3, _, _ => t5_3
    | 5, 4, _, _ => t5_4
    | 5, 5, _, _ => t5_5
    | 5, 6, _, _ => t5_6
    | 5, 7, _, _ => t5_7
    | 6, 0, _, _ => t6_0
    | 6, 1, _, _ => t6_1
    | 6, 2, _, _ => t6_2
    | 6, 3, _, _ => t6_3
    | 6, 4, _, _ => t6_4
    | 6, 5, _, _ => t6_5
    | 6, 6, _, _ => t6_6
    | 6, 7, _, _ => t6_7
    | 7, 0, _, _ => t7_0
    | 7, 1, _, _ => t7_1
    | 7, 2, _, _ => t7_2
    | 7, 3, _, _ => t7_3
    | 7, 4, _, _ => t7_4
    | 7, 5, _, _ => t7_5
    | 7, 6, _, _ => t7_6
    | 7, 7, _, _ => t7_7
  refine ⟨PySem.W.fnOf "law" "law" (defArgs s_law) (defBody s_law) (defScope s_law) .none kV0 dc0 pm0 an0 cd0 ct0, fun s v => .of_eq rfl, fun base _ _ => ?_⟩
  have GR := ok_raise (P := l.prog) (w := w) (K := K) (mg := mg) (base := base) (C := C) (F := I) (fds := fds) (qs := qs) (xs := qs) D2 b r_0 r_1 r_2 r_3 r_4 r_5 r_6 (PySem.W.mg_of X G g7) kc7 x7 xc7 ty7
  have GM := ok_marks (P := l.prog) (w := w) (K := K) (mg := mg) (base := base) (C := C) D1 cE cG kt (PySem.W.mg_none_of X G z_isinstance)
  have GH := ok_heard (P := l.prog) (w := w) (K := K) (mg := mg) (base := base) (C := C) D3 D2 D1 GR GM b cE cX cN kV xB (PySem.W.mg_none_of X G z_isinstance) (PySem.W.mg_none_of X G z_ValueError) (PySem.W.mg_none_of X G z_range) (PySem.W.mg_none_of X G z_repr)
  have GN := FnG_mono (ok_named (P := l.prog) (w := w) (K := K) (mg := mg) (base := base) (C := C) (F := I) (fds := fds) (qs := qs) D4 b r_0 r_1 r_2 r_3 r_4 r_5 r_6 (PySem.W.mg_none_of X G z_repr)) (k := 4) (by decide)
  exact ok_law D0 D4 D3 GN GH (PySem.W.mg_none_of X G z_int) (PySem.W.mg_none_of X G z_len) (PySem.W.mg_none_of X G z_range) (PySem.W.mg_none_of X G z_max) (PySem.W.mg_none_of X G z_min) (PySem.W.mg_none_of X G z_str)
end K00
open PySem PySem.W PyProof.Rows
set_option maxRecDepth 100000 in
set_option maxHeartbeats 0 in
theorem PySem.Challenge.cw_lookalike_k00_errors_and_what_they_keep_holds : PySem.Challenge.rw_lookalike_k00_errors_and_what_they_keep.Holds := by
  w_on; o_law; k_head; (case hw => w_witness2)
  k_fill
  refine Zc.walkG (l := PySem.Challenge.rw_lookalike_k00_errors_and_what_they_keep) (n := 63) (k := 5) (x := "script") (sp := K00.spLaw) rfl (by decide) rfl
    ⟨rfl, by decide, by decide⟩ (fun w h Y => PySem.W.kIn_of Y) ?F (fun K H a ns hl hS => ⟨a, ns, rfl, hS, hl, fun _ => rfl⟩)
  case F =>
    intro w mg fa h KX G hmg
    refine' K00.all_mk KX G hmg ?zz_a0 ?zz_l0 ?zz_c0 ?zz_k0 ?zz_a1 ?zz_l1 ?zz_c1 ?zz_k1 ?zz_a2 ?zz_l2 ?zz_c2 ?zz_k2 ?zz_a3 ?zz_l3 ?zz_c3 ?zz_k3 ?zz_a4 ?zz_l4 ?zz_c4 ?zz_k4 ?zz_z_isinstance ?zz_z_ValueError ?zz_z_range ?zz_z_repr ?zz_z_int ?zz_z_len ?zz_z_max ?zz_z_min ?zz_z_str ?zz_gB ?zz_kB ?zz_tB ?zz_rB ?zz_sB ?zz_iB ?zz_xB0 ?zz_hB0 ?zz_n1 ?zz_n2 ?zz_g0 ?zz_ga0 ?zz_gg0 ?zz_xc0 ?zz_hd0 ?zz_cl0 ?zz_mr0 ?zz_no0 ?zz_ty0 ?zz_kc0 ?zz_L0 ?zz_R0 ?zz_sa0 ?zz_iC0 ?zz_tI0 ?zz_il0 ?zz_ic0 ?zz_ik0 ?zz_g1 ?zz_ga1 ?zz_gg1 ?zz_xc1 ?zz_hd1 ?zz_cl1 ?zz_mr1 ?zz_no1 ?zz_ty1 ?zz_kc1 ?zz_L1 ?zz_R1 ?zz_sa1 ?zz_iC1 ?zz_tI1 ?zz_il1 ?zz_ic1 ?zz_ik1 ?zz_g2 ?zz_ga2 ?zz_gg2 ?zz_xc2 ?zz_hd2 ?zz_cl2 ?zz_mr2 ?zz_no2 ?zz_ty2 ?zz_kc2 ?zz_L2 ?zz_R2 ?zz_sa2 ?zz_iC2 ?zz_tI2 ?zz_il2 ?zz_ic2 ?zz_ik2 ?zz_g3 ?zz_ga3 ?zz_gg3 ?zz_xc3 ?zz_hd3 ?zz_cl3 ?zz_mr3 ?zz_no3 ?zz_ty3 ?zz_kc3 ?zz_L3 ?zz_R3 ?zz_sa3 ?zz_iC3 ?zz_tI3 ?zz_il3 ?zz_ic3 ?zz_ik3 ?zz_g4 ?zz_ga4 ?zz_gg4 ?zz_xc4 ?zz_hd4 ?zz_cl4 ?zz_mr4 ?zz_no4 ?zz_ty4 ?zz_kc4 ?zz_L4 ?zz_R4 ?zz_sa4 ?zz_iC4 ?zz_tI4 ?zz_il4 ?zz_ic4 ?zz_ik4 ?zz_g5 ?zz_ga5 ?zz_gg5 ?zz_xc5 ?zz_hd5 ?zz_cl5 ?zz_mr5 ?zz_no5 ?zz_ty5 ?zz_kc5 ?zz_L5 ?zz_R5 ?zz_sa5 ?zz_iC5 ?zz_tI5 ?zz_il5 ?zz_ic5 ?zz_ik5 ?zz_g6 ?zz_ga6 ?zz_gg6 ?zz_xc6 ?zz_hd6 ?zz_cl6 ?zz_mr6 ?zz_no6 ?zz_ty6 ?zz_kc6 ?zz_L6 ?zz_R6 ?zz_sa6 ?zz_iC6 ?zz_tI6 ?zz_il6 ?zz_ic6 ?zz_ik6 ?zz_g7 ?zz_ga7 ?zz_gg7 ?zz_xc7 ?zz_hd7 ?zz_cl7 ?zz_mr7 ?zz_no7 ?zz_ty7 ?zz_kc7 ?zz_x7 ?zz_t0_0 ?zz_t0_1 ?zz_t0_2 ?zz_t0_3 ?zz_t0_4 ?zz_t0_5 ?zz_t0_6 ?zz_t0_7 ?zz_v0 ?zz_m0 ?zz_t1_0 ?zz_t1_1 ?zz_t1_2 ?zz_t1_3 ?zz_t1_4 ?zz_t1_5 ?zz_t1_6 ?zz_t1_7 ?zz_v1 ?zz_m1 ?zz_t2_0 ?zz_t2_1 ?zz_t2_2 ?zz_t2_3 ?zz_t2_4 ?zz_t2_5 ?zz_t2_6 ?zz_t2_7 ?zz_v2 ?zz_m2 ?zz_t3_0 ?zz_t3_1 ?zz_t3_2 ?zz_t3_3 ?zz_t3_4 ?zz_t3_5 ?zz_t3_6 ?zz_t3_7 ?zz_v3 ?zz_m3 ?zz_t4_0 ?zz_t4_1 ?zz_t4_2 ?zz_t4_3 ?zz_t4_4 ?zz_t4_5 ?zz_t4_6 ?zz_t4_7 ?zz_v4 ?zz_m4 ?zz_t5_0 ?zz_t5_1 ?zz_t5_2 ?zz_t5_3 ?zz_t5_4 ?zz_t5_5 ?zz_t5_6 ?zz_t5_7 ?zz_v5 ?zz_m5 ?zz_t6_0 ?zz_t6_1 ?zz_t6_2 ?zz_t6_3 ?zz_t6_4 ?zz_t6_5 ?zz_t6_6 ?zz_t6_7 ?zz_v6 ?zz_m6 ?zz_t7_0 ?zz_t7_1 ?zz_t7_2 ?zz_t7_3 ?zz_t7_4 ?zz_t7_5 ?zz_t7_6 ?zz_t7_7 ?zz_v7 ?zz_m7
    (case zz_a0 => k_is)
    (case zz_l0 => k_is)
    (case zz_c0 => k_is)
    (case zz_k0 => k_is)
    (case zz_a1 => k_is)
    (case zz_l1 => k_is)
    (case zz_c1 => k_is)
    (case zz_k1 => k_is)
    (case zz_a2 => k_is)
    (case zz_l2 => k_is)
    (case zz_c2 => k_is)
    (case zz_k2 => k_is)
    (case zz_a3 => k_is)
    (case zz_l3 => k_is)
    (case zz_c3 => k_is)
    (case zz_k3 => k_is)
    (case zz_a4 => k_is)
    (case zz_l4 => k_is)
    (case zz_c4 => k_is)
    (case zz_k4 => k_is)
    (case zz_z_isinstance => k_is)
    (case zz_z_ValueError => k_is)
    (case zz_z_range => k_is)
    (case zz_z_repr => k_is)
    (case zz_z_int => k_is)
    (case zz_z_len => k_is)
    (case zz_z_max => k_is)
    (case zz_z_min => k_is)
    (case zz_z_str => k_is)
    (case zz_gB => k_is)
    (case zz_kB => k_is)
    (case zz_tB => k_is)
    (case zz_rB => k_is)
    (case zz_sB => k_is)
    (case zz_iB => k_is)
    (case zz_xB0 => k_is)
    (case zz_hB0 => k_is)
    (case zz_n1 => k_is)
    (case zz_n2 => k_is)
    (case zz_g0 => k_is)
    (case zz_ga0 => k_is)
    (case zz_gg0 => k_is)
    (case zz_xc0 => k_is)
    (case zz_hd0 => k_is)
    (case zz_cl0 => k_is)
    (case zz_mr0 => k_is)
    (case zz_no0 => k_is)
    (case zz_ty0 => k_is)
    (case zz_kc0 => k_is)
    (case zz_L0 => k_is)
    (case zz_R0 => decide +kernel)
    (case zz_sa0 => k_is)
    (case zz_iC0 => k_is)
    (case zz_tI0 => k_is)
    (case zz_il0 => k_is)
    (case zz_ic0 => k_is)
    (case zz_ik0 => k_is)
    (case zz_g1 => k_is)
    (case zz_ga1 => k_is)
    (case zz_gg1 => k_is)
    (case zz_xc1 => k_is)
    (case zz_hd1 => k_is)
    (case zz_cl1 => k_is)
    (case zz_mr1 => k_is)
    (case zz_no1 => k_is)
    (case zz_ty1 => k_is)
    (case zz_kc1 => k_is)
    (case zz_L1 => k_is)
    (case zz_R1 => decide +kernel)
    (case zz_sa1 => k_is)
    (case zz_iC1 => k_is)
    (case zz_tI1 => k_is)
    (case zz_il1 => k_is)
    (case zz_ic1 => k_is)
    (case zz_ik1 => k_is)
    (case zz_g2 => k_is)
    (case zz_ga2 => k_is)
    (case zz_gg2 => k_is)
    (case zz_xc2 => k_is)
    (case zz_hd2 => k_is)
    (case zz_cl2 => k_is)
    (case zz_mr2 => k_is)
    (case zz_no2 => k_is)
    (case zz_ty2 => k_is)
    (case zz_kc2 => k_is)
    (case zz_L2 => k_is)
    (case zz_R2 => decide +kernel)
    (case zz_sa2 => k_is)
    (case zz_iC2 => k_is)
    (case zz_tI2 => k_is)
    (case zz_il2 => k_is)
    (case zz_ic2 => k_is)
    (case zz_ik2 => k_is)
    (case zz_g3 => k_is)
    (case zz_ga3 => k_is)
    (case zz_gg3 => k_is)
    (case zz_xc3 => k_is)
    (case zz_hd3 => k_is)
    (case zz_cl3 => k_is)
    (case zz_mr3 => k_is)
    (case zz_no3 => k_is)
    (case zz_ty3 => k_is)
    (case zz_kc3 => k_is)
    (case zz_L3 => k_is)
    (case zz_R3 => decide +kernel)
    (case zz_sa3 => k_is)
    (case zz_iC3 => k_is)
    (case zz_tI3 => k_is)
    (case zz_il3 => k_is)
    (case zz_ic3 => k_is)
    (case zz_ik3 => k_is)
    (case zz_g4 => k_is)
    (case zz_ga4 => k_is)
    (case zz_gg4 => k_is)
    (case zz_xc4 => k_is)
    (case zz_hd4 => k_is)
    (case zz_cl4 => k_is)
    (case zz_mr4 => k_is)
    (case zz_no4 => k_is)
    (case zz_ty4 => k_is)
    (case zz_kc4 => k_is)
    (case zz_L4 => k_is)
    (case zz_R4 => decide +kernel)
    (case zz_sa4 => k_is)
    (case zz_iC4 => k_is)
    (case zz_tI4 => k_is)
    (case zz_il4 => k_is)
    (case zz_ic4 => k_is)
    (case zz_ik4 => k_is)
    (case zz_g5 => k_is)
    (case zz_ga5 => k_is)
    (case zz_gg5 => k_is)
    (case zz_xc5 => k_is)
    (case zz_hd5 => k_is)
    (case zz_cl5 => k_is)
    (case zz_mr5 => k_is)
    (case zz_no5 => k_is)
    (case zz_ty5 => k_is)
    (case zz_kc5 => k_is)
    (case zz_L5 => k_is)
    (case zz_R5 => decide +kernel)
    (case zz_sa5 => k_is)
    (case zz_iC5 => k_is)
    (case zz_tI5 => k_is)
    (case zz_il5 => k_is)
    (case zz_ic5 => k_is)
    (case zz_ik5 => k_is)
    (case zz_g6 => k_is)
    (case zz_ga6 => k_is)
    (case zz_gg6 => k_is)
    (case zz_xc6 => k_is)
    (case zz_hd6 => k_is)
    (case zz_cl6 => k_is)
    (case zz_mr6 => k_is)
    (case zz_no6 => k_is)
    (case zz_ty6 => k_is)
    (case zz_kc6 => k_is)
    (case zz_L6 => k_is)
    (case zz_R6 => decide +kernel)
    (case zz_sa6 => k_is)
    (case zz_iC6 => k_is)
    (case zz_tI6 => k_is)
    (case zz_il6 => k_is)
    (case zz_ic6 => k_is)
    (case zz_ik6 => k_is)
    (case zz_g7 => k_is)
    (case zz_ga7 => k_is)
    (case zz_gg7 => k_is)
    (case zz_xc7 => k_is)
    (case zz_hd7 => k_is)
    (case zz_cl7 => k_is)
    (case zz_mr7 => k_is)
    (case zz_no7 => k_is)
    (case zz_ty7 => k_is)
    (case zz_kc7 => k_is)
    (case zz_x7 => k_exc)
    (case zz_t0_0 => first | k_is | kit_is)
    (case zz_t0_1 => first | k_is | kit_is)
    (case zz_t0_2 => first | k_is | kit_is)
    (case zz_t0_3 => first | k_is | kit_is)
    (case zz_t0_4 => first | k_is | kit_is)
    (case zz_t0_5 => first | k_is | kit_is)
    (case zz_t0_6 => first | k_is | kit_is)
    (case zz_t0_7 => first | k_is | kit_is)
    (case zz_v0 => first | k_is | kit_is)
    (case zz_m0 => k_is)
    (case zz_t1_0 => first | k_is | kit_is)
    (case zz_t1_1 => first | k_is | kit_is)
    (case zz_t1_2 => first | k_is | kit_is)
    (case zz_t1_3 => first | k_is | kit_is)
    (case zz_t1_4 => first | k_is | kit_is)
    (case zz_t1_5 => first | k_is | kit_is)
    (case zz_t1_6 => first | k_is | kit_is)
    (case zz_t1_7 => first | k_is | kit_is)
    (case zz_v1 => first | k_is | kit_is)
    (case zz_m1 => k_is)
    (case zz_t2_0 => first | k_is | kit_is)
    (case zz_t2_1 => first | k_is | kit_is)
    (case zz_t2_2 => first | k_is | kit_is)
    (case zz_t2_3 => first | k_is | kit_is)
    (case zz_t2_4 => first | k_is | kit_is)
    (case zz_t2_5 => first | k_is | kit_is)
    (case zz_t2_6 => first | k_is | kit_is)
    (case zz_t2_7 => first | k_is | kit_is)
    (case zz_v2 => first | k_is | kit_is)
    (case zz_m2 => k_is)
    (case zz_t3_0 => first | k_is | kit_is)
    (case zz_t3_1 => first | k_is | kit_is)
    (case zz_t3_2 => first | k_is | kit_is)
    (case zz_t3_3 => first | k_is | kit_is)
    (case zz_t3_4 => first | k_is | kit_is)
    (case zz_t3_5 => first | k_is | kit_is)
    (case zz_t3_6 => first | k_is | kit_is)
    (case zz_t3_7 => first | k_is | kit_is)
    (case zz_v3 => first | k_is | kit_is)
    (case zz_m3 => k_is)
    (case zz_t4_0 => first | k_is | kit_is)
    (case zz_t4_1 => first | k_is | kit_is)
    (case zz_t4_2 => first | k_is | kit_is)
    (case zz_t4_3 => first | k_is | kit_is)
    (case zz_t4_4 => first | k_is | kit_is)
    (case zz_t4_5 => first | k_is | kit_is)
    (case zz_t4_6 => first | k_is | kit_is)
    (case zz_t4_7 => first | k_is | kit_is)
    (case zz_v4 => first | k_is | kit_is)
    (case zz_m4 => k_is)
    (case zz_t5_0 => first | k_is | kit_is)
    (case zz_t5_1 => first | k_is | kit_is)
    (case zz_t5_2 => first | k_is | kit_is)
    (case zz_t5_3 => first | k_is | kit_is)
    (case zz_t5_4 => first | k_is | kit_is)
    (case zz_t5_5 => first | k_is | kit_is)
    (case zz_t5_6 => first | k_is | kit_is)
    (case zz_t5_7 => first | k_is | kit_is)
    (case zz_v5 => first | k_is | kit_is)
    (case zz_m5 => k_is)
    (case zz_t6_0 => first | k_is | kit_is)
    (case zz_t6_1 => first | k_is | kit_is)
    (case zz_t6_2 => first | k_is | kit_is)
    (case zz_t6_3 => first | k_is | kit_is)
    (case zz_t6_4 => first | k_is | kit_is)
    (case zz_t6_5 => first | k_is | kit_is)
    (case zz_t6_6 => first | k_is | kit_is)
    (case zz_t6_7 => first | k_is | kit_is)
    (case zz_v6 => first | k_is | kit_is)
    (case zz_m6 => k_is)
    (case zz_t7_0 => first | k_is | kit_is)
    (case zz_t7_1 => first | k_is | kit_is)
    (case zz_t7_2 => first | k_is | kit_is)
    (case zz_t7_3 => first | k_is | kit_is)
    (case zz_t7_4 => first | k_is | kit_is)
    (case zz_t7_5 => first | k_is | kit_is)
    (case zz_t7_6 => first | k_is | kit_is)
    (case zz_t7_7 => first | k_is | kit_is)
    (case zz_v7 => first | k_is | kit_is)
    (case zz_m7 => k_is)
end
