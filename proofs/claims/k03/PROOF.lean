import PyProof.Rows.All
import Wide.All
import OpenK.AllK
import Wide.FinOn
import HandS.ForMost
import HandS.Wide
import HandS.IsInst
import HandS.CallLocal
import HandS.Evl
import HandS.Style
import HandS.More
import KE.LtSeq
import HandS.Conv
import HandS.Walk
import HandS.Iter
import HandS.Dict
import HandS.Text
import HandS.RaiseMore
import PySem.Challenge.RW_lookalike_k03_words_and_ops
set_option Elab.async false
set_option linter.all false
set_option maxRecDepth 100000
section
set_option maxHeartbeats 4000000
/-! What every law of this program wants: a law's def where nothing is being shown, repr of data, calls by keywords alone. -/
namespace Zc
open PySem PySem.Spec PyProof.Rows L2

section
variable {P : Program} {w : World} {K : PySem.W.Frag} {mg : Str → Option Value} {base : Heap}

/-- a def's promise, kept wherever no repr runs around the call -/
structure FnG (P : Program) (w : World) (K : PySem.W.Frag) (mg : Str → Option Value)
    (base : Heap) (k : Nat) (f : Addr) (fd : FuncData) (ps : List Str) (sp : Sp) : Prop where
  len : ∀ vs H Q E, sp vs H Q E → vs.length = ps.length
  run : ∀ (A : Around) (outer : List Env) (s : Shared) (H : Hp) (args : Args)
    (us : List Value) (vs : List V) (Q : VK) (E : XK), Room k A → A.guards = some [] →
    Env0 P w K mg base A outer s H → BindsTo s fd args (ps.zip us) → Vals vs us → sp vs H Q E →
    codeAny (model P w) A (.call (.ref f) args) (CR CX0 outer P w H s Q E) s

/-- the rule for such a def -/
theorem fnG_ok {x qual : Str} {st : Stmt} {f : Addr} {fd : FuncData} {N ps : List Str} {k : Nat} {sp : Sp}
    (F : Fun K x qual st f fd) (S : FnScope N ps (defScope st))
    (len : ∀ vs H Q E, sp vs H Q E → vs.length = ps.length)
    (body : ∀ (cdv : Value) (A : Around) (outer : List Env) (s : Shared) (H : Hp) (vs : List V) (Q : VK) (E : XK),
      Room k (A.deeper (envOfC qual (defScope st) s.heap.objs.size f cdv)) → A.guards = some [] → sp vs H Q E →
      ∃ t, PSs (cxOf CX0 P w K mg base N qual (defScope st) f cdv A outer s H E).nox (defBody st) t ∧
        t { nx := fun _ H' => Q .non H', rt := Q } (start N vs) H) :
    FnG P w K mg base (k + 1) f fd ps sp := by
  obtain ⟨oc, od, kV, doc, pm, an, cdv, ct, osl, rfl, lk, hcd⟩ := F.ex
  constructor
  · exact len
  intro A outer s H args us vs Q E hr hg e0 hb r hsp
  have l0 := len _ _ _ _ hsp
  have kin : K.In s.heap :=
    e0.mod.kin.keeps fun b o e => (e0.bs b o e).1
  have nolim : s.heap.NoLimit :=
    e0.mod.nolimit.keeps fun b o e => (e0.bs b o e).1
  have kinds : ∀ y ∈ ps.zip us, (defScope st).names.lookup y.1 = some .local ∨
      ((defScope st).names.lookup y.1 = some .cell ∧
        ((cellsFrom (s.heap.objs.size + 1) (defScope st).names []).lookup y.1).isSome = true) := by
    rintro ⟨n, v⟩ hy
    cases S.par n (List.of_mem_zip hy).1 with
    | inl q => exact Or.inl q
    | inr q => exact Or.inr ⟨q, PySem.W.cellsFrom_some _ _ _ (Or.inl q)⟩
  apply codeAny_call_function hr.depth (kin _ _ lk) rfl S.co S.gen rfl (PySem.W.codeRec_of kin hcd)
    (hb _ _ _ _ ?_)
  apply wpAny_newFunctionEnv_cells S.kind kinds
  intro env he s1 x
  subst he
  refine And.intro (nolim.keeps x.toInCall.keep) (codeAny_func ?_)
  obtain ⟨t, ht, hq⟩ := body cdv A outer s H vs Q E (hr.deeper _) hg hsp
  have J : Inv (cxOf CX0 P w K mg base N qual (defScope st) f cdv A outer s H E) [] (start N vs) H s1 :=
    inv_start S hr.hd e0 l0 r x
  apply wpAny_mono (ht.nox.run [] s1 (start N vs) H _ J hq)
  · intro fl s' hs
    have fin : ∀ {σ' : L2.St} {H' : Hp} {v : V} {u : Value},
        Inv (cxOf CX0 P w K mg base N qual (defScope st) f cdv A outer s H E) [] σ' H' s' →
        RelV v u → Q v H' → CE outer P w H s Q u s' := by
      intro σ' H' v u J' rv q
      exact ⟨v, H', J'.os, J'.bare, J'.base, J'.hok, rv, q⟩
    match fl, hs with
    | .ret u, hs =>
      obtain ⟨v, σ', H', J', rv, q⟩ := hs
      exact fin J' rv q
    | .next, hs =>
      obtain ⟨σ', H', J', q⟩ := hs
      exact fin (v := V.non) (u := Value.none) J' rfl q
    | .brk, hs =>
      obtain ⟨_, _, _, q⟩ := hs
      exact q.elim
    | .cont, hs =>
      obtain ⟨_, _, _, q⟩ := hs
      exact q.elim
  · intro e s' hs
    exact hs

/-- a law's call, from such a promise -/
theorem callG {mb : Str → Option Value} {k : Nat} {fa a : Addr} {fd : FuncData} {x : Str} {sp : Sp}
    {s₁ : Shared} {vs : List Value} {ns : List Int}
    (KX : K.In s₁.heap) (gl : s₁.heap.Ns mainGlobals mg) (bn : s₁.heap.Ns builtinsNs mb)
    (bb : ∀ x : Str, x ≠ "__name__" → mb x = bootBuiltins x)
    (lim : s₁.heap.NoLimit) (gens : s₁.gens = #[])
    (ha : s₁.heap.get? a = some { cls := .type "list", data := .seq vs.toArray })
    (hi : IntsAre vs ns) (hl : ns.length ≤ sizeLine) (hr : Room k callerA)
    (F : ∀ base : Heap, K.In base → base.Ns mainGlobals mg → FnG P w K mg base k fa fd [x] sp)
    (bind : ∀ (s : Shared) (u : Value), BindsTo s fd ⟨[u], []⟩ [(x, u)])
    (hsp : ∀ H : Hp, SqL K H a (ns.map V.int) → sp [.ref a] H (fun v _ => v = .bl true) fun _ _ _ => False) :
    codeAny (model P w) callerA (.call (.ref fa) ⟨[.ref a], []⟩)
      (fun r s' => r = .ok (.ret (.bool true)) ∧ OldK s₁.heap s'.heap ∧ s'.os = s₁.os ∧ AllBare s'.gens) s₁ := by
  have rv := vals_ints hi
  have lv := hi.length
  have main : ∀ H : Hp, Only H → SqL K H a (ns.map V.int) → HOk P w H s₁.heap →
      (∀ b, H b ≠ none → b = a) → (H a ≠ none → K.lookup a = none) →
      codeAny (model P w) callerA (.call (.ref fa) ⟨[.ref a], []⟩)
        (fun r s' => r = .ok (.ret (.bool true)) ∧ OldK s₁.heap s'.heap ∧ s'.os = s₁.os ∧ AllBare s'.gens) s₁ := by
    intro H only hS ok one away
    have offA : ∀ {b : Addr} {u : HO}, H b = some u → b = a := fun {b u} q =>
      one b (by rw [q]; intro z; cases z)
    have dictFree : ∀ {b : Addr} {o : Obj} {es : Array DictEntry} {ep : Nat},
        s₁.heap.get? b = some o → o.data = .dict es ep → H b = none := by
      intro b o es ep e d
      match q : H b with
      | none => rfl
      | some u =>
        have z := offA q
        rw [z, ha] at e
        have e' := Option.some.inj e
        rw [← e'] at d
        have d' : Data.seq vs.toArray _ = Data.dict es ep := d
        exact Data.noConfusion d'
    have nsHid : ∀ {b : Addr} {m : Str → Option Value}, s₁.heap.Ns b m → (hidT s₁.heap H).Ns b m := by
      rintro b m ⟨o, es, ep, e, d, r⟩
      exact ⟨o, es, ep, hidT_get e (dictFree e d), d, r⟩
    have kinHid : K.In (hidT s₁.heap H) := by
      intro b o e
      apply hidT_get (KX b o e)
      match q : H b with
      | none => rfl
      | some u =>
        have z := offA q
        rw [z] at e
        have z2 := away (by rw [← z, q]; intro y; cases y)
        rw [z2] at e
        cases e
    have md : Mod K mg (hidT s₁.heap H) := by
      refine ⟨kinHid, nsHid gl, ⟨mb, nsHid bn, bb⟩, ?_⟩
      obtain ⟨mc, h1, h2⟩ := lim
      exact ⟨mc, nsHid h1, h2⟩
    have e0 : Env0 P w K mg (hidT s₁.heap H) callerA [] s₁ H := by
      refine ⟨rfl, md, fun b o e => of_hidT e, Nat.le_of_eq (hidT_size _ _), trivial, ?_, ok, .of_eq gens⟩
      intro b hb
      exact absurd (show b ∈ ([] : List Addr) from hb) List.not_mem_nil
    have run := (F _ kinHid (nsHid gl)).run callerA [] s₁ H ⟨[.ref a], []⟩ [.ref a] [.ref a] _ _ hr rfl e0
      (bind s₁ (.ref a)) (.cons rfl .nil) (hsp H hS)
    apply codeAny_mono run
    intro r s' h
    match r, h with
    | .error e, h => exact False.elim h
    | .ok .next, h => exact False.elim h
    | .ok .brk, h => exact False.elim h
    | .ok .cont, h => exact False.elim h
    | .ok (.ret u), h =>
      obtain ⟨v, H', os, bare, un, ok', r', q⟩ := h
      have q' : v = .bl true := q
      subst q'
      have r2 : u = Value.bool true := r'
      subst r2
      refine ⟨rfl, OldK.of_keep ?_, os, bare⟩
      intro b o e
      match q : H b with
      | none => exact un.keep b o e q (fun z => absurd (show b ∈ ([] : List Addr) from z) List.not_mem_nil) List.not_mem_nil
      | some u =>
        cases only b with
        | inl z =>
          rw [q] at z
          cases z
        | inr z =>
          obtain ⟨ob, xs, z⟩ := z
          obtain ⟨e1, _⟩ := ok b _ z
          obtain ⟨e2, _⟩ := ok' b _ (un.frzs b ob _ z)
          rw [e] at e1
          rw [Option.some.inj e1]
          exact e2
  match hk : K.lookup a with
  | some o =>
    have e := KX a o hk
    rw [ha] at e
    have e' := Option.some.inj e
    subst e'
    apply main (fun _ => none)
    · intro b
      exact Or.inl rfl
    · exact Or.inr ⟨_, vs.toArray, _, hk, rfl, rfl, rfl, by rw [List.size_toArray, lv]; exact hl, by simpa using rv⟩
    · intro b u z
      have z' : (none : Option HO) = some u := z
      cases z'
    · intro b z
      exact absurd rfl z
    · intro z
      exact absurd rfl z
  | none =>
    have yes : ∀ {b : Addr}, b = a → (fun b => if b = a then some (HO.frz { cls := .type "list", data := .seq vs.toArray } (.lst (ns.map V.int))) else none : Hp) b
        = some (HO.frz { cls := .type "list", data := .seq vs.toArray } (.lst (ns.map V.int))) := fun h => if_pos h
    have no : ∀ {b : Addr}, ¬ b = a → (fun b => if b = a then some (HO.frz { cls := .type "list", data := .seq vs.toArray } (.lst (ns.map V.int))) else none : Hp) b = none := fun h => if_neg h
    apply main (fun b => if b = a then some (HO.frz { cls := .type "list", data := .seq vs.toArray } (.lst (ns.map V.int))) else none)
    · intro b
      by_cases hb : b = a
      · exact Or.inr ⟨_, _, yes hb⟩
      · exact Or.inl (no hb)
    · exact Or.inl (Or.inr ⟨_, yes rfl⟩)
    · intro b u z
      by_cases hb : b = a
      · have z' := (yes hb).symm.trans z
        have z2 := Option.some.inj z'
        subst z2
        subst hb
        exact ⟨ha, by rw [List.length_map]; exact hl, vs, _, rv, ha⟩
      · have z' := (no hb).symm.trans z
        cases z'
    · intro b z
      by_cases hb : b = a
      · exact hb
      · exact absurd (no hb) z
    · intro _
      exact hk
end

/-- the goal that the head leaves, from such a promise -/
theorem walkG {l : PySem.W.OpenLaw} {n k : Nat} {q : Program} {loose : List Str}
    {XP : (Str → Option Value) → Heap → Prop} {YP : World → Heap → Prop} {d : DefRec}
    {K : Params → PySem.W.Frag} {sp : PySem.W.Frag → Sp} {x : Str}
    (hn : l.most = some n) (hn2 : n ≤ sizeLine) (hdf : d.params.defaults = []) (hr : Room k callerA)
    (hY : ∀ (w : World) (h : Heap), YP w h → (K w.params).In h)
    (F : ∀ (w : World) (mg : Str → Option Value) (fa : Addr) (h : Heap), (K w.params).In h → h.Ns mainGlobals mg →
      mg d.name = some (.ref fa) →
      ∃ fd : FuncData, (∀ (s : Shared) (u : Value), BindsTo s fd ⟨[u], []⟩ [(x, u)]) ∧
        ∀ base : Heap, (K w.params).In base → base.Ns mainGlobals mg →
          FnG l.prog w (K w.params) mg base k fa fd [x] (sp (K w.params)))
    (hsp : ∀ (K : PySem.W.Frag) (H : Hp) (a : Addr) (ns : List Int), ns.length ≤ n → SqL K H a (ns.map V.int) →
      sp K [.ref a] H (fun v _ => v = .bl true) fun _ _ _ => False) :
    PySem.W.WalkO q loose XP YP l.row.toRowW d [] (fun f vs => PySem.call f vs) := by
  apply Att.attach_call hn hdf
  intro w s₀ s₁ mg mb fa o pm cd doc a vs ns G Y ho hd hcd hmg hobj hints hlen hg
  have kx := hY w _ Y
  obtain ⟨fd, hb, hF⟩ := F w mg fa _ kx G.T.g hmg
  exact callG kx G.T.g G.T.b G.T.builtins G.T.nolimit hg hobj hints (Nat.le_trans hlen hn2) hr hF hb
    (fun H hS => hsp (K w.params) H a ns hlen hS)

section
variable {X : Cx}
/-- repr of data: what Python shows of it -/
theorem call_repr_D (hg : X.A.guards = some []) (hu : X.A.units + 64 < cLine) : CallR X (.builtin "repr")
    (fun xs H Q => ∃ v d, xs = [v] ∧ isDisplay d = true ∧ Dp X.K H v d ∧ d.showable = true ∧ d.hasDict = false ∧ d.depth < 40 ∧ d.shown.length ≤ sizeLine ∧ Q (.str d.shown) H) := by
  intro pins s σ H xs us Q I r h
  obtain ⟨v, d, rfl, hdsp, hD, hsh, hnd, hdp, hsz, q⟩ := h
  obtain ⟨u, rfl, ru⟩ := vals1 r
  obtain ⟨as, rd⟩ := Dp.reads I d v u hD ru
  obtain ⟨a, rfl⟩ := isRef_of_reads rd hdsp
  refine repr_of_reads' rd hsh (PyData.noDict_hsm hnd) hg (by omega) (fun _ _ e => e) (fun h' u tk hk => ?_) hsz
  exact ⟨.str d.shown, H, I.kept hk, ⟨_, rfl⟩, q⟩

/-- f(k = v, ..), no value without a name -/
theorem pe_callKw {CX : CXT} {k : Nat} {f : Addr} {fd : FuncData} {ps ks : List Str} {sp : Sp} {E : XK} {x : Str} {p pos : Pos}
    {kws : List Keyword} {tk : TA} {g : List Value → List Value → List Value} {gV : List V → List V → List V}
    (F : FnOk X.prog X.w X.K X.mg X.base CX k f fd ps sp) (hr : Room k X.A) (hg : Gl X x) (hm : X.mg x = some (.ref f))
    (hk : PySem.W.keepIn X.K (.ref f) = true) (hb : KBinds X.K fd ps ks g gV) (hx : Passes CX X E) (hkw : PK X kws tk)
    (hall : (backToKw pos (keywordEach kws X.env)).all (·.1.isSome) = true := by rfl)
    (hks : (backToKw pos (keywordEach kws X.env)).filterMap (·.1) = ks := by rfl)
    (hdb : (x == ("__debug__" : Str)) = false := by decide)
    (hpl : ((backTo pos (starEach [] X.env)).any (·.1) || (backToKw pos (keywordEach kws X.env)).any (·.1.isNone)) = false := by rfl) :
    PE X (.Call (.Name x p) [] kws pos) (tCallK sp gV E tNil tk) := by
  constructor
  intro pins s σ H Q I h
  apply wpAny_Call_Name_kw (ld_glob I hg hm ?_ hdb)
  apply PySem.W.callWith_KW0 (h₀ := X.base) I.ok.mod.kin hk hall ?_ hpl
  apply thn (hkw.run pos pins s σ H _ I h)
  rintro ws s2 ⟨zs, H2, I2, rz, q2⟩
  refine ⟨I2.kIn, ?_⟩
  rw [hks]
  exact run_fnk (us := []) (vs := []) F hr hb hx I2 .nil rz q2
end
end Zc
end

section
set_option maxHeartbeats 1000000
/-! The deal from which every law of this program draws: what it holds, and that a draw is some number below its bound. -/
namespace Zc
open PySem PySem.Spec PyProof.Rows L2

/-- a def of the text: where it stands, by what name, how its arguments bind -/
structure At (K : PySem.W.Frag) (mg : Str → Option Value) (x : Str) (st : Stmt) (ps : List Str) (f : Addr) (fd : FuncData) : Prop where
  F : Fun K x x st f fd
  g : mg x = some (.ref f)
  b : Binds K fd ps []

/-- a deal at d, its list at l -/
def Deal (H : Hp) (d l : Addr) : Prop := ∃ (xs : List Int) (b : Int), d ≠ l ∧ H d = some (.lst [.ref l, .int b]) ∧
  H l = some (.lst (xs.map V.int)) ∧ xs.length ≤ 48 ∧ (∀ x ∈ xs, 0 ≤ x) ∧ 0 ≤ b ∧ b < 2147483647
/-- all that was tracked beside the deal is as it was -/
def But (d l : Addr) (H H' : Hp) : Prop := ∀ b o, b ≠ d → b ≠ l → H b = some o → H' b = some o
theorem But.refl (d l : Addr) (H : Hp) : But d l H H := fun _ _ _ _ h => h
theorem But.trans {d l : Addr} {H H1 H2 : Hp} (a : But d l H H1) (b : But d l H1 H2) : But d l H H2 :=
  fun c o n1 n2 h => b c o n1 n2 (a c o n1 n2 h)
theorem But.of {d l : Addr} {H H' : Hp} (a : Same H H') : But d l H H' := fun c o _ _ h => a c o h
theorem But.updD {d l : Addr} {H H' : Hp} {o : HO} (a : But d l H H') : But d l H (upd H' d o) := fun c u n1 n2 h => by
  rw [upd_ne n1]
  exact a c u n1 n2 h
theorem But.updL {d l : Addr} {H H' : Hp} {o : HO} (a : But d l H H') : But d l H (upd H' l o) := fun c u n1 n2 h => by
  rw [upd_ne n2]
  exact a c u n1 n2 h
theorem same_new {H : Hp} {p : Addr} {o : HO} (h : H p = none) : Same H (upd H p o) := fun b x e => by
  rw [upd_ne (ne_of_none e h)]
  exact e

/-! ### lists of ints as data -/
theorem dp_ints {K : PySem.W.Frag} {H : Hp} : ∀ ns : List Int, DpAll K H (ns.map V.int) (ns.map PyData.int)
  | [] => .nil
  | n :: r => .cons (.int n) (dp_ints r)
theorem can_ints : ∀ ns : List Int, PyData.canLayAll0 (ns.map PyData.int) = true
  | [] => by simp [PyData.canLayAll0]
  | n :: r => by simp [PyData.canLayAll0, PyData.canLay0, can_ints r]
theorem depth_ints : ∀ ns : List Int, PyData.depthAll (ns.map PyData.int) = 0
  | [] => by simp [PyData.depthAll]
  | n :: r => by simp [PyData.depthAll, PyData.depth, depth_ints r]
theorem shaped_ints (ns : List Int) : SeqAt.shaped (.list (ns.map PyData.int)) = true := by
  simp [SeqAt.shaped, PyData.canLay0, can_ints, PyData.depth, depth_ints]
theorem eqv_nil (ns : List Int) : PyData.eqv (.list (ns.map PyData.int)) (.list []) = ns.isEmpty := by
  cases ns <;> simp [PyData.eqv, PyData.eqvAll]
theorem shaped_nil : SeqAt.shaped (.list []) = true := by decide +kernel
theorem ne_nil_read {K : PySem.W.Frag} {H : Hp} {l p : Addr} {ns : List Int} {Q : VK} (h : SqL K H l (ns.map V.int)) (hp : SqL K H p [])
    (q : Q (.bl (!ns.isEmpty)) H) : rNeD K (.ref l) (.ref p) H Q := by
  refine ⟨.list (ns.map .int), .list [], .lst h (dp_ints ns), .lst hp .nil, shaped_ints ns, shaped_nil, ?_⟩
  rw [eqv_nil]
  exact q

theorem snoc_cases (xs : List Int) : xs = [] ∨ ∃ ys z, xs = ys ++ [z] := by
  cases xs with
  | nil => exact .inl rfl
  | cons x r => exact .inr ⟨_, _, (List.dropLast_concat_getLast (List.cons_ne_nil x r)).symm⟩
theorem snoc_map (ys : List Int) (z : Int) : (ys ++ [z]).map V.int = ys.map V.int ++ [V.int z] := by
  rw [List.map_append]
  rfl
theorem snoc_len (ys : List Int) (z : Int) : (ys ++ [z]).length = ys.length + 1 := by
  rw [List.length_append]
  rfl
theorem snoc_last (ys : List V) (z : V) : (ys ++ [z])[(ys ++ [z]).length - 1]? = some z := by
  rw [List.length_append]
  simp
theorem snoc_ne (ys : List Int) (z : Int) : (!(ys ++ [z]).isEmpty) = true := by
  cases ys <;> rfl
theorem iteTe {c : Bool} {A B : Prop} (e : c = true) (h : A) : if c = true then A else B := by
  rw [if_pos e]
  exact h
theorem iteFe {c : Bool} {A B : Prop} (e : c = false) (h : B) : if c = true then A else B := by
  rw [if_neg (by rw [e]; exact Bool.false_ne_true)]
  exact h
/-- the deal's list after a change of it -/
theorem Deal.list {H : Hp} {d l : Addr} {b : Int} {xs : List Int} (ndl : d ≠ l) (hd : H d = some (.lst [.ref l, .int b])) (hlen : xs.length ≤ 48)
    (hpos : ∀ x ∈ xs, 0 ≤ x) (b0 : 0 ≤ b) (b1 : b < 2147483647) : Deal (upd H l (.lst (xs.map V.int))) d l :=
  ⟨xs, b, ndl, by rw [upd_ne ndl]; exact hd, upd_same, hlen, hpos, b0, b1⟩
theorem Deal.num {H : Hp} {d l : Addr} {b : Int} {xs : List Int} (ndl : d ≠ l) (hl : H l = some (.lst (xs.map V.int))) (hlen : xs.length ≤ 48)
    (hpos : ∀ x ∈ xs, 0 ≤ x) (b0 : 0 ≤ b) (b1 : b < 2147483647) : Deal (upd H d (.lst [.ref l, .int b])) d l :=
  ⟨xs, b, ndl, upd_same, by rw [upd_ne (fun e => ndl e.symm)]; exact hl, hlen, hpos, b0, b1⟩

/-! ### the promises -/
def spAny : Sp := fun vs H Q _ => ∃ (d l : Addr) (n : Int), vs = [.ref d, .int n] ∧ Deal H d l ∧ 0 < n ∧ n < 2 ^ 64 ∧
  ∀ (r : Int) (H' : Hp), 0 ≤ r → r < n → Deal H' d l → But d l H H' → Q (.int r) H'
def spDraw (K : PySem.W.Frag) : Sp := fun vs H Q _ => ∃ (a : Addr) (ns : List Int) (z : Int), vs = [.ref a, .int z] ∧ SqL K H a (ns.map V.int) ∧
  ns.length ≤ 63 ∧ 0 ≤ z ∧ z ≤ 100 ∧ ∀ (d l : Addr) (H' : Hp), H d = none → H l = none → Deal H' d l → Same H H' → Q (.ref d) H'
def spOf (K : PySem.W.Frag) : Sp := fun vs H Q _ => ∃ (d l a : Addr) (xs : List V), vs = [.ref d, .ref a] ∧ Deal H d l ∧
  (∀ H', But d l H H' → SqL K H' a xs) ∧ 0 < xs.length ∧ xs.length ≤ 1000 ∧
  ∀ (i : Nat) (x : V) (H' : Hp), xs[i]? = some x → Deal H' d l → But d l H H' → Q x H'
theorem map_at {ns : List Int} {i : Nat} {x : V} (h : (ns.map V.int)[i]? = some x) : ∃ n, ns[i]? = some n ∧ x = .int n := by
  rw [List.getElem?_map] at h
  cases e : ns[i]? with
  | none =>
    rw [e] at h
    cases h
  | some n =>
    rw [e] at h
    exact ⟨n, rfl, (Option.some.inj h).symm⟩
theorem cut_ints (ns : List Int) (hi : Int) : ∃ ms : List Int, cutV (ns.map V.int) none (some hi) = ms.map V.int ∧ ms.length ≤ ns.length := by
  refine ⟨(ns.drop (HT.sIx ns.length 0 none)).take (HT.sIx ns.length ns.length (some hi) - HT.sIx ns.length 0 none), ?_, ?_⟩
  · unfold cutV
    rw [List.length_map, List.map_take, List.map_drop]
  · rw [List.length_take, List.length_drop]
    omega
theorem cut48 (ns : List Int) : ∃ ms : List Int, cutV (ns.map V.int) none (some 48) = ms.map V.int ∧ ms.length ≤ 48 := by
  refine ⟨ns.take 48, ?_, by rw [List.length_take]; omega⟩
  unfold cutV
  rw [HT.sIx_none, show HT.sIx (ns.map V.int).length (ns.map V.int).length (some 48) = min 48 (ns.map V.int).length from HT.sIx_nat _ _ 48, List.drop_zero, Nat.sub_zero, List.length_map, List.map_take]
  by_cases h : 48 ≤ ns.length
  · rw [Nat.min_eq_left h]
  · rw [Nat.min_eq_right (by omega), List.take_of_length_le (by rw [List.length_map]; omega), List.take_of_length_le (by rw [List.length_map]; omega)]
/-! ### calls by keywords alone, the last parameter's first -/
def revK {α : Type} : List α → List α → List α
  | [], ws => ws.reverse
  | _ :: _, _ => []
theorem kb_rev {K : PySem.W.Frag} {x qual : Str} {st : Stmt} {f : Addr} {fd : FuncData} {ps ks : List Str} (F : Fun K x qual st f fd) (hp : ps ≠ []) (hk : ks.length = ps.length)
    (h : ∀ (kV doc pm : Value) (an : Option Addr) (cdv ct : Value) (ws : List Value), ws.length = ks.length →
      bindArgs (PySem.W.fnOf x qual (defArgs st) (defBody st) (defScope st) .none kV doc pm an cdv ct) ⟨[], ks.zip ws⟩ = pure (ps.zip ws.reverse)) :
    KBinds K fd ps ks revK revK := by
  obtain ⟨oc, od, kV, doc, pm, an, cdv, ct, osl, rfl, lk, hcd⟩ := F.ex
  constructor
  · intro s us ws _ hl
    cases us with
    | cons u r =>
      exact absurd (List.eq_nil_of_length_eq_zero hl.symm) hp
    | nil =>
      have hl' : ws.reverse.length = ps.length := hl
      rw [List.length_reverse] at hl'
      exact .of_eq (h kV doc pm an cdv ct ws (hl'.trans hk.symm))
  · intro vs us zs ws r1 r2
    cases r1 with
    | nil => exact r2.reverse
    | cons _ _ => exact .nil
end Zc
end

section
set_option maxHeartbeats 400000
namespace K03
open PySem PySem.Spec PyProof.Rows L2 Zc
/-- the statement at a place of the program's top -/
def top (i : Nat) : Stmt :=
  PySem.Challenge.pw_lookalike_k03_words_and_ops.main.body.getD i (.Pass ⟨0, 0, 0, 0⟩)
abbrev s_is_integer : Stmt := top 1
theorem sc_is_integer : FnScope ["value"]
    ["value"] (defScope s_is_integer) :=
  ⟨rfl, rfl, rfl, by decide +kernel, rfl, by decide +kernel, by decide +kernel⟩
abbrev s_is_number : Stmt := top 2
theorem sc_is_number : FnScope ["value"]
    ["value"] (defScope s_is_number) :=
  ⟨rfl, rfl, rfl, by decide +kernel, rfl, by decide +kernel, by decide +kernel⟩
abbrev s_is_word : Stmt := top 6
theorem sc_is_word : FnScope ["value", "width"]
    ["value", "width"] (defScope s_is_word) :=
  ⟨rfl, rfl, rfl, by decide +kernel, rfl, by decide +kernel, by decide +kernel⟩
abbrev s_wrapped : Stmt := top 7
theorem sc_wrapped : FnScope ["number", "width"]
    ["number", "width"] (defScope s_wrapped) :=
  ⟨rfl, rfl, rfl, by decide +kernel, rfl, by decide +kernel, by decide +kernel⟩
abbrev s_word_op : Stmt := top 8
theorem sc_word_op : FnScope ["op", "width", "one", "other", "action"]
    ["op", "width", "one", "other"] (defScope s_word_op) :=
  ⟨rfl, rfl, rfl, by decide +kernel, rfl, by decide +kernel, by decide +kernel⟩
abbrev s_op_width : Stmt := top 9
theorem sc_op_width : FnScope ["op", "width"]
    ["op", "width"] (defScope s_op_width) :=
  ⟨rfl, rfl, rfl, by decide +kernel, rfl, by decide +kernel, by decide +kernel⟩
abbrev s_add_words : Stmt := top 10
theorem sc_add_words : FnScope ["width", "one", "other"]
    ["width", "one", "other"] (defScope s_add_words) :=
  ⟨rfl, rfl, rfl, by decide +kernel, rfl, by decide +kernel, by decide +kernel⟩
abbrev s_subtract_words : Stmt := top 11
theorem sc_subtract_words : FnScope ["width", "one", "other"]
    ["width", "one", "other"] (defScope s_subtract_words) :=
  ⟨rfl, rfl, rfl, by decide +kernel, rfl, by decide +kernel, by decide +kernel⟩
abbrev s_multiply_words : Stmt := top 12
theorem sc_multiply_words : FnScope ["width", "one", "other"]
    ["width", "one", "other"] (defScope s_multiply_words) :=
  ⟨rfl, rfl, rfl, by decide +kernel, rfl, by decide +kernel, by decide +kernel⟩
abbrev s_divide_words : Stmt := top 13
theorem sc_divide_words : FnScope ["_", "one", "other"]
    ["_", "one", "other"] (defScope s_divide_words) :=
  ⟨rfl, rfl, rfl, by decide +kernel, rfl, by decide +kernel, by decide +kernel⟩
abbrev s_rest_of_words : Stmt := top 14
theorem sc_rest_of_words : FnScope ["_", "one", "other"]
    ["_", "one", "other"] (defScope s_rest_of_words) :=
  ⟨rfl, rfl, rfl, by decide +kernel, rfl, by decide +kernel, by decide +kernel⟩
abbrev s_both_words : Stmt := top 15
theorem sc_both_words : FnScope ["_", "one", "other"]
    ["_", "one", "other"] (defScope s_both_words) :=
  ⟨rfl, rfl, rfl, by decide +kernel, rfl, by decide +kernel, by decide +kernel⟩
abbrev s_either_word : Stmt := top 16
theorem sc_either_word : FnScope ["_", "one", "other"]
    ["_", "one", "other"] (defScope s_either_word) :=
  ⟨rfl, rfl, rfl, by decide +kernel, rfl, by decide +kernel, by decide +kernel⟩
abbrev s_unlike_words : Stmt := top 17
theorem sc_unlike_words : FnScope ["_", "one", "other"]
    ["_", "one", "other"] (defScope s_unlike_words) :=
  ⟨rfl, rfl, rfl, by decide +kernel, rfl, by decide +kernel, by decide +kernel⟩
abbrev s_shift_up : Stmt := top 18
theorem sc_shift_up : FnScope ["width", "one", "other"]
    ["width", "one", "other"] (defScope s_shift_up) :=
  ⟨rfl, rfl, rfl, by decide +kernel, rfl, by decide +kernel, by decide +kernel⟩
abbrev s_shift_down : Stmt := top 19
theorem sc_shift_down : FnScope ["width", "one", "other"]
    ["width", "one", "other"] (defScope s_shift_down) :=
  ⟨rfl, rfl, rfl, by decide +kernel, rfl, by decide +kernel, by decide +kernel⟩
abbrev s_are_equal : Stmt := top 20
theorem sc_are_equal : FnScope ["_", "one", "other"]
    ["_", "one", "other"] (defScope s_are_equal) :=
  ⟨rfl, rfl, rfl, by decide +kernel, rfl, by decide +kernel, by decide +kernel⟩
abbrev s_is_less : Stmt := top 21
theorem sc_is_less : FnScope ["_", "one", "other"]
    ["_", "one", "other"] (defScope s_is_less) :=
  ⟨rfl, rfl, rfl, by decide +kernel, rfl, by decide +kernel, by decide +kernel⟩
abbrev s__law_draw : Stmt := top 24
theorem sc__law_draw : FnScope ["script", "salt", "cells", "blend", "cell"]
    ["script", "salt"] (defScope s__law_draw) :=
  ⟨rfl, rfl, rfl, by decide +kernel, rfl, by decide +kernel, by decide +kernel⟩
abbrev s__law_any : Stmt := top 25
theorem sc__law_any : FnScope ["deal", "bound", "rest"]
    ["deal", "bound"] (defScope s__law_any) :=
  ⟨rfl, rfl, rfl, by decide +kernel, rfl, by decide +kernel, by decide +kernel⟩
abbrev s__law_of : Stmt := top 26
theorem sc__law_of : FnScope ["deal", "some"]
    ["deal", "some"] (defScope s__law_of) :=
  ⟨rfl, rfl, rfl, by decide +kernel, rfl, by decide +kernel, by decide +kernel⟩
abbrev s__law_mixed : Stmt := top 27
theorem sc__law_mixed : FnScope ["deal", "some", "left", "found"]
    ["deal", "some"] (defScope s__law_mixed) :=
  ⟨rfl, rfl, rfl, by decide +kernel, rfl, by decide +kernel, by decide +kernel⟩
abbrev s__law_power : Stmt := top 28
theorem sc__law_power : FnScope ["many"]
    ["many"] (defScope s__law_power) :=
  ⟨rfl, rfl, rfl, by decide +kernel, rfl, by decide +kernel, by decide +kernel⟩
abbrev s__law_digits : Stmt := top 29
theorem sc__law_digits : FnScope ["number", "width", "rest", "found", "turn"]
    ["number", "width"] (defScope s__law_digits) :=
  ⟨rfl, rfl, rfl, by decide +kernel, rfl, by decide +kernel, by decide +kernel⟩
abbrev s__law_back : Stmt := top 30
theorem sc__law_back : FnScope ["digits", "total", "weight", "digit"]
    ["digits"] (defScope s__law_back) :=
  ⟨rfl, rfl, rfl, by decide +kernel, rfl, by decide +kernel, by decide +kernel⟩
abbrev s__law_times : Stmt := top 31
theorem sc__law_times : FnScope ["one", "other", "width", "pieces", "found", "rest", "turn", "at"]
    ["one", "other", "width"] (defScope s__law_times) :=
  ⟨rfl, rfl, rfl, by decide +kernel, rfl, by decide +kernel, by decide +kernel⟩
abbrev s__law_due : Stmt := top 32
theorem sc__law_due : FnScope ["op", "width", "one", "other", "first", "second", "top", "times", "wanted", "by", "a", "b"]
    ["op", "width", "one", "other"] (defScope s__law_due) :=
  ⟨rfl, rfl, rfl, by decide +kernel, rfl, by decide +kernel, by decide +kernel⟩
abbrev s_law : Stmt := top 33
theorem sc_law : FnScope ["script", "deal", "names", "turn", "width", "top", "one", "other", "op"]
    ["script"] (defScope s_law) :=
  ⟨rfl, rfl, rfl, by decide +kernel, rfl, by decide +kernel, by decide +kernel⟩
end K03
end

section
set_option maxHeartbeats 1000000
namespace K03
open PySem PySem.Spec PyProof.Rows L2 Zc
section
variable {P : Program} {w : World} {K : PySem.W.Frag} {mg : Str → Option Value} {base : Heap}

theorem ok_any {f : Addr} {fd : FuncData} (D : At K mg "_law_any" s__law_any ["deal", "bound"] f fd) (mi : mg "int" = none) :
    FnOk P w K mg base CX0 1 f fd ["deal", "bound"] spAny := by
  refine D.F.ok sc__law_any (fun vs H Q E h => ?_) (fun cdv A outer s H vs Q E hr h => ?_)
  · obtain ⟨d, l, n, rfl, _⟩ := h
    rfl
  obtain ⟨d, l, n, rfl, hD, n0, n1, k⟩ := h
  have hu := hr.units
  refine ⟨_, pss_cons (ps_while PassesOwn.never (PW.pt (pw_and
        (pt_cmpR (op_neD hu) (pe_ix ix_list (pv 0) pe_int (fun _ _ => rfl)) (pe_lst pa_nil) (nomark _))
        (pw_and1 (pt_cmpR op_eq (pe_ix ix_list (pe_ix ix_list (pv 0) pe_int (fun _ _ => rfl)) (pe_un un_neg pe_int) (fun _ _ => rfl)) pe_int (nomark _)))))
      (pss_one (ps_expr (pe_bm0 PySem.F.plainAttrs_list PySem.F.slot_list_pop PySem.F.type_list_pop mt_pop (pe_ix ix_list (pv 0) pe_int (fun _ _ => rfl))))))
    (pss_cons (ps_if (pt_cmpR (op_neD hu) (pe_ix ix_list (pv 0) pe_int (fun _ _ => rfl)) (pe_lst pa_nil) (nomark _))
      (pss_cons (ps_set (i := 2) sc__law_any.nd rfl (.inl rfl) (pe_callTy call_int1 (by rfl) mi boot_int (pa_cons (pe_bm0 PySem.F.plainAttrs_list PySem.F.slot_list_pop PySem.F.type_list_pop mt_pop (pe_ix ix_list (pv 0) pe_int (fun _ _ => rfl))) pa_nil)))
      (pss_cons (ps_expr (pe_bm PySem.F.plainAttrs_list PySem.F.slot_list_append PySem.F.type_list_append mt_append (pe_ix ix_list (pv 0) pe_int (fun _ _ => rfl)) (pa_cons (pe_op op_fdivW (pv 2) (pv 1)) pa_nil)))
      (pss_one (ps_ret (pe_op op_mod (pv 2) (pv 1)))))) pss_nil)
    (pss_cons (ps_asg (pe_op op_mod (pe_callTy call_int1 (by rfl) mi boot_int (pa_cons (pe_op op_add (pe_op op_mul (pe_ix ix_list (pv 0) pe_int (fun _ _ => rfl)) pe_int) pe_int) pa_nil)) pe_int)
        (pg_sub (pv 0) pe_int set_list))
    (pss_one (ps_ret (pe_op op_mod (pe_callTy call_int1 (by rfl) mi boot_int (pa_cons (pe_op op_fdivW (pe_ix ix_list (pv 0) pe_int (fun _ _ => rfl)) pe_int) pa_nil)) (pv 1)))))), ?_⟩
  refine while_by (fun σ H' => ∃ y, σ = [some (.ref d), some (.int n), y] ∧ Deal H' d l ∧ But d l H H')
    (fun _ H' => match H' l with | some (.lst xs) => xs.length | _ => 0) ⟨none, rfl, hD, But.refl _ _ _⟩ ?_ ?_
  · rintro σ H1 ⟨y, rfl, ⟨xs, b, ndl, hd, hl, hlen, hpos, b0, b1⟩, hB⟩
    refine ⟨.ref d, rfl, d, _, 0, .ref l, rfl, rfl, .inl (.inl hd), rfl, Nat.zero_le _, fun p np => ?_⟩
    have nld : l ≠ p := ne_of_none hl np
    have ndp : d ≠ p := ne_of_none hd np
    refine ne_nil_read (.inl (.inl (by rw [upd_ne nld]; exact hl))) (.inl (.inl upd_same)) ⟨_, rfl, ?_⟩
    have hd1 : (upd H1 p (.lst [])) d = some (.lst [.ref l, .int b]) := by rw [upd_ne ndp]; exact hd
    have hl1 : (upd H1 p (.lst [])) l = some (.lst (xs.map V.int)) := by rw [upd_ne nld]; exact hl
    have hB1 : But d l H (upd H1 p (.lst [])) := hB.trans (.of (same_new np))
    have at0 : atI [V.ref l, V.int b] 0 = some (V.ref l) := rfl
    have at1 : atI [V.ref l, V.int b] 1 = some (V.int b) := rfl
    rcases snoc_cases xs with rfl | ⟨ys, z, rfl⟩
    · -- the list is empty: the loop ends, the int is turned
      refine iteFe rfl (iteFe rfl ?_)
      refine ⟨.ref d, rfl, d, _, 0, .ref l, rfl, rfl, .inl (.inl hd1), at0, Nat.zero_le _, fun p2 np2 => ?_⟩
      have nl2 : l ≠ p2 := ne_of_none hl1 np2
      have nd2 : d ≠ p2 := ne_of_none hd1 np2
      refine ne_nil_read (.inl (.inl (by rw [upd_ne nl2]; exact hl1))) (.inl (.inl upd_same)) ⟨_, rfl, iteFe rfl ?_⟩
      have hd2 : (upd (upd H1 p (.lst [])) p2 (.lst [])) d = some (.lst [.ref l, .int b]) := by rw [upd_ne nd2]; exact hd1
      have hl2 : (upd (upd H1 p (.lst [])) p2 (.lst [])) l = some (.lst (([] : List Int).map V.int)) := by rw [upd_ne nl2]; exact hl1
      have hB2 := hB1.trans (.of (same_new (o := .lst []) np2))
      refine ⟨.ref d, rfl, d, _, 1, .int b, rfl, rfl, .inl (.inl hd2), at1, _, _, rfl, rfl, .inr ⟨by decide, by decide⟩, _, _, rfl, rfl, .inl ⟨_, rfl, _, _, rfl, rfl, by show (0 : Int) < 2147483647; decide, ?_⟩⟩
      refine ⟨.ref d, rfl, d, _, 1, 1, rfl, rfl, hd2, rfl, ?_⟩
      have c0 : 0 ≤ (b * 40693 + 71) % 2147483647 := Int.emod_nonneg _ (by decide)
      have c1 : (b * 40693 + 71) % 2147483647 < 2147483647 := Int.emod_lt_of_pos _ (by decide)
      refine ⟨.ref d, rfl, d, _, 1, _, rfl, rfl, .inl (.inl upd_same), rfl, _, _, rfl, rfl, ⟨by decide, by decide⟩, .inl ⟨_, rfl, .int n, rfl, _, _, rfl, rfl, n0, ?_⟩⟩
      exact k _ _ (Int.emod_nonneg _ (by omega)) (Int.emod_lt_of_pos _ n0) (Deal.num ndl hl2 (Nat.zero_le _) (fun x hx => absurd hx List.not_mem_nil) c0 c1) hB2.updD
    · refine iteTe (snoc_ne ys z) ?_
      rw [snoc_map] at hl hl1
      refine ⟨.ref d, rfl, d, _, 0, .ref l, rfl, rfl, .inl (.inl hd1), at0, 1, rfl, l, _, -1, .int z, rfl, rfl, .inl (.inl hl1), atI_last _ _, rfl, _, rfl, ?_⟩
      have lenY : ys.length + 1 ≤ 48 := by rw [← snoc_len ys z]; exact hlen
      have posY : ∀ x ∈ ys, 0 ≤ x := fun x hx => hpos x (List.mem_append_left _ hx)
      have z0 : 0 ≤ z := hpos z (List.mem_append_right _ (List.mem_singleton.mpr rfl))
      refine ite2 (fun e => ?_) (fun e => ?_)
      · -- its last number is 0: it goes
        refine ⟨.ref d, rfl, d, _, 0, .ref l, rfl, rfl, .inl (.inl hd1), at0, .inl ⟨rfl, _, .inl (.inl hl1)⟩, l, _, .int z, rfl, rfl, hl1, snoc_last _ _, ?_⟩
        refine ⟨⟨y, rfl, ?_, hB1.updL⟩, ?_⟩
        · rw [List.dropLast_concat]
          exact Deal.list ndl hd1 (by omega) posY b0 b1
        · show (match upd (upd H1 p (.lst [])) l (.lst (ys.map V.int ++ [V.int z]).dropLast) l with | some (.lst xs) => xs.length | _ => 0) < (match H1 l with | some (.lst xs) => xs.length | _ => 0)
          rw [upd_same, hl]
          simp
      · -- it is not: it is parted
        refine ⟨.ref d, rfl, d, _, 0, .ref l, rfl, rfl, .inl (.inl hd1), at0, Nat.zero_le _, fun p2 np2 => ?_⟩
        have nl2 : l ≠ p2 := ne_of_none hl1 np2
        have nd2 : d ≠ p2 := ne_of_none hd1 np2
        have hd2 : (upd (upd H1 p (.lst [])) p2 (.lst [])) d = some (.lst [.ref l, .int b]) := by rw [upd_ne nd2]; exact hd1
        have hl2 : (upd (upd H1 p (.lst [])) p2 (.lst [])) l = some (.lst (ys.map V.int ++ [V.int z])) := by rw [upd_ne nl2]; exact hl1
        have hB2 := hB1.trans (.of (same_new (o := .lst []) np2))
        refine ne_nil_read (ns := ys ++ [z]) (.inl (.inl (by rw [snoc_map]; exact hl2))) (.inl (.inl upd_same)) ⟨_, rfl, iteTe (snoc_ne ys z) ?_⟩
        -- rest = int(deal[0].pop())
        refine ⟨.ref d, rfl, d, _, 0, .ref l, rfl, rfl, .inl (.inl hd2), at0, .inl ⟨rfl, _, .inl (.inl hl2)⟩, l, _, .int z, rfl, rfl, hl2, snoc_last _ _, .inl ⟨z, rfl, ?_⟩⟩
        rw [List.dropLast_concat]
        -- deal[0].append(rest // bound)
        have hd3 : (upd (upd (upd H1 p (.lst [])) p2 (.lst [])) l (.lst (ys.map V.int))) d = some (.lst [.ref l, .int b]) := by rw [upd_ne ndl]; exact hd2
        refine ⟨.ref d, rfl, d, _, 0, .ref l, rfl, rfl, .inl (.inl hd3), at0, .inl ⟨rfl, _, .inl (.inl upd_same)⟩, .int z, rfl, .int n, rfl, z, n, rfl, rfl, wide_div n0 (b := 64) (by omega) (by decide) (by decide), l, _, _, rfl, rfl, upd_same, by rw [List.length_map]; exact Nat.lt_of_le_of_lt (show ys.length ≤ 48 by omega) (by decide), ?_⟩
        -- return rest % bound
        refine ⟨.int z, rfl, .int n, rfl, z, n, rfl, rfl, n0, ?_⟩
        refine k _ _ (Int.emod_nonneg _ (by omega)) (Int.emod_lt_of_pos _ n0) ?_ hB2.updL.updL
        rw [← snoc_map]
        refine Deal.list ndl hd3 (by rw [snoc_len]; omega) (fun x hx => ?_) b0 b1
        rcases List.mem_append.mp hx with hx | hx
        · exact posY x hx
        · rw [List.mem_singleton.mp hx]
          exact Int.ediv_nonneg z0 (by omega)
  · intro σ H1 Q1 Q2 hq h
    obtain ⟨v, e1, p, xs, i, v', e2, e3, e4, e5, e6, h2⟩ := h
    refine ⟨v, e1, p, xs, i, v', e2, e3, e4, e5, e6, fun p2 np2 => ?_⟩
    obtain ⟨d1, d2, g1, g2, g3, g4, c, e7, h3⟩ := h2 p2 np2
    refine ⟨d1, d2, g1, g2, g3, g4, c, e7, ?_⟩
    cases c with
    | false => exact iteF (hq _ _ (by rw [if_neg Bool.false_ne_true] at h3; exact h3))
    | true =>
      rw [if_pos rfl] at h3
      refine iteT ?_
      obtain ⟨v, e1, p, xs, i, v', e2, e3, e4, e5, j, e6, q, zs, j2, v2, f2, f3, f4, f5, f6, c, f7, h4⟩ := h3
      exact ⟨v, e1, p, xs, i, v', e2, e3, e4, e5, j, e6, q, zs, j2, v2, f2, f3, f4, f5, f6, c, f7, hq _ _ h4⟩
theorem ok_of {f fA : Addr} {fd fdA : FuncData} (D : At K mg "_law_of" s__law_of ["deal", "some"] f fd)
    (DA : At K mg "_law_any" s__law_any ["deal", "bound"] fA fdA) (mi : mg "int" = none) (ml : mg "len" = none) :
    FnOk P w K mg base CX0 2 f fd ["deal", "some"] (spOf K) := by
  have GA : FnOk P w K mg base CX0 1 fA fdA ["deal", "bound"] spAny := ok_any DA mi
  refine D.F.ok sc__law_of (fun vs H Q E h => ?_) (fun cdv A outer s H vs Q E hr h => ?_)
  · obtain ⟨d, l, a, xs, rfl, _⟩ := h
    rfl
  obtain ⟨d, l, a, xs, rfl, hD, hS, n0, n1, k⟩ := h
  refine ⟨_, pss_one (ps_ret (pe_ix ix_list (pv 1) (pe_call GA hr (by rfl) DA.g DA.F.kp DA.b .nil pass0 (pa_cons (pv 0) (pa_cons (pe_callB call_len_seq (by rfl) ml PySem.boot_len (pa_cons (pv 1) pa_nil)) pa_nil))) (fun _ _ => rfl))), ?_⟩
  refine ⟨.ref a, rfl, .ref d, rfl, .ref a, rfl, a, xs, rfl, .inl (hS H (But.refl _ _ _)), d, l, (xs.length : Int), rfl, hD, by omega, by omega, fun r H' r0 r1 hD' hB => ?_⟩
  have hr1 : r.toNat < xs.length := by omega
  refine ⟨a, xs, r, xs[r.toNat], rfl, rfl, hS H' hB, ?_, k r.toNat _ H' (List.getElem?_eq_getElem hr1) hD' hB⟩
  have e : atI xs ((r.toNat : Nat) : Int) = some xs[r.toNat] := atI_nat (List.getElem?_eq_getElem hr1)
  rw [Int.toNat_of_nonneg r0] at e
  exact e

theorem ok_draw {f : Addr} {fd : FuncData} (D : At K mg "_law_draw" s__law_draw ["script", "salt"] f fd) (mi : mg "int" = none) (ma : mg "abs" = none) :
    FnOk P w K mg base CX0 1 f fd ["script", "salt"] (spDraw K) := by
  refine D.F.ok sc__law_draw (fun vs H Q E h => ?_) (fun cdv A outer s H vs Q E hr h => ?_)
  · obtain ⟨a, ns, z, rfl, _⟩ := h
    rfl
  obtain ⟨a, ns, z, rfl, hS, hlen, z0, z1, k⟩ := h
  have nd := sc__law_draw.nd
  refine ⟨_, pss_cons (ps_setLc (i := 2) (own := [("cell", 4)]) (g := gName 4) (tt := tYes) (by rfl) nd rfl rfl (sw_true rfl rfl rfl (by decide +kernel))
      (pi_list (pe_slice sl_list (pv 0) po_none (po_some pe_int))) (blkOk_by (own := [("cell", 4)]) (N := ["script", "salt", "cells", "blend", "cell"]) (sc := defScope s__law_draw) (by decide +kernel))
      (fun _ _ _ _ _ => pg_name (i := 4) nd rfl (Or.inl rfl)) (fun _ _ _ _ _ => pts_nil)
      (fun _ _ _ _ _ => pe_callB call_abs (by rfl) ma boot_abs (pa_cons (pe_callTy call_int1 (by rfl) mi boot_int (pa_cons (pv 4) pa_nil)) pa_nil)))
    (pss_cons (ps_set (i := 3) nd rfl (.inl rfl) (pe_op op_add pe_int (pe_op op_mul pe_int (pv 1))))
    (pss_cons (ps_for PassesOwn.never rfl (pi_list (pv 2)) (pg_name (i := 4) nd rfl (.inl rfl))
      (pss_one (ps_set (i := 3) nd rfl (.inl rfl) (pe_op op_mod (pe_callTy call_int1 (by rfl) mi boot_int (pa_cons (pe_op op_add (pe_op op_add (pe_op op_mul (pv 3) pe_int) (pe_op op_mod (pv 4) pe_int)) pe_int) pa_nil)) pe_int))))
    (pss_one (ps_ret (pe_lst (pa_cons (pe_revL (pe_lc (own := [("cell", 4)]) (g := gName 4) (by rfl) nd (pi_list (pv 2))
        (blkOk_by (own := [("cell", 4)]) (N := ["script", "salt", "cells", "blend", "cell"]) (sc := defScope s__law_draw) (by decide +kernel))
        (fun _ _ _ _ _ => pg_name (i := 4) nd rfl (Or.inl rfl)) (fun _ _ _ _ _ => pts_one (pt_cmpR op_ge (pv 4) (pe_op op_pow pe_int pe_int) (nomark _)))
        (fun _ _ _ _ _ => pv 4))) (pa_cons (pv 3) pa_nil))))))), ?_⟩
  obtain ⟨ms, ems, lms⟩ := cut48 ns
  -- cells
  refine ⟨.ref a, rfl, 48, rfl, a, _, rfl, hS, fun c nc => ⟨c, rfl, ⟨_, .inl (.inl upd_same)⟩, fun D nD => ?_⟩⟩
  rw [ems] at nD ⊢
  have scl : Same H (upd H c (.lst (ms.map V.int))) := same_new nc
  have ncD : c ≠ D := ne_of_none upd_same nD
  refine lc_list (xs := ms.map V.int) (fun i H' => ∃ acc : List Int, H' c = some (.lst (ms.map V.int)) ∧ H' D = some (.lst (acc.map V.int)) ∧ acc.length ≤ i ∧ (∀ x ∈ acc, 0 ≤ x) ∧ Same H H')
    ⟨[], by rw [upd_ne ncD, upd_same], upd_same, Nat.le_refl _, fun x hx => absurd hx List.not_mem_nil, scl.trans (same_new nD)⟩
    (fun i H' _ ⟨_, h1, _⟩ => .inl (.inl h1)) ?_ ?_
  · rintro i x H' hx ⟨acc, h1, h2, h3, h4, h5⟩
    obtain ⟨n, _, rfl⟩ := map_at hx
    have hlt : i < 48 := by
      have q := (List.getElem?_eq_some_iff.mp hx).1
      rw [List.length_map] at q
      omega
    refine ⟨rfl, .int n, rfl, .inl ⟨n, rfl, n, rfl, acc.map V.int, h2, ?_, acc ++ [if n < 0 then -n else n], ?_, ?_, ?_, ?_, ?_⟩⟩
    · rw [List.length_map]
      exact Nat.lt_of_le_of_lt (show acc.length ≤ 48 by omega) (by decide)
    · rw [upd_ne ncD]
      exact h1
    · rw [upd_same, snoc_map]
    · rw [snoc_len]
      omega
    · intro x hx
      rcases List.mem_append.mp hx with hx | hx
      · exact h4 x hx
      · rw [List.mem_singleton.mp hx]
        split <;> omega
    · intro b o e
      by_cases hb : b = D
      · exact absurd e (by rw [hb]; intro e; have := scl.free nD; rw [this] at e; cases e)
      · rw [upd_ne hb]
        exact h5 b o e
  rintro H1 ⟨cs, h1, h2, h3, h4, h5⟩
  have lcs : cs.length ≤ 48 := by
    rw [List.length_map] at h3
    omega
  -- blend
  refine ⟨.int z, rfl, 104729, z, rfl, rfl, .inl ⟨by decide, by decide⟩, 7919, _, rfl, rfl, ?_⟩
  refine ⟨.ref D, rfl, D, rfl, ⟨_, .inl (.inl h2)⟩, for_list (K := K) (a := D) (xs := cs.map V.int)
    (fun i σ H' => ∃ (b : Int) (y : Option V), σ = [some (.ref a), some (.int z), some (.ref D), some (.int b), y] ∧ H' = H1 ∧ 0 ≤ b ∧ b < 2147483647)
    ⟨_, none, rfl, rfl, by omega, by omega⟩ (fun i σ H' _ ⟨_, _, _, e, _⟩ => by rw [e]; exact .inl (.inl h2)) ?_ ?_⟩
  · rintro i x σ H' hx ⟨b, y, rfl, rfl, b0, b1⟩
    obtain ⟨n, _, rfl⟩ := map_at hx
    refine ⟨.int b, rfl, b, 48271, rfl, rfl, .inr ⟨by decide, by decide⟩, .int n, rfl, n, 2147483549, rfl, rfl, by show (0 : Int) < 2147483549; decide, _, _, rfl, rfl, _, _, rfl, rfl, .inl ⟨_, rfl, _, 2147483647, rfl, rfl, by show (0 : Int) < 2147483647; decide, ?_⟩⟩
    exact ⟨_, _, rfl, rfl, Int.emod_nonneg _ (by decide), Int.emod_lt_of_pos _ (by decide)⟩
  rintro σ H' ⟨b, y, rfl, rfl, b0, b1⟩
  -- what is handed back
  refine ⟨.ref D, rfl, D, rfl, ⟨_, .inl (.inl h2)⟩, fun L nL => ?_⟩
  have nDL : D ≠ L := ne_of_none h2 nL
  refine lc_list (xs := cs.map V.int) (fun i H2 => ∃ acc : List Int, H2 D = some (.lst (cs.map V.int)) ∧ H2 L = some (.lst (acc.map V.int)) ∧ acc.length ≤ i ∧ (∀ x ∈ acc, 0 ≤ x) ∧ Same H H2)
    ⟨[], by rw [upd_ne nDL]; exact h2, upd_same, Nat.le_refl _, fun x hx => absurd hx List.not_mem_nil, h5.trans (same_new nL)⟩
    (fun i H2 _ ⟨_, g1, _⟩ => .inl (.inl g1)) ?_ ?_
  · rintro i x H2 hx ⟨acc, g1, g2, g3, g4, g5⟩
    obtain ⟨n, hn, rfl⟩ := map_at hx
    have hlt : i < 48 := by
      have q := (List.getElem?_eq_some_iff.mp hn).1
      omega
    refine ⟨rfl, .int n, rfl, 10, 18, rfl, rfl, ⟨by decide, by decide, by decide⟩, n, _, rfl, rfl, _, rfl, ite2 (fun hge => ?_) (fun hge => ?_)⟩
    · refine ⟨.int n, rfl, acc.map V.int, g2, ?_, acc ++ [n], ?_, ?_, ?_, ?_, ?_⟩
      · rw [List.length_map]
        exact Nat.lt_of_le_of_lt (show acc.length ≤ 48 by omega) (by decide)
      · rw [upd_ne nDL]
        exact g1
      · rw [upd_same, snoc_map]
      · rw [snoc_len]
        omega
      · intro x hx
        rcases List.mem_append.mp hx with hx | hx
        · exact g4 x hx
        · rw [List.mem_singleton.mp hx]
          exact h4 n (List.mem_of_getElem? hn)
      · intro q o e
        by_cases hb : q = L
        · exact absurd e (by rw [hb]; intro e; have := h5.free nL; rw [this] at e; cases e)
        · rw [upd_ne hb]
          exact g5 q o e
    · exact ⟨acc, g1, g2, by omega, g4, g5⟩
  rintro H2 ⟨xs, g1, g2, g3, g4, g5⟩
  rw [List.length_map] at g3
  refine ⟨L, _, rfl, .inl (.inl g2), fun l nl => ?_⟩
  refine ⟨.int b, rfl, by show 2 ≤ sizeLine; decide, fun d nd2 => ?_⟩
  have ndl : d ≠ l := fun e => by
    rw [e, upd_same] at nd2
    cases nd2
  have sl : Same H (upd H2 l (.lst (xs.map V.int).reverse)) := g5.trans (same_new nl)
  refine k d l _ (sl.free nd2) (g5.free nl) ⟨xs.reverse, b, ndl, upd_same, ?_, ?_, ?_, b0, b1⟩ (sl.trans (same_new nd2))
  · rw [upd_ne (fun e => ndl e.symm), upd_same, List.map_reverse]
  · rw [List.length_reverse]
    omega
  · intro x hx
    exact g4 x (List.mem_reverse.mp hx)
end
end K03
end

section
set_option maxHeartbeats 1000000
namespace K03
open PySem PySem.Spec PyProof.Rows L2 Zc
/-- whether a value is an integer, told of its kind -/
inductive Kd (H : Hp) : V → Bool → Prop
  | int (i : Int) : Kd H (.int i) true
  | bl (b : Bool) : Kd H (.bl b) false
  | non : Kd H .non false
  | str (x : Str) : Kd H (.str x) false
  | tup {a : Addr} {xs : List V} (h : H a = some (.tup xs)) : Kd H (.ref a) false
theorem Kd.ask {K : PySem.W.Frag} {H : Hp} {v : V} {b : Bool} (h : Kd H v b) :
    ∃ t, TyX K H v t ∧ ∃ b1 b2, PySem.W.kitOne K t (.type "int") = some b1 ∧ PySem.W.kitOne K t (.type "bool") = some b2 ∧ (b1 && !b2) = b := by
  cases h with
  | int i => exact ⟨_, .base (.int i), true, false, kit_ty (by decide +kernel), kit_ty (by decide +kernel), rfl⟩
  | bl b => exact ⟨_, .base (.bl b), true, true, kit_ty (by decide +kernel), kit_ty (by decide +kernel), rfl⟩
  | non => exact ⟨_, .base .non, false, false, kit_ty (by decide +kernel), kit_ty (by decide +kernel), rfl⟩
  | str x => exact ⟨_, .base (.str x), false, false, kit_ty (by decide +kernel), kit_ty (by decide +kernel), rfl⟩
  | tup h => exact ⟨_, .base (.tup h), false, false, kit_ty (by decide +kernel), kit_ty (by decide +kernel), rfl⟩
/-- a number's answer -/
def isNum : V → Bool
  | .int i => decide (0 ≤ i)
  | _ => false
def isWord (v : V) (w : Nat) : Bool := match v with
  | .int i => decide (0 ≤ i) && decide (i < 2 ^ w)
  | _ => false
def spKind : Sp := fun vs H Q _ => ∃ v b, vs = [v] ∧ Kd H v b ∧ Q (.bl b) H
def spNum : Sp := fun vs H Q _ => ∃ v b, vs = [v] ∧ Kd H v b ∧ Q (.bl (isNum v)) H
def spWord : Sp := fun vs H Q _ => ∃ (v : V) (b : Bool) (w : Nat), vs = [v, .int w] ∧ Kd H v b ∧ w ≤ 1000 ∧ Q (.bl (isWord v w)) H
/-- an op's def: two words of a width -/
def spOp (g : Nat → Int → Int → Int) : Sp := fun vs H Q _ => ∃ (w : Nat) (a b : Int), vs = [.int w, .int a, .int b] ∧ 1 ≤ w ∧ w ≤ 32 ∧ 0 ≤ a ∧ a < 2 ^ w ∧ 0 ≤ b ∧ b < 2 ^ w ∧ Q (.int (g w a b)) H
def spWrap : Sp := fun vs H Q _ => ∃ (w : Nat) (n : Int), vs = [.int n, .int w] ∧ w ≤ 1000 ∧ Q (.int (n % 2 ^ w)) H
section
variable {P : Program} {w : World} {K : PySem.W.Frag} {mg : Str → Option Value} {base : Heap}
theorem ok_is_integer {f : Addr} {fd : FuncData} (D : At K mg "is_integer" s_is_integer ["value"] f fd) (ms : mg "isinstance" = none) (mi : mg "int" = none) (mb : mg "bool" = none) :
    FnOk P w K mg base CX0 1 f fd ["value"] spKind := by
  refine D.F.ok sc_is_integer (fun vs H Q E h => ?_) (fun cdv A outer s H vs Q E hr h => ?_)
  · obtain ⟨v, b, rfl, _⟩ := h
    rfl
  obtain ⟨v, b, rfl, hv, q⟩ := h
  obtain ⟨t, ty, b1, b2, e1, e2, e3⟩ := hv.ask (K := K)
  refine ⟨_, pss_one (ps_ret (pe_and (pe_callB call_isi (by rfl) ms boot_isinstance (pa_cons (pv 0) (pa_cons (pe_bltn (v := .ty "int") (by rfl) mi boot_int rfl) pa_nil)))
    (pe_one (pe_not (pe_callB call_isi (by rfl) ms boot_isinstance (pa_cons (pv 0) (pa_cons (pe_bltn (v := .ty "bool") (by rfl) mb boot_bool rfl) pa_nil))))))), ?_⟩
  refine ⟨v, rfl, v, .ty "int", t, _, b1, rfl, .ty _, ty, e1, b1, rfl, ?_⟩
  cases b1 with
  | false =>
    refine iteF ?_
    rw [show b = false from e3.symm] at q
    exact q
  | true =>
    refine iteT ⟨v, rfl, v, .ty "bool", t, _, b2, rfl, .ty _, ty, e2, b2, rfl, ?_⟩
    rw [show b = !b2 from e3.symm] at q
    exact q
theorem ok_is_number {f fI : Addr} {fd fdI : FuncData} (D : At K mg "is_number" s_is_number ["value"] f fd) (DI : At K mg "is_integer" s_is_integer ["value"] fI fdI)
    (ms : mg "isinstance" = none) (mi : mg "int" = none) (mb : mg "bool" = none) : FnOk P w K mg base CX0 2 f fd ["value"] spNum := by
  have GI : FnOk P w K mg base CX0 1 fI fdI ["value"] spKind := ok_is_integer DI ms mi mb
  refine D.F.ok sc_is_number (fun vs H Q E h => ?_) (fun cdv A outer s H vs Q E hr h => ?_)
  · obtain ⟨v, b, rfl, _⟩ := h
    rfl
  obtain ⟨v, b, rfl, hv, q⟩ := h
  refine ⟨_, pss_one (ps_ret (pe_and (pe_call GI hr (by rfl) DI.g DI.F.kp DI.b .nil pass0 (pa_cons (pv 0) pa_nil)) (pe_one (pe_cmpR op_ge (pv 0) pe_int (nomark _))))), ?_⟩
  refine ⟨v, rfl, v, b, rfl, hv, b, rfl, ?_⟩
  cases hv with
  | int i => exact iteT ⟨.int i, rfl, i, 0, rfl, rfl, q⟩
  | _ => exact iteF q
theorem pow_int (k : Nat) : (1 : Int) * 2 ^ ((k : Nat) : Int).toNat = 2 ^ k := by
  rw [Int.one_mul, Int.toNat_natCast]
theorem cpow {k : Nat} (h : k ≤ 1000) : CPow 1 (k : Int) := ⟨by omega, by omega, by decide⟩
theorem ok_is_word {f fI fN : Addr} {fd fdI fdN : FuncData} (D : At K mg "is_word" s_is_word ["value", "width"] f fd) (DN : At K mg "is_number" s_is_number ["value"] fN fdN) (DI : At K mg "is_integer" s_is_integer ["value"] fI fdI)
    (ms : mg "isinstance" = none) (mi : mg "int" = none) (mb : mg "bool" = none) : FnOk P w K mg base CX0 3 f fd ["value", "width"] spWord := by
  have GN : FnOk P w K mg base CX0 2 fN fdN ["value"] spNum := ok_is_number DN DI ms mi mb
  refine D.F.ok sc_is_word (fun vs H Q E h => ?_) (fun cdv A outer s H vs Q E hr h => ?_)
  · obtain ⟨v, b, k, rfl, _⟩ := h
    rfl
  obtain ⟨v, b, k, rfl, hv, hk, q⟩ := h
  refine ⟨_, pss_one (ps_ret (pe_and (pe_call GN hr (by rfl) DN.g DN.F.kp DN.b .nil pass0 (pa_cons (pv 0) pa_nil)) (pe_one (pe_cmpR op_lt (pv 0) (pe_op op_shl pe_int (pv 1)) (nomark _))))), ?_⟩
  refine ⟨v, rfl, v, b, rfl, hv, isNum v, rfl, ?_⟩
  cases hv with
  | int i =>
    refine ite2 (fun e => ?_) (fun e => ?_)
    · refine ⟨.int i, rfl, .int k, rfl, 1, (k : Int), rfl, rfl, cpow hk, i, _, rfl, rfl, ?_⟩
      have e' : decide (0 ≤ i) = true := e
      rw [pow_int]
      have q' : Q (.bl (decide (0 ≤ i) && decide (i < 2 ^ k))) H := q
      rw [e', Bool.true_and] at q'
      exact q'
    · have e' : decide (0 ≤ i) = false := Bool.eq_false_iff.mpr e
      have q' : Q (.bl (decide (0 ≤ i) && decide (i < 2 ^ k))) H := q
      rw [e', Bool.false_and] at q'
      exact q'
  | _ => exact iteF q
theorem ok_wrapped {f : Addr} {fd : FuncData} (D : At K mg "wrapped" s_wrapped ["number", "width"] f fd) : FnOk P w K mg base CX0 1 f fd ["number", "width"] spWrap := by
  refine D.F.ok sc_wrapped (fun vs H Q E h => ?_) (fun cdv A outer s H vs Q E hr h => ?_)
  · obtain ⟨k, n, rfl, _⟩ := h
    rfl
  obtain ⟨k, n, rfl, hk, q⟩ := h
  refine ⟨_, pss_one (ps_ret (pe_op op_mod (pv 0) (pe_op op_shl pe_int (pv 1)))), ?_⟩
  refine ⟨.int n, rfl, .int k, rfl, 1, (k : Int), rfl, rfl, cpow hk, n, _, rfl, rfl, ?_, ?_⟩
  · show (0 : Int) < _
    rw [pow_int]
    exact Int.pow_pos (by decide)
  · rw [pow_int]
    exact q
end
end K03
end

section
set_option maxHeartbeats 1000000
namespace K03
open PySem PySem.Spec PyProof.Rows L2 Zc
inductive Op where
  | add | sub | mul | div | rem | and | or | xor | shl | shr | eq | lt
  deriving DecidableEq
def Op.name : Op → Str
  | .add => "add" | .sub => "sub" | .mul => "mul" | .div => "div" | .rem => "rem" | .and => "and" | .or => "or" | .xor => "xor" | .shl => "shl" | .shr => "shr" | .eq => "eq" | .lt => "lt"
def Op.g : Op → Nat → Int → Int → Int
  | .add, w, a, b => (a + b) % 2 ^ w
  | .sub, w, a, b => (a - b) % 2 ^ w
  | .mul, w, a, b => (a * b) % 2 ^ w
  | .div, _, a, b => if b = 0 then 0 else a / b
  | .rem, _, a, b => if b = 0 then a else a % b
  | .and, _, a, b => Builtin.bitAnd a b
  | .or, _, a, b => Builtin.bitOr a b
  | .xor, _, a, b => Builtin.bitXor a b
  | .shl, w, a, b => (a * 2 ^ (b % w).toNat) % 2 ^ w
  | .shr, w, a, b => a / 2 ^ (b % w).toNat
  | .eq, _, a, b => if a = b then 1 else 0
  | .lt, _, a, b => if a < b then 1 else 0
def Op.all : List Op := [.add, .sub, .mul, .div, .rem, .and, .or, .xor, .shl, .shr, .eq, .lt]
theorem p32 {a : Int} {k : Nat} (hk : k ≤ 32) (h : a < 2 ^ k) : a < 4294967296 := by
  have h2 : (2 : Nat) ^ k ≤ 2 ^ 32 := Nat.pow_le_pow_right (by decide) hk
  have e : ((2 ^ k : Nat) : Int) = 2 ^ k := by rw [Int.natCast_pow]; rfl
  have e2 : (2 : Nat) ^ 32 = 4294967296 := by decide
  omega
section
variable {P : Program} {w : World} {K : PySem.W.Frag} {mg : Str → Option Value} {base : Heap}
theorem ok_add {f fW : Addr} {fd fdW : FuncData} (D : At K mg "add_words" s_add_words ["width", "one", "other"] f fd) (DW : At K mg "wrapped" s_wrapped ["number", "width"] fW fdW) :
    FnOk P w K mg base CX0 2 f fd ["width", "one", "other"] (spOp Op.add.g) := by
  have GW : FnOk P w K mg base CX0 1 fW fdW ["number", "width"] spWrap := ok_wrapped DW
  refine D.F.ok sc_add_words (fun vs H Q E h => ?_) (fun cdv A outer s H vs Q E hr h => ?_)
  · obtain ⟨k, a, b, rfl, _⟩ := h
    rfl
  obtain ⟨k, a, b, rfl, k0, k1, a0, a1, b0, b1, q⟩ := h
  exact ⟨_, pss_one (ps_ret (pe_call GW hr (by rfl) DW.g DW.F.kp DW.b .nil pass0 (pa_cons (pe_op op_add (pv 1) (pv 2)) (pa_cons (pv 0) pa_nil)))),
    .int a, rfl, .int b, rfl, a, b, rfl, rfl, .int k, rfl, k, _, rfl, by omega, q⟩
theorem ok_sub {f fW : Addr} {fd fdW : FuncData} (D : At K mg "subtract_words" s_subtract_words ["width", "one", "other"] f fd) (DW : At K mg "wrapped" s_wrapped ["number", "width"] fW fdW) :
    FnOk P w K mg base CX0 2 f fd ["width", "one", "other"] (spOp Op.sub.g) := by
  have GW : FnOk P w K mg base CX0 1 fW fdW ["number", "width"] spWrap := ok_wrapped DW
  refine D.F.ok sc_subtract_words (fun vs H Q E h => ?_) (fun cdv A outer s H vs Q E hr h => ?_)
  · obtain ⟨k, a, b, rfl, _⟩ := h
    rfl
  obtain ⟨k, a, b, rfl, k0, k1, a0, a1, b0, b1, q⟩ := h
  exact ⟨_, pss_one (ps_ret (pe_call GW hr (by rfl) DW.g DW.F.kp DW.b .nil pass0 (pa_cons (pe_op op_sub (pv 1) (pv 2)) (pa_cons (pv 0) pa_nil)))),
    .int a, rfl, .int b, rfl, a, b, rfl, rfl, .int k, rfl, k, _, rfl, by omega, q⟩
theorem ok_mul {f fW : Addr} {fd fdW : FuncData} (D : At K mg "multiply_words" s_multiply_words ["width", "one", "other"] f fd) (DW : At K mg "wrapped" s_wrapped ["number", "width"] fW fdW) :
    FnOk P w K mg base CX0 2 f fd ["width", "one", "other"] (spOp Op.mul.g) := by
  have GW : FnOk P w K mg base CX0 1 fW fdW ["number", "width"] spWrap := ok_wrapped DW
  refine D.F.ok sc_multiply_words (fun vs H Q E h => ?_) (fun cdv A outer s H vs Q E hr h => ?_)
  · obtain ⟨k, a, b, rfl, _⟩ := h
    rfl
  obtain ⟨k, a, b, rfl, k0, k1, a0, a1, b0, b1, q⟩ := h
  have ha := p32 k1 a1
  exact ⟨_, pss_one (ps_ret (pe_call GW hr (by rfl) DW.g DW.F.kp DW.b .nil pass0 (pa_cons (pe_op op_mul (pv 1) (pv 2)) (pa_cons (pv 0) pa_nil)))),
    .int a, rfl, .int b, rfl, a, b, rfl, rfl, .inl ⟨by omega, by omega⟩, .int k, rfl, k, _, rfl, by omega, q⟩
theorem ok_div {f : Addr} {fd : FuncData} (D : At K mg "divide_words" s_divide_words ["_", "one", "other"] f fd) :
    FnOk P w K mg base CX0 2 f fd ["_", "one", "other"] (spOp Op.div.g) := by
  refine D.F.ok sc_divide_words (fun vs H Q E h => ?_) (fun cdv A outer s H vs Q E hr h => ?_)
  · obtain ⟨k, a, b, rfl, _⟩ := h
    rfl
  obtain ⟨k, a, b, rfl, k0, k1, a0, a1, b0, b1, q⟩ := h
  have hb := p32 k1 b1
  refine ⟨_, pss_one (ps_ret (pe_ifExp (pt_cmpR op_eq (pv 2) pe_int (nomark _)) pe_int (pe_op op_fdivW (pv 1) (pv 2)))), .int b, rfl, rfl, _, rfl, ?_⟩
  have q' : Q (.int (if b = 0 then 0 else a / b)) H := q
  refine ite2 (fun e => ?_) (fun e => ?_)
  · have e' : b = 0 := V.int.inj (of_decide_eq_true e)
    rw [if_pos e'] at q'
    exact q'
  · have e' : b ≠ 0 := fun z => e (by rw [z]; rfl)
    rw [if_neg e'] at q'
    exact ⟨.int a, rfl, .int b, rfl, a, b, rfl, rfl, wide_div (b := 64) (by omega) (by omega) (by decide) (by decide), q'⟩
theorem ok_rem {f : Addr} {fd : FuncData} (D : At K mg "rest_of_words" s_rest_of_words ["_", "one", "other"] f fd) :
    FnOk P w K mg base CX0 2 f fd ["_", "one", "other"] (spOp Op.rem.g) := by
  refine D.F.ok sc_rest_of_words (fun vs H Q E h => ?_) (fun cdv A outer s H vs Q E hr h => ?_)
  · obtain ⟨k, a, b, rfl, _⟩ := h
    rfl
  obtain ⟨k, a, b, rfl, k0, k1, a0, a1, b0, b1, q⟩ := h
  refine ⟨_, pss_one (ps_ret (pe_ifExp (pt_cmpR op_eq (pv 2) pe_int (nomark _)) (pv 1) (pe_op op_mod (pv 1) (pv 2)))), .int b, rfl, rfl, _, rfl, ?_⟩
  have q' : Q (.int (if b = 0 then a else a % b)) H := q
  refine ite2 (fun e => ?_) (fun e => ?_)
  · have e' : b = 0 := V.int.inj (of_decide_eq_true e)
    rw [if_pos e'] at q'
    exact ⟨_, rfl, q'⟩
  · have e' : b ≠ 0 := fun z => e (by rw [z]; rfl)
    rw [if_neg e'] at q'
    exact ⟨.int a, rfl, .int b, rfl, a, b, rfl, rfl, by show 0 < b; omega, q'⟩
theorem ok_and {f : Addr} {fd : FuncData} (D : At K mg "both_words" s_both_words ["_", "one", "other"] f fd) :
    FnOk P w K mg base CX0 2 f fd ["_", "one", "other"] (spOp Op.and.g) := by
  refine D.F.ok sc_both_words (fun vs H Q E h => ?_) (fun cdv A outer s H vs Q E hr h => ?_)
  · obtain ⟨k, a, b, rfl, _⟩ := h
    rfl
  obtain ⟨k, a, b, rfl, k0, k1, a0, a1, b0, b1, q⟩ := h
  exact ⟨_, pss_one (ps_ret (pe_op op_and (pv 1) (pv 2))), .int a, rfl, .int b, rfl, a, b, rfl, rfl, q⟩
theorem ok_or {f : Addr} {fd : FuncData} (D : At K mg "either_word" s_either_word ["_", "one", "other"] f fd) :
    FnOk P w K mg base CX0 2 f fd ["_", "one", "other"] (spOp Op.or.g) := by
  refine D.F.ok sc_either_word (fun vs H Q E h => ?_) (fun cdv A outer s H vs Q E hr h => ?_)
  · obtain ⟨k, a, b, rfl, _⟩ := h
    rfl
  obtain ⟨k, a, b, rfl, k0, k1, a0, a1, b0, b1, q⟩ := h
  exact ⟨_, pss_one (ps_ret (pe_op op_or (pv 1) (pv 2))), .int a, rfl, .int b, rfl, a, b, rfl, rfl, q⟩
theorem ok_xor {f : Addr} {fd : FuncData} (D : At K mg "unlike_words" s_unlike_words ["_", "one", "other"] f fd) :
    FnOk P w K mg base CX0 2 f fd ["_", "one", "other"] (spOp Op.xor.g) := by
  refine D.F.ok sc_unlike_words (fun vs H Q E h => ?_) (fun cdv A outer s H vs Q E hr h => ?_)
  · obtain ⟨k, a, b, rfl, _⟩ := h
    rfl
  obtain ⟨k, a, b, rfl, k0, k1, a0, a1, b0, b1, q⟩ := h
  exact ⟨_, pss_one (ps_ret (pe_op op_xor (pv 1) (pv 2))), .int a, rfl, .int b, rfl, a, b, rfl, rfl, q⟩
theorem ok_shl {f fW : Addr} {fd fdW : FuncData} (D : At K mg "shift_up" s_shift_up ["width", "one", "other"] f fd) (DW : At K mg "wrapped" s_wrapped ["number", "width"] fW fdW) :
    FnOk P w K mg base CX0 2 f fd ["width", "one", "other"] (spOp Op.shl.g) := by
  have GW : FnOk P w K mg base CX0 1 fW fdW ["number", "width"] spWrap := ok_wrapped DW
  refine D.F.ok sc_shift_up (fun vs H Q E h => ?_) (fun cdv A outer s H vs Q E hr h => ?_)
  · obtain ⟨k, a, b, rfl, _⟩ := h
    rfl
  obtain ⟨k, a, b, rfl, k0, k1, a0, a1, b0, b1, q⟩ := h
  have ha := p32 k1 a1
  have c0 : 0 ≤ b % (k : Int) := Int.emod_nonneg _ (by omega)
  have c1 : b % (k : Int) < k := Int.emod_lt_of_pos _ (by omega)
  exact ⟨_, pss_one (ps_ret (pe_call GW hr (by rfl) DW.g DW.F.kp DW.b .nil pass0 (pa_cons (pe_op op_shl (pv 1) (pe_op op_mod (pv 2) (pv 0))) (pa_cons (pv 0) pa_nil)))),
    .int a, rfl, .int b, rfl, .int k, rfl, b, k, rfl, rfl, by show (0 : Int) < k; omega, a, _, rfl, rfl, ⟨c0, by omega, by omega⟩, .int k, rfl, k, _, rfl, by omega, q⟩
theorem ok_shr {f : Addr} {fd : FuncData} (D : At K mg "shift_down" s_shift_down ["width", "one", "other"] f fd) :
    FnOk P w K mg base CX0 2 f fd ["width", "one", "other"] (spOp Op.shr.g) := by
  refine D.F.ok sc_shift_down (fun vs H Q E h => ?_) (fun cdv A outer s H vs Q E hr h => ?_)
  · obtain ⟨k, a, b, rfl, _⟩ := h
    rfl
  obtain ⟨k, a, b, rfl, k0, k1, a0, a1, b0, b1, q⟩ := h
  have c0 : 0 ≤ b % (k : Int) := Int.emod_nonneg _ (by omega)
  exact ⟨_, pss_one (ps_ret (pe_op op_shr (pv 1) (pe_op op_mod (pv 2) (pv 0)))), .int a, rfl, .int b, rfl, .int k, rfl, b, k, rfl, rfl, by show (0 : Int) < k; omega, a, _, rfl, rfl, c0, q⟩
theorem ok_eq {f : Addr} {fd : FuncData} (D : At K mg "are_equal" s_are_equal ["_", "one", "other"] f fd) (mi : mg "int" = none) :
    FnOk P w K mg base CX0 2 f fd ["_", "one", "other"] (spOp Op.eq.g) := by
  refine D.F.ok sc_are_equal (fun vs H Q E h => ?_) (fun cdv A outer s H vs Q E hr h => ?_)
  · obtain ⟨k, a, b, rfl, _⟩ := h
    rfl
  obtain ⟨k, a, b, rfl, k0, k1, a0, a1, b0, b1, q⟩ := h
  refine ⟨_, pss_one (ps_ret (pe_callTy call_int1 (by rfl) mi boot_int (pa_cons (pe_cmpR op_eq (pv 1) (pv 2) (nomark _)) pa_nil))), .int a, rfl, .int b, rfl, rfl, .inr ⟨_, rfl, ?_⟩⟩
  have e : (if decide (V.int a = V.int b) = true then (1 : Int) else 0) = if a = b then 1 else 0 := by
    by_cases h : a = b
    · rw [if_pos h, if_pos (decide_eq_true (by rw [h]))]
    · rw [if_neg h, if_neg (by intro z; exact h (V.int.inj (of_decide_eq_true z)))]
  rw [e]
  exact q
theorem ok_lt {f : Addr} {fd : FuncData} (D : At K mg "is_less" s_is_less ["_", "one", "other"] f fd) (mi : mg "int" = none) :
    FnOk P w K mg base CX0 2 f fd ["_", "one", "other"] (spOp Op.lt.g) := by
  refine D.F.ok sc_is_less (fun vs H Q E h => ?_) (fun cdv A outer s H vs Q E hr h => ?_)
  · obtain ⟨k, a, b, rfl, _⟩ := h
    rfl
  obtain ⟨k, a, b, rfl, k0, k1, a0, a1, b0, b1, q⟩ := h
  refine ⟨_, pss_one (ps_ret (pe_callTy call_int1 (by rfl) mi boot_int (pa_cons (pe_cmpR op_lt (pv 1) (pv 2) (nomark _)) pa_nil))), .int a, rfl, .int b, rfl, a, b, rfl, rfl, .inr ⟨_, rfl, ?_⟩⟩
  have e : (if decide (a < b) = true then (1 : Int) else 0) = if a < b then 1 else 0 := by
    by_cases h : a < b
    · rw [if_pos h, if_pos (decide_eq_true h)]
    · rw [if_neg h, if_neg (by intro z; exact h (of_decide_eq_true z))]
  rw [e]
  exact q
/-- what the table of the ops holds -/
def Acts (P : Program) (w : World) (K : PySem.W.Frag) (mg : Str → Option Value) (base : Heap) (p : Addr) : Prop :=
  ∀ o : Op, ∃ f, KDct K w p o.name (.ref f) ∧ Held P w K mg base 2 f (spOp o.g)
def spWordOp : Sp := fun vs H Q _ => ∃ (o : Op) (k : Nat) (a b : Int), vs = [.str o.name, .int k, .int a, .int b] ∧ 1 ≤ k ∧ k ≤ 32 ∧ 0 ≤ a ∧ a < 2 ^ k ∧ 0 ≤ b ∧ b < 2 ^ k ∧ Q (.int (o.g k a b)) H
theorem ok_word_op {f p : Addr} {fd : FuncData} (D : At K mg "word_op" s_word_op ["op", "width", "one", "other"] f fd) (mA : mg "ACTIONS" = some (.ref p)) (A : Acts P w K mg base p) :
    FnOk P w K mg base CX0 3 f fd ["op", "width", "one", "other"] spWordOp := by
  refine D.F.ok sc_word_op (fun vs H Q E h => ?_) (fun cdv AA outer s H vs Q E hr h => ?_)
  · obtain ⟨o, k, a, b, rfl, _⟩ := h
    rfl
  obtain ⟨o, k, a, b, rfl, k0, k1, a0, a1, b0, b1, q⟩ := h
  obtain ⟨g, hg, HG⟩ := A o
  refine ⟨_, pss_cons (ps_set (i := 4) sc_word_op.nd rfl (.inl rfl) (pe_ix ix_kdict (pe_glob (v := .ref p) (by rfl) mA rfl) (pv 0) (fun _ _ => rfl)))
    (pss_one (ps_ret (pe_callA (i := 4) (S := fun x => if x = g then some (spOp o.g) else none) (k := 2) (fun f sp hS => ?_) hr rfl (.inl rfl) (pa_cons (pv 1) (pa_cons (pv 2) (pa_cons (pv 3) pa_nil)))))), ?_⟩
  · have hS' : (if f = g then some (spOp o.g) else none) = some sp := hS
    by_cases e : f = g
    · rw [if_pos e] at hS'
      rw [e, ← Option.some.inj hS']
      exact HG
    · rw [if_neg e] at hS'
      cases hS'
  exact ⟨.str o.name, rfl, p, o.name, .ref g, rfl, rfl, hg, g, spOp o.g, rfl, if_pos rfl, .int k, rfl, .int a, rfl, .int b, rfl, k, a, b, rfl, k0, k1, a0, a1, b0, b1, q⟩
end
end K03
end

section
set_option maxHeartbeats 400000
/-! The mathematics of words by their digits of two. -/
namespace K03
def bits : Nat → Nat → List Nat
  | _, 0 => []
  | n, w + 1 => n % 2 :: bits (n / 2) w
def val : List Nat → Nat
  | [] => 0
  | d :: r => d + 2 * val r
theorem bits_len : ∀ (w n : Nat), (bits n w).length = w
  | 0, _ => rfl
  | w + 1, n => by rw [bits, List.length_cons, bits_len w]
theorem bits01 : ∀ (w n : Nat), ∀ d ∈ bits n w, d < 2
  | 0, _, d, h => by cases h
  | w + 1, n, d, h => by
    rw [bits] at h
    rcases List.mem_cons.mp h with rfl | h
    · omega
    · exact bits01 w _ d h
theorem val_bits : ∀ (w n : Nat), val (bits n w) = n % 2 ^ w
  | 0, n => by rw [bits, val, Nat.pow_zero, Nat.mod_one]
  | w + 1, n => by
    rw [bits, val, val_bits w, Nat.pow_succ, Nat.mul_comm (2 ^ w) 2, Nat.mod_mul]
theorem bits_inj {a b w : Nat} (ha : a < 2 ^ w) (hb : b < 2 ^ w) (h : bits a w = bits b w) : a = b := by
  have e := congrArg val h
  rw [val_bits, val_bits, Nat.mod_eq_of_lt ha, Nat.mod_eq_of_lt hb] at e
  exact e
theorem bits_and : ∀ (w a b : Nat), bits (a &&& b) w = List.zipWith (fun x y => if x + y = 2 then 1 else 0) (bits a w) (bits b w)
  | 0, _, _ => rfl
  | w + 1, a, b => by
    rw [bits, bits, bits, List.zipWith_cons_cons, Nat.and_div_two, bits_and w]
    congr 1
    have h := @Nat.and_mod_two_eq_one a b
    have h1 : (a &&& b) % 2 < 2 := Nat.mod_lt _ (by decide)
    split
    · have : a % 2 = 1 ∧ b % 2 = 1 := by omega
      exact h.mpr this
    · by_cases q : (a &&& b) % 2 = 1
      · have := h.mp q
        omega
      · omega
theorem bits_or : ∀ (w a b : Nat), bits (a ||| b) w = List.zipWith (fun x y => if x + y = 1 ∨ x + y = 2 then 1 else 0) (bits a w) (bits b w)
  | 0, _, _ => rfl
  | w + 1, a, b => by
    rw [bits, bits, bits, List.zipWith_cons_cons, Nat.or_div_two, bits_or w]
    congr 1
    have h := @Nat.or_mod_two_eq_one a b
    have h1 : (a ||| b) % 2 < 2 := Nat.mod_lt _ (by decide)
    split
    · have : a % 2 = 1 ∨ b % 2 = 1 := by omega
      exact h.mpr this
    · by_cases q : (a ||| b) % 2 = 1
      · have := h.mp q
        omega
      · omega
theorem bits_xor : ∀ (w a b : Nat), bits (a ^^^ b) w = List.zipWith (fun x y => if x + y = 1 then 1 else 0) (bits a w) (bits b w)
  | 0, _, _ => rfl
  | w + 1, a, b => by
    rw [bits, bits, bits, List.zipWith_cons_cons, Nat.xor_div_two, bits_xor w]
    congr 1
    have h := @Nat.xor_mod_two_eq_one a b
    have h1 : (a ^^^ b) % 2 < 2 := Nat.mod_lt _ (by decide)
    have ha : a % 2 < 2 := Nat.mod_lt _ (by decide)
    have hb : b % 2 < 2 := Nat.mod_lt _ (by decide)
    split
    · rename_i q
      apply h.mpr
      intro z
      omega
    · rename_i q
      by_cases q2 : (a ^^^ b) % 2 = 1
      · have := h.mp q2
        exfalso
        apply this
        constructor <;> intro _ <;> omega
      · omega
theorem bits_take : ∀ (w m n : Nat), w ≤ m → (bits n m).take w = bits n w
  | 0, _, _, _ => by simp [bits]
  | w + 1, 0, _, h => by omega
  | w + 1, m + 1, n, h => by rw [bits, bits, List.take_succ_cons, bits_take w m _ (by omega)]
theorem bits_shl : ∀ (j w m a : Nat), w ≤ j + m → (List.replicate j 0 ++ bits a m).take w = bits (a * 2 ^ j) w
  | 0, w, m, a, h => by
    rw [List.replicate_zero, List.nil_append, Nat.pow_zero, Nat.mul_one]
    exact bits_take w m a (by omega)
  | j + 1, 0, m, a, h => by simp [bits]
  | j + 1, w + 1, m, a, h => by
    rw [List.replicate_succ, List.cons_append, List.take_succ_cons, bits_shl j w m a (by omega), bits]
    have e : a * 2 ^ (j + 1) = 2 * (a * 2 ^ j) := by rw [Nat.pow_succ, ← Nat.mul_assoc, Nat.mul_comm]
    rw [e, Nat.mul_mod_right, Nat.mul_div_cancel_left _ (by decide)]
theorem bits_drop : ∀ (j w n : Nat), (bits n w).drop j = bits (n / 2 ^ j) (w - j)
  | 0, w, n => by simp
  | j + 1, 0, n => by simp [bits]
  | j + 1, w + 1, n => by
    rw [bits, List.drop_succ_cons, bits_drop j w, Nat.div_div_eq_div_mul, Nat.pow_succ, Nat.mul_comm 2, Nat.add_sub_add_right]
theorem bits_zero : ∀ w, bits 0 w = List.replicate w 0
  | 0 => rfl
  | w + 1 => by rw [bits, Nat.zero_div, bits_zero w]; rfl
theorem bits_more : ∀ (m j n : Nat), n < 2 ^ m → bits n (m + j) = bits n m ++ List.replicate j 0
  | 0, j, n, h => by
    have e : n = 0 := by simpa using h
    rw [e, Nat.zero_add, bits_zero, bits, List.nil_append]
  | m + 1, j, n, h => by
    rw [show m + 1 + j = (m + j) + 1 by omega, bits, bits, bits_more m j (n / 2) (by rw [Nat.pow_succ] at h; omega), List.cons_append]
theorem bits_shr {w j a : Nat} (hj : j ≤ w) (ha : a < 2 ^ w) : (bits a w ++ List.replicate j 0).drop j = bits (a / 2 ^ j) w := by
  rw [List.drop_append_of_le_length (by rw [bits_len]; exact hj), bits_drop]
  have e : w = (w - j) + j := by omega
  have h : a / 2 ^ j < 2 ^ (w - j) := by
    rw [Nat.div_lt_iff_lt_mul (Nat.two_pow_pos j), ← Nat.pow_add, ← e]
    exact ha
  conv => rhs; rw [e]
  exact (bits_more (w - j) j _ h).symm

/-! ### which comes first -/
def lexI : List Nat → List Nat → Bool
  | x :: xs, y :: ys => if x = y then lexI xs ys else decide (x < y)
  | _, _ => false
def topV : List Nat → Nat
  | [] => 0
  | d :: r => d * 2 ^ r.length + topV r
theorem topV_lt : ∀ xs : List Nat, (∀ d ∈ xs, d < 2) → topV xs < 2 ^ xs.length
  | [], _ => by simp [topV]
  | d :: r, h => by
    have h1 := topV_lt r fun x hx => h x (List.mem_cons_of_mem _ hx)
    have h2 := h d List.mem_cons_self
    have h3 : d * 2 ^ r.length ≤ 1 * 2 ^ r.length := Nat.mul_le_mul_right _ (by omega)
    rw [topV, List.length_cons, Nat.pow_succ]
    omega
theorem lex_topV : ∀ xs ys : List Nat, xs.length = ys.length → (∀ d ∈ xs, d < 2) → (∀ d ∈ ys, d < 2) → lexI xs ys = decide (topV xs < topV ys)
  | [], [], _, _, _ => rfl
  | [], _ :: _, h, _, _ => by simp at h
  | _ :: _, [], h, _, _ => by simp at h
  | x :: xs, y :: ys, h, hx, hy => by
    have hl : xs.length = ys.length := by simpa using h
    have h1 := topV_lt xs fun d hd => hx d (List.mem_cons_of_mem _ hd)
    have h2 := topV_lt ys fun d hd => hy d (List.mem_cons_of_mem _ hd)
    have ih := lex_topV xs ys hl (fun d hd => hx d (List.mem_cons_of_mem _ hd)) (fun d hd => hy d (List.mem_cons_of_mem _ hd))
    have hx0 := hx x List.mem_cons_self
    have hy0 := hy y List.mem_cons_self
    rw [lexI, topV, topV, ih, ← hl]
    rw [← hl] at h2
    generalize 2 ^ xs.length = p at *
    have cx : x = 0 ∨ x = 1 := by omega
    have cy : y = 0 ∨ y = 1 := by omega
    rcases cx with rfl | rfl <;> rcases cy with rfl | rfl <;> simp <;> omega
theorem topV_app : ∀ (xs : List Nat) (d : Nat), topV (xs ++ [d]) = 2 * topV xs + d
  | [], d => by simp [topV]
  | x :: xs, d => by
    rw [List.cons_append, topV, topV, topV_app xs d, List.length_append, List.length_singleton, Nat.pow_succ]
    have e : x * (2 ^ xs.length * 2) = 2 * (x * 2 ^ xs.length) := by rw [← Nat.mul_assoc, Nat.mul_comm]
    omega
theorem topV_rev : ∀ xs : List Nat, topV xs.reverse = val xs
  | [] => rfl
  | x :: xs => by
    rw [List.reverse_cons, topV_app, topV_rev xs, val]
    omega
theorem lex_bits {a b w : Nat} (ha : a < 2 ^ w) (hb : b < 2 ^ w) : lexI (bits a w).reverse (bits b w).reverse = decide (a < b) := by
  rw [lex_topV _ _ (by rw [List.length_reverse, List.length_reverse, bits_len, bits_len]) (fun d h => bits01 w a d (List.mem_reverse.mp h)) (fun d h => bits01 w b d (List.mem_reverse.mp h)),
    topV_rev, topV_rev, val_bits, val_bits, Nat.mod_eq_of_lt ha, Nat.mod_eq_of_lt hb]
open PySem.SeqAt in
/-- how Python finds it -/
theorem first_lex (e r : Nat → Bool) : ∀ (xs ys : List Nat) (i : Nat), xs.length = ys.length → (∀ j x y, xs[j]? = some x → ys[j]? = some y → e (i + j) = decide (x = y) ∧ r (i + j) = decide (x < y)) →
    firstLt e r false (List.range' i xs.length) = lexI xs ys
  | [], [], _, _, _ => rfl
  | [], _ :: _, _, h, _ => by simp at h
  | _ :: _, [], _, h, _ => by simp at h
  | x :: xs, y :: ys, i, h, hh => by
    have hl : xs.length = ys.length := by simpa using h
    have h0 := hh 0 x y rfl rfl
    rw [Nat.add_zero] at h0
    have ih := first_lex e r xs ys (i + 1) hl fun j x' y' hx hy => by
      have := hh (j + 1) x' y' (by simpa using hx) (by simpa using hy)
      rw [show i + 1 + j = i + (j + 1) by omega]
      exact this
    rw [List.length_cons, List.range'_succ, lexI]
    by_cases q : x = y
    · rw [firstLt_yes (by rw [h0.1]; exact decide_eq_true q), if_pos q, ih]
    · rw [firstLt_no (by rw [h0.1]; exact decide_eq_false q), if_neg q, h0.2]
end K03
end

section
set_option maxHeartbeats 1000000
namespace K03
open PySem PySem.Spec PyProof.Rows L2 Zc
abbrev nV (d : Nat) : V := .int (d : Int)
def spPower : Sp := fun vs H Q _ => ∃ k : Nat, vs = [nV k] ∧ k ≤ 1000 ∧ Q (.int ((2 : Int) ^ k)) H
def spDigits : Sp := fun vs H Q _ => ∃ n k : Nat, vs = [nV n, nV k] ∧ k ≤ 1000 ∧ ∀ (p : Addr) (H' : Hp), H p = none → Same H H' → H' p = some (.lst ((bits n k).map nV)) → Q (.ref p) H'
def spBack (K : PySem.W.Frag) : Sp := fun vs H Q _ => ∃ (a : Addr) (ds : List Nat), vs = [.ref a] ∧ SqL K H a (ds.map nV) ∧ (∀ d ∈ ds, d < 2) ∧ ∀ H', Same H H' → Q (nV (val ds)) H'
def spTimes : Sp := fun vs H Q _ => ∃ a b k : Nat, vs = [nV a, nV b, nV k] ∧ k ≤ 32 ∧ a < 2 ^ k ∧ b < 2 ^ k ∧ 0 < b ∧ ∀ H', Same H H' → Q (nV (a / b)) H'
theorem nat_snoc (ys : List Nat) (z : Nat) : (ys ++ [z]).map nV = ys.map nV ++ [nV z] := by
  rw [List.map_append]
  rfl
theorem nat_at {ns : List Nat} {i : Nat} {x : V} (h : (ns.map nV)[i]? = some x) : ∃ n, ns[i]? = some n ∧ x = nV n := by
  rw [List.getElem?_map] at h
  cases e : ns[i]? with
  | none =>
    rw [e] at h
    cases h
  | some n =>
    rw [e] at h
    exact ⟨n, rfl, (Option.some.inj h).symm⟩
/-- the rest behind so many digits -/
theorem bits_snoc : ∀ (w n : Nat), bits n (w + 1) = bits n w ++ [n / 2 ^ w % 2]
  | 0, n => by simp [bits]
  | w + 1, n => by
    rw [bits, bits_snoc w (n / 2), bits, List.cons_append, Nat.div_div_eq_div_mul, Nat.pow_succ, Nat.mul_comm 2]
theorem val_snoc : ∀ (xs : List Nat) (d : Nat), val (xs ++ [d]) = val xs + d * 2 ^ xs.length
  | [], d => by simp [val]
  | x :: xs, d => by
    rw [List.cons_append, val, val, val_snoc xs d, List.length_cons, Nat.pow_succ]
    have e : d * (2 ^ xs.length * 2) = 2 * (d * 2 ^ xs.length) := by rw [← Nat.mul_assoc, Nat.mul_comm]
    omega
section
variable {P : Program} {w : World} {K : PySem.W.Frag} {mg : Str → Option Value} {base : Heap}
theorem ok_power {f : Addr} {fd : FuncData} (D : At K mg "_law_power" s__law_power ["many"] f fd) : FnOk P w K mg base CX0 1 f fd ["many"] spPower := by
  refine D.F.ok sc__law_power (fun vs H Q E h => ?_) (fun cdv A outer s H vs Q E hr h => ?_)
  · obtain ⟨k, rfl, _⟩ := h
    rfl
  obtain ⟨k, rfl, hk, q⟩ := h
  refine ⟨_, pss_one (ps_ret (pe_op op_shl pe_int (pv 0))), nV k, rfl, 1, (k : Int), rfl, rfl, cpow hk, ?_⟩
  show Q (.int ((1 : Int) * 2 ^ ((k : Nat) : Int).toNat)) H
  rw [pow_int]
  exact q
theorem ok_digits {f : Addr} {fd : FuncData} (D : At K mg "_law_digits" s__law_digits ["number", "width"] f fd) (mr : mg "range" = none) (mi : mg "int" = none) :
    FnOk P w K mg base CX0 1 f fd ["number", "width"] spDigits := by
  have nd := sc__law_digits.nd
  refine D.F.ok sc__law_digits (fun vs H Q E h => ?_) (fun cdv A outer s H vs Q E hr h => ?_)
  · obtain ⟨n, k, rfl, _⟩ := h
    rfl
  obtain ⟨n, k, rfl, hk, q⟩ := h
  refine ⟨_, pss_cons (ps_par (i := 2) (j := 3) (by rfl) nd rfl rfl (by decide) rfl rfl (pa_cons (pv 0) (pa_cons (pe_lst pa_nil) pa_nil)) (by rfl))
    (pss_cons (ps_for PassesOwn.never rfl (pi_range1 (by rfl) mr (pa_cons (pv 1) pa_nil)) (pg_name (i := 4) nd rfl (.inl rfl))
      (pss_cons (ps_expr (pe_bm PySem.F.plainAttrs_list PySem.F.slot_list_append PySem.F.type_list_append mt_append (pv 3) (pa_cons (pe_op op_mod (pe_callTy call_int1 (by rfl) mi boot_int (pa_cons (pv 2) pa_nil)) pe_int) pa_nil)))
      (pss_one (ps_set (i := 2) nd rfl (.inl rfl) (pe_op op_fdivW (pv 2) pe_int)))))
    (pss_one (ps_ret (pv 3)))), ?_⟩
  refine ⟨nV n, rfl, Nat.zero_le _, fun p np => ⟨nV n, .ref p, rfl, ?_⟩⟩
  refine ⟨nV k, rfl, k, rfl, by omega, by omega, ?_⟩
  rw [Int.toNat_natCast]
  refine for_range (lo := 0) (n := k) (fun i σ H' => ∃ y, σ = [some (nV n), some (nV k), some (nV (n / 2 ^ i)), some (.ref p), y] ∧ Same H H' ∧ H' p = some (.lst ((bits n i).map nV)))
    ⟨none, by rw [Nat.pow_zero, Nat.div_one]; rfl, same_new np, upd_same⟩ ?_ ?_
  · rintro i σ H' hi ⟨y, rfl, hs, hp⟩
    refine ⟨.ref p, rfl, .inl ⟨rfl, _, .inl (.inl hp)⟩, nV (n / 2 ^ i), rfl, .inl ⟨_, rfl, _, 2, rfl, rfl, by show (0 : Int) < 2; decide, p, _, _, rfl, rfl, hp, ?_, ?_⟩⟩
    · rw [List.length_map, bits_len]
      exact Nat.lt_of_le_of_lt (show i ≤ 1000 by omega) (by decide)
    · refine ⟨nV (n / 2 ^ i), rfl, _, 2, rfl, rfl, wide_div (b := 8) (by decide) (by decide) (by decide) (by decide), some (.int (0 + i)), ?_, ?_, ?_⟩
      · have e : ((n / 2 ^ i : Nat) : Int) / 2 = ((n / 2 ^ (i + 1) : Nat) : Int) := by
          rw [Nat.pow_succ, ← Nat.div_div_eq_div_mul, Int.natCast_ediv (n / 2 ^ i) 2]
          rfl
        show [some (nV n), some (nV k), some (V.int (((n / 2 ^ i : Nat) : Int) / 2)), some (V.ref p), some (V.int (0 + i))] = _
        rw [e]
      · intro b o e
        have hb : b ≠ p := ne_of_none e np
        rw [upd_ne hb]
        exact hs b o e
      · rw [upd_same, bits_snoc, nat_snoc]
        have e : ((n / 2 ^ i : Nat) : Int) % 2 = ((n / 2 ^ i % 2 : Nat) : Int) := by
          rw [Int.natCast_emod]
          rfl
        show some (HO.lst ((bits n i).map nV ++ [V.int (((n / 2 ^ i : Nat) : Int) % 2)])) = _
        rw [e]
  · rintro σ H' ⟨y, rfl, hs, hp⟩
    exact ⟨.ref p, rfl, q p H' np hs hp⟩
theorem ok_back {f : Addr} {fd : FuncData} (D : At K mg "_law_back" s__law_back ["digits"] f fd) : FnOk P w K mg base CX0 1 f fd ["digits"] (spBack K) := by
  have nd := sc__law_back.nd
  refine D.F.ok sc__law_back (fun vs H Q E h => ?_) (fun cdv A outer s H vs Q E hr h => ?_)
  · obtain ⟨a, ds, rfl, _⟩ := h
    rfl
  obtain ⟨a, ds, rfl, hS, h2, q⟩ := h
  refine ⟨_, pss_cons (ps_asg (pe_tup (pa_cons pe_int (pa_cons pe_int pa_nil))) (pg_tup (by rfl) (pgs_cons (pg_name (i := 1) nd rfl (.inl rfl)) (pgs_cons (pg_name (i := 2) nd rfl (.inl rfl)) pgs_nil))))
    (pss_cons (ps_for PassesOwn.never rfl (pi_list (pv 0)) (pg_name (i := 3) nd rfl (.inl rfl))
      (pss_one (ps_par (i := 1) (j := 2) (by rfl) nd rfl rfl (by decide) rfl rfl (pa_cons (pe_op op_add (pv 1) (pe_op op_mul (pv 3) (pv 2))) (pa_cons (pe_op op_add (pv 2) (pv 2)) pa_nil)) (by rfl))))
    (pss_one (ps_ret (pv 1)))), ?_⟩
  refine ⟨by show 2 ≤ sizeLine; decide, fun t nt => ⟨t, _, rfl, .inl (.inl upd_same), rfl, .int 0, [.int 1], rfl, .int 1, [], rfl, rfl, ?_⟩⟩
  have hS' : SqL K (upd H t (.tup [.int 0, .int 1])) a (ds.map nV) := (same_new nt).seq hS
  refine ⟨.ref a, rfl, a, rfl, ⟨_, hS'⟩, for_list (K := K) (a := a) (xs := ds.map nV) (fun i σ H' => ∃ y, σ = [some (.ref a), some (nV (val (ds.take i))), some (nV (2 ^ i)), y] ∧ H' = upd H t (.tup [.int 0, .int 1])) ⟨none, rfl, rfl⟩
    (fun i σ H' _ ⟨_, _, e⟩ => by rw [e]; exact hS') ?_ ?_⟩
  · rintro i x σ H' hx ⟨y, rfl, rfl⟩
    obtain ⟨d, hd, rfl⟩ := nat_at hx
    have hlt := (List.getElem?_eq_some_iff.mp hd).1
    have d2 := h2 d (List.mem_of_getElem? hd)
    refine ⟨nV (val (ds.take i)), rfl, nV d, rfl, nV (2 ^ i), rfl, _, _, rfl, rfl, .inl ⟨by omega, by omega⟩, _, _, rfl, rfl, nV (2 ^ i), rfl, nV (2 ^ i), rfl, _, _, rfl, rfl, _, _, rfl, some (nV d), ?_, rfl⟩
    have e1 : ((val (ds.take i) : Nat) : Int) + (d : Int) * ((2 ^ i : Nat) : Int) = ((val (ds.take (i + 1)) : Nat) : Int) := by
      rw [List.take_add_one, hd]
      show _ = ((val (ds.take i ++ [d]) : Nat) : Int)
      rw [val_snoc, List.length_take, Nat.min_eq_left (by omega), Int.natCast_add, Int.natCast_mul]
    have e2 : ((2 ^ i : Nat) : Int) + ((2 ^ i : Nat) : Int) = ((2 ^ (i + 1) : Nat) : Int) := by
      rw [Nat.pow_succ]
      omega
    show [some (V.ref a), some (V.int (((val (ds.take i) : Nat) : Int) + (d : Int) * ((2 ^ i : Nat) : Int))), some (V.int (((2 ^ i : Nat) : Int) + ((2 ^ i : Nat) : Int))), some (nV d)] = _
    rw [e1, e2]
  · rintro σ H' ⟨y, rfl, rfl⟩
    rw [List.length_map, List.take_of_length_le (Nat.le_refl _)]
    exact ⟨_, rfl, q _ (same_new nt)⟩
end
end K03
end

section
set_option maxHeartbeats 1000000
namespace K03
open PySem PySem.Spec PyProof.Rows L2 Zc
/-- a number doubled so often, one behind the other -/
def pl (b : Nat) (n : Nat) : List Nat := (List.range (n + 1)).map fun i => b * 2 ^ i
theorem pl_snoc (b n : Nat) : pl b (n + 1) = pl b n ++ [b * 2 ^ (n + 1)] := by
  unfold pl
  rw [List.range_succ, List.map_append]
  rfl
theorem pl_len (b n : Nat) : (pl b n).length = n + 1 := by
  unfold pl
  rw [List.length_map, List.length_range]
theorem pl_at {b n i : Nat} (h : i ≤ n) : ((pl b n).map nV)[i]? = some (nV (b * 2 ^ i)) := by
  unfold pl
  rw [List.getElem?_map, List.getElem?_map, List.getElem?_range (by omega)]
  rfl
theorem pl_last (b n : Nat) : atI ((pl b n).map nV) (-1) = some (nV (b * 2 ^ n)) := by
  cases n with
  | zero => rfl
  | succ n =>
    rw [pl_snoc, nat_snoc]
    exact atI_last _ _
theorem rev_at {k i : Nat} {x : V} (h : ((rgV 0 ((k : Int) + 1)).reverse)[i]? = some x) : i ≤ k ∧ x = nV (k - i) := by
  have hl : (rgV 0 ((k : Int) + 1)).length = k + 1 := by
    rw [rgV_length]
    omega
  have hi : i < k + 1 := by
    have q := (List.getElem?_eq_some_iff.mp h).1
    rw [List.length_reverse, hl] at q
    exact q
  refine ⟨by omega, ?_⟩
  rw [List.getElem?_reverse (by omega), hl] at h
  have e : (rgV 0 ((k : Int) + 1))[k - i]? = some (nV (k - i)) := by
    unfold rgV
    rw [List.getElem?_map, List.getElem?_range (by omega)]
    show some (V.int (0 + ((k - i : Nat) : Int))) = _
    rw [Int.zero_add]
  rw [show k + 1 - 1 - i = k - i by omega, e] at h
  exact (Option.some.inj h).symm
theorem p32n {a k : Nat} (hk : k ≤ 32) (h : a < 2 ^ k) : a < 4294967296 :=
  Nat.lt_of_lt_of_le h (Nat.pow_le_pow_right (by decide) hk)
section
variable {P : Program} {w : World} {K : PySem.W.Frag} {mg : Str → Option Value} {base : Heap}
theorem ok_times {f fP : Addr} {fd fdP : FuncData} (D : At K mg "_law_times" s__law_times ["one", "other", "width"] f fd) (DP : At K mg "_law_power" s__law_power ["many"] fP fdP)
    (mr : mg "range" = none) (ml : mg "list" = none) : FnOk P w K mg base CX0 2 f fd ["one", "other", "width"] spTimes := by
  have GP : FnOk P w K mg base CX0 1 fP fdP ["many"] spPower := ok_power DP
  have nd := sc__law_times.nd
  refine D.F.ok sc__law_times (fun vs H Q E h => ?_) (fun cdv A outer s H vs Q E hr h => ?_)
  · obtain ⟨a, b, k, rfl, _⟩ := h
    rfl
  obtain ⟨a, b, k, rfl, hk, ha, hb, b0, q⟩ := h
  refine ⟨_, pss_cons (ps_par3 (i := 3) (j := 4) (l := 5) (by rfl) nd rfl rfl rfl (by decide) (by decide) (by decide) rfl rfl rfl
        (pa_cons (pe_lst (pa_cons (pv 1) pa_nil)) (pa_cons pe_int (pa_cons (pv 0) pa_nil))) (by rfl))
    (pss_cons (ps_for PassesOwn.never rfl (pi_range1 (by rfl) mr (pa_cons (pv 2) pa_nil)) (pg_name (i := 6) nd rfl (.inl rfl))
      (pss_one (ps_expr (pe_bm PySem.F.plainAttrs_list PySem.F.slot_list_append PySem.F.type_list_append mt_append (pv 3)
        (pa_cons (pe_op op_add (pe_ix ix_list (pv 3) (pe_un un_neg pe_int) (fun _ _ => rfl)) (pe_ix ix_list (pv 3) (pe_un un_neg pe_int) (fun _ _ => rfl))) pa_nil)))))
    (pss_cons (ps_for PassesOwn.never rfl (pi_list (pe_revL (pe_listRg (by rfl) (by rfl) ml (prg_1 (by rfl) mr (pe_op op_add (pv 2) pe_int))))) (pg_name (i := 7) nd rfl (.inl rfl))
      (pss_one (ps_if (pt_cmpR op_le (pe_ix ix_list (pv 3) (pv 7) (fun _ _ => rfl)) (pv 5) (nomark _))
        (pss_one (ps_par (i := 5) (j := 4) (by rfl) nd rfl rfl (by decide) rfl rfl (pa_cons (pe_op op_sub (pv 5) (pe_ix ix_list (pv 3) (pv 7) (fun _ _ => rfl)))
          (pa_cons (pe_op op_add (pv 4) (pe_call GP hr (by rfl) DP.g DP.F.kp DP.b .nil pass0 (pa_cons (pv 7) pa_nil))) pa_nil)) (by rfl))) pss_nil)))
    (pss_one (ps_ret (pv 4))))), ?_⟩
  refine ⟨nV b, rfl, by show 1 ≤ sizeLine; decide, fun p np => ⟨nV a, rfl, .ref p, .int 0, nV a, rfl, ?_⟩⟩
  refine ⟨nV k, rfl, k, rfl, by omega, by omega, ?_⟩
  rw [Int.toNat_natCast]
  have hp32 : ∀ i, i ≤ 32 → b * 2 ^ i < 2 ^ 64 := fun i hi => by
    have h1 := p32n hk hb
    have h2 : 2 ^ i ≤ 2 ^ 32 := Nat.pow_le_pow_right (by decide) hi
    have h3 : b * 2 ^ i ≤ 4294967296 * 2 ^ 32 := Nat.mul_le_mul (by omega) h2
    have h4 : b * 2 ^ i < 4294967296 * 2 ^ 32 := Nat.lt_of_le_of_lt (Nat.mul_le_mul_left b h2) (Nat.mul_lt_mul_of_pos_right h1 (by decide))
    omega
  refine for_range (lo := 0) (n := k) (fun i σ H' => ∃ y, σ = [some (nV a), some (nV b), some (nV k), some (.ref p), some (.int 0), some (nV a), y, none] ∧ Same H H' ∧ H' p = some (.lst ((pl b i).map nV)))
    ⟨none, rfl, same_new np, by rw [upd_same]; show _ = some (HO.lst [nV (b * 2 ^ 0)]); rw [Nat.pow_zero, Nat.mul_one]⟩ ?_ ?_
  · rintro i σ H' hi ⟨y, rfl, hs, hp⟩
    have lst := pl_last b i
    refine ⟨.ref p, rfl, .inl ⟨rfl, _, .inl (.inl hp)⟩, .ref p, rfl, 1, rfl, p, _, -1, _, rfl, rfl, .inl (.inl hp), lst, .ref p, rfl, 1, rfl, p, _, -1, _, rfl, rfl, .inl (.inl hp), lst, _, _, rfl, rfl, p, _, _, rfl, rfl, hp, ?_, ?_⟩
    · rw [List.length_map, pl_len]
      exact Nat.lt_of_le_of_lt (show i + 1 ≤ 100 by omega) (by decide)
    · refine ⟨some (.int (0 + i)), rfl, ?_, ?_⟩
      · intro q o e
        rw [upd_ne (ne_of_none e np)]
        exact hs q o e
      · rw [upd_same, pl_snoc, nat_snoc]
        have e : ((b * 2 ^ i : Nat) : Int) + ((b * 2 ^ i : Nat) : Int) = ((b * 2 ^ (i + 1) : Nat) : Int) := by
          rw [Nat.pow_succ, ← Nat.mul_assoc]
          omega
        show some (HO.lst ((pl b i).map nV ++ [V.int (((b * 2 ^ i : Nat) : Int) + ((b * 2 ^ i : Nat) : Int))])) = _
        rw [e]
  rintro σ H1 ⟨y, rfl, hs, hp⟩
  refine ⟨nV k, rfl, (k : Int), 1, rfl, rfl, (k : Int) + 1, rfl, RgOk.of_le (by decide) (by omega) (by decide) (by omega), fun r nr => ?_⟩
  refine ⟨r, rgV 0 ((k : Int) + 1), rfl, .inl (.inl upd_same), fun t nt => ?_⟩
  have hs2 : Same H (upd (upd H1 r (.lst (rgV 0 ((k : Int) + 1)))) t (.lst (rgV 0 ((k : Int) + 1)).reverse)) := (hs.trans (same_new nr)).trans (same_new nt)
  have hp2 : (upd (upd H1 r (.lst (rgV 0 ((k : Int) + 1)))) t (.lst (rgV 0 ((k : Int) + 1)).reverse)) p = some (.lst ((pl b k).map nV)) := ((same_new nr).trans (same_new nt)) p _ hp
  refine ⟨t, rfl, ⟨_, .inl (.inl upd_same)⟩, for_list (K := K) (a := t) (xs := (rgV 0 ((k : Int) + 1)).reverse)
    (fun i σ H' => ∃ (g z : Nat) (y7 : Option V), σ = [some (nV a), some (nV b), some (nV k), some (.ref p), some (nV g), some (nV z), y, y7] ∧ H' = upd (upd H1 r (.lst (rgV 0 ((k : Int) + 1)))) t (.lst (rgV 0 ((k : Int) + 1)).reverse) ∧ z + g * b = a ∧ z < b * 2 ^ (k + 1 - i))
    ⟨0, a, none, rfl, rfl, by omega, ?_⟩ (fun i σ H' _ ⟨_, _, _, _, e, _⟩ => by rw [e]; exact .inl (.inl upd_same)) ?_ ?_⟩
  · have h1 : 2 ^ k < 2 ^ (k + 1) := Nat.pow_lt_pow_right (by decide) (by omega)
    have h2 : 1 * 2 ^ (k + 1) ≤ b * 2 ^ (k + 1) := Nat.mul_le_mul_right _ b0
    rw [Nat.sub_zero]
    omega
  · rintro i x σ H' hx ⟨g, z, y7, rfl, rfl, e1, e2⟩
    obtain ⟨hik, rfl⟩ := rev_at hx
    have hpl : atI ((pl b k).map nV) ((k - i : Nat) : Int) = some (nV (b * 2 ^ (k - i))) := atI_nat (pl_at (by omega))
    have e3 : b * 2 ^ (k + 1 - i) = 2 * (b * 2 ^ (k - i)) := by
      rw [show k + 1 - i = (k - i) + 1 by omega, Nat.pow_succ, ← Nat.mul_assoc, Nat.mul_comm]
    rw [e3] at e2
    refine ⟨.ref p, rfl, nV (k - i), rfl, p, _, _, _, rfl, rfl, .inl (.inl hp2), hpl, nV z, rfl, _, _, rfl, rfl, _, rfl, ite2 (fun hle => ?_) (fun hle => ?_)⟩
    · have hle' : ((b * 2 ^ (k - i) : Nat) : Int) ≤ (z : Int) := of_decide_eq_true hle
      have hle2 : b * 2 ^ (k - i) ≤ z := by omega
      refine ⟨nV z, rfl, .ref p, rfl, nV (k - i), rfl, p, _, _, _, rfl, rfl, .inl (.inl hp2), hpl, _, _, rfl, rfl, nV g, rfl, nV (k - i), rfl, k - i, rfl, by omega, _, _, rfl, rfl, _, _, rfl, ?_⟩
      have c1 : (z : Int) - ((b * 2 ^ (k - i) : Nat) : Int) = ((z - b * 2 ^ (k - i) : Nat) : Int) := by omega
      have c2 : (g : Int) + (2 : Int) ^ (k - i) = ((g + 2 ^ (k - i) : Nat) : Int) := by
        rw [Int.natCast_add, Int.natCast_pow]
        rfl
      refine ⟨g + 2 ^ (k - i), z - b * 2 ^ (k - i), some (nV (k - i)), ?_, rfl, ?_, ?_⟩
      · show [some (nV a), some (nV b), some (nV k), some (V.ref p), some (V.int ((g : Int) + (2 : Int) ^ (k - i))), some (V.int ((z : Int) - ((b * 2 ^ (k - i) : Nat) : Int))), y, some (nV (k - i))] = _
        rw [c1, c2]
      · rw [Nat.add_mul, Nat.mul_comm (2 ^ (k - i)) b]
        omega
      · rw [show k + 1 - (i + 1) = k - i by omega]
        omega
    · have hle' : ¬ (((b * 2 ^ (k - i) : Nat) : Int) ≤ (z : Int)) := fun h => hle (decide_eq_true h)
      refine ⟨g, z, some (nV (k - i)), rfl, rfl, e1, ?_⟩
      rw [show k + 1 - (i + 1) = k - i by omega]
      omega
  · rintro σ H' ⟨g, z, y7, rfl, rfl, e1, e2⟩
    have hl : ((rgV 0 ((k : Int) + 1)).reverse).length = k + 1 := by
      rw [List.length_reverse, rgV_length]
      omega
    rw [hl, Nat.sub_self, Nat.pow_zero, Nat.mul_one] at e2
    have eg : g = a / b := by
      rw [← e1, Nat.add_mul_div_right _ _ b0, Nat.div_eq_of_lt e2, Nat.zero_add]
    refine ⟨_, rfl, ?_⟩
    rw [eg]
    exact q _ hs2
end
end K03
end

section
set_option maxHeartbeats 1000000
namespace K03
open PySem PySem.Spec PyProof.Rows L2 Zc
section
variable {X : Cx}
/-- a test that is one of two tests -/
def tIfT (t ta tb : TT) : TT := fun σ H Q => t σ H fun c H1 => if c = true then ta σ H1 Q else tb σ H1 Q
theorem pt_ifT {c a b : Expr} {pos : Pos} {tc ta tb : TT} (hc : PT X c tc) (ha : PT X a ta) (hb : PT X b tb) : PT X (.IfExp c a b pos) (tIfT tc ta tb) := by
  constructor
  intro pins s σ H Q I h
  refine isTrue_IfExp (thn (hc.run pins s σ H _ I h) ?_)
  rintro d s1 ⟨H1, I1, q1⟩
  cases d with
  | true => exact ha.run pins s1 σ H1 Q I1 q1
  | false => exact hb.run pins s1 σ H1 Q I1 q1
/-- < of two lists of numbers, as long as one another -/
def rLtN (K : PySem.W.Frag) : R2 := fun x y H Q => ∃ (a b : Addr) (xs ys : List Nat), x = .ref a ∧ y = .ref b ∧ SqL K H a (xs.map nV) ∧ SqL K H b (ys.map nV) ∧ xs.length = ys.length ∧ Q (.bl (lexI xs ys)) H
theorem vals_nat {xs : List Nat} {us : List Value} (r : Vals (xs.map nV) us) {j : Nat} (h : j < us.toArray.size) : ∃ t, us.toArray[j] = .int ((xs.getD j 0 : Nat) : Int) t := by
  have hj : j < us.length := by simpa using h
  have hl : xs.length = us.length := by
    have := r.length
    rw [List.length_map] at this
    exact this
  have hx : (xs.map nV)[j]? = some (nV (xs.getD j 0)) := by
    rw [List.getElem?_map, List.getElem?_eq_getElem (by omega)]
    simp [List.getD, List.getElem?_eq_getElem (show j < xs.length by omega)]
  obtain ⟨u, hu, t, rfl⟩ := r.get hx
  refine ⟨t, ?_⟩
  have e : us[j]? = some us[j] := List.getElem?_eq_getElem hj
  rw [e] at hu
  simpa using Option.some.inj hu
theorem op_ltN (hu : X.A.units < cLine) : OpR X (compareOp .Lt) (rLtN X.K) := by
  intro pins s σ H x y v u Q I rx ry h
  obtain ⟨a, b, xs, ys, rfl, rfl, ha, hb, hl, q⟩ := h
  cases rx
  cases ry
  obtain ⟨us, r1, p1, _⟩ := I.list ha
  obtain ⟨ws, r2, p2, _⟩ := I.list hb
  have l1 : us.toArray.size = xs.length := by
    have := r1.length
    rw [List.length_map] at this
    simp [this]
  have l2 : ws.toArray.size = ys.length := by
    have := r2.length
    rw [List.length_map] at this
    simp [this]
  have R := SeqAt.RcLt.lists (A := X.A) (s := s) (e := fun j => decide (xs.getD j 0 = ys.getD j 0)) (r := fun j => decide (xs.getD j 0 < ys.getD j 0)) p1.isList p2.isList hu
    (fun j h1 h2 => by
      obtain ⟨t, et⟩ := vals_nat r1 h1
      obtain ⟨t', et'⟩ := vals_nat r2 h2
      rw [et, et']
      have z : (((xs.getD j 0 : Nat) : Int) == ((ys.getD j 0 : Nat) : Int)) = decide (xs.getD j 0 = ys.getD j 0) := by
        by_cases q : xs.getD j 0 = ys.getD j 0
        · rw [decide_eq_true q, q]
          exact beq_iff_eq.mpr rfl
        · rw [decide_eq_false q]
          exact beq_eq_false_iff_ne.mpr fun e => q (by omega)
      rw [← z]
      exact SeqAt.EqAt.int_int _ _ _ _)
    (fun j h1 h2 _ => by
      obtain ⟨t, et⟩ := vals_nat r1 h1
      obtain ⟨t', et'⟩ := vals_nat r2 h2
      rw [et, et']
      have z : decide (((xs.getD j 0 : Nat) : Int) < ((ys.getD j 0 : Nat) : Int)) = decide (xs.getD j 0 < ys.getD j 0) := by
        by_cases q : xs.getD j 0 < ys.getD j 0
        · rw [decide_eq_true q]
          exact decide_eq_true (by omega)
        · rw [decide_eq_false q]
          exact decide_eq_false (by omega)
      rw [← z]
      intro prog w E Q h
      exact PyProof.Rows.lt_int h)
  rw [l1, l2, ← hl, Nat.min_self, show decide (xs.length < xs.length) = false from decide_eq_false (Nat.lt_irrefl _), List.range_eq_range',
    first_lex _ _ xs ys 0 hl (fun j x y hx hy => by
      rw [Nat.zero_add]
      have ex : xs.getD j 0 = x := by simp [List.getD, hx]
      have ey : ys.getD j 0 = y := by simp [List.getD, hy]
      rw [ex, ey]
      exact ⟨rfl, rfl⟩)] at R
  exact R X.prog X.w X.xe (EP X pins σ Q) ⟨.bl _, H, I, rfl, q⟩
end
end K03
end

section
set_option maxHeartbeats 2000000
namespace K03
open PySem PySem.Spec PyProof.Rows L2 Zc
def spDue : Sp := fun vs H Q _ => ∃ (o : Op) (k a b : Nat), vs = [.str o.name, nV k, nV a, nV b] ∧ 1 ≤ k ∧ k ≤ 32 ∧ a < 2 ^ k ∧ b < 2 ^ k ∧ ∀ H', Same H H' → Q (.int (o.g k a b)) H'
/-- «if op in [..]:» -/
theorem in_step {K : PySem.W.Frag} {σ : L2.St} {H : Hp} {D : Ends} {tb tu : TS} {tl : TA} {x : V} {ws : List V} {b : Bool} (hσ : σ[0]? = some (some x)) (hf : flatV x = true) (hw : ws.all flatV = true)
    (hl : ws.length ≤ 100) (hb : inV x ws = b) (htl : ∀ σ H Q, tl σ H Q = Q ws H)
    (k : ∀ p, H p = none → if b = true then tb D σ (upd H p (.lst ws)) else tu D σ (upd H p (.lst ws))) : tIfS (tTest (tOp (rIn K false) (tVar 0) (tLst tl))) tb tu D σ H := by
  refine ⟨x, hσ, ?_⟩
  show tl σ H _
  rw [htl]
  refine ⟨Nat.le_trans hl (by decide), fun p np => ⟨p, ws, rfl, .inl (.inl (.inl upd_same)), hf, hw, b, ?_, k p np⟩⟩
  show V.bl (if false = true then !inV x ws else inV x ws) = V.bl b
  rw [if_neg Bool.false_ne_true, hb]

theorem cut_take {xs : List V} (k : Nat) : cutV xs none (some (k : Int)) = xs.take k := by
  unfold cutV
  rw [HT.sIx_none, HT.sIx_nat, List.drop_zero, Nat.sub_zero]
  by_cases h : k ≤ xs.length
  · rw [Nat.min_eq_left h]
  · rw [Nat.min_eq_right (by omega), List.take_of_length_le (Nat.le_refl _), List.take_of_length_le (by omega)]
theorem cut_drop {xs : List V} (j : Nat) : cutV xs (some (j : Int)) none = xs.drop j := by
  unfold cutV
  rw [HT.sIx_none, HT.sIx_nat]
  by_cases h : j ≤ xs.length
  · rw [Nat.min_eq_left h, List.take_of_length_le (by rw [List.length_drop]; omega)]
  · rw [Nat.min_eq_right (by omega), Nat.sub_self, List.take_zero, List.drop_eq_nil_of_le (by omega)]
theorem rep_flat (j : Nat) (x : V) : (List.replicate j [x]).flatten = List.replicate j x := by
  induction j with
  | zero => rfl
  | succ j ih =>
    rw [List.replicate_succ, List.flatten_cons, ih]
    rfl
theorem rep_nV (j : Nat) : List.replicate j (nV 0) = (List.replicate j 0).map nV := by
  rw [List.map_replicate]
theorem dp_nats {K : PySem.W.Frag} {H : Hp} : ∀ ns : List Nat, DpAll K H (ns.map nV) (ns.map fun n : Nat => PyData.int (n : Int))
  | [] => .nil
  | n :: r => .cons (.int n) (dp_nats r)
theorem shaped_nats (ns : List Nat) : SeqAt.shaped (.list (ns.map fun n : Nat => PyData.int (n : Int))) = true := by
  have h := shaped_ints (ns.map fun n : Nat => (n : Int))
  rw [List.map_map] at h
  exact h
theorem eqv_nats : ∀ xs ys : List Nat, PyData.eqvAll (xs.map fun n : Nat => PyData.int (n : Int)) (ys.map fun n : Nat => PyData.int (n : Int)) = decide (xs = ys)
  | [], [] => by simp [PyData.eqvAll]
  | [], _ :: _ => by simp [PyData.eqvAll]
  | _ :: _, [] => by simp [PyData.eqvAll]
  | x :: xs, y :: ys => by
    simp only [List.map_cons, PyData.eqvAll, PyData.eqv, eqv_nats xs ys, List.cons.injEq]
    by_cases h : x = y
    · simp [h]
    · have h2 : ((x : Int) == (y : Int)) = false := beq_eq_false_iff_ne.mpr fun e => h (by omega)
      rw [h2, Bool.false_and]
      exact (decide_eq_false fun z => h z.1).symm
theorem ret_call {te : TE} {sp : Sp} {E : XK} {D : Ends} {σ : L2.St} {H : Hp} (h : te σ H fun x H1 => sp [x] H1 D.rt E) : tRet (tCall sp [] E (tCons te tNil)) D σ H := h
def mixN (ws : List V) (x y : Nat) : Nat := if inV (.int ((x : Int) + (y : Int))) ws = true then 1 else 0
/-- the digits put together, pair by pair -/
theorem comp_zip {K : PySem.W.Frag} {H : Hp} {Q : VK} {p1 p2 l : Addr} {as bs : List Nat} {ws : List V} {x0 x1 x2 x3 x6 x7 x9 x10 x11 : Option V}
    (h1 : H p1 = some (.lst (as.map nV))) (h2 : H p2 = some (.lst (bs.map nV))) (hl : H l = some (.lst ws)) (hw : ws.all flatV = true) (hlen : as.length = bs.length) (h100 : as.length ≤ 1000)
    (k : ∀ (D : Addr) (H' : Hp), H D = none → Same H H' → H' D = some (.lst ((List.zipWith (mixN ws) as bs).map nV)) → Q (.ref D) H') :
    tLc (iZip K (tCons (tVar 4) (tCons (tVar 5) tNil))) (gTup K 2 (gCons (gName 10) (gCons (gName 11) gNil))) tYes
      (tIf (tTest (tOp (rIn K false) (tOp (rI0 fun i j => .int (i + j)) (tVar 10) (tVar 11)) (tVar 8))) (tC (.int 1)) (tC (.int 0))) [10, 11]
      [x0, x1, x2, x3, some (.ref p1), some (.ref p2), x6, x7, some (.ref l), x9, x10, x11] H Q := by
  refine ⟨.ref p1, rfl, .ref p2, rfl, p1, p2, _, _, rfl, .inl (.inl h1), .inl (.inl h2), fun D nD => ?_⟩
  refine lc_it (walk_zip (n := as.length) (by rw [List.length_map, List.length_map, ← hlen, Nat.min_self]))
    (fun i H' => Same H H' ∧ H' D = some (.lst ((List.zipWith (mixN ws) (as.take i) (bs.take i)).map nV)))
    ⟨same_new nD, by rw [upd_same]; rfl⟩ (fun i H' _ ⟨s, _⟩ => ⟨.inl (.inl (s _ _ h1)), .inl (.inl (s _ _ h2))⟩) ?_ ?_
  · rintro i x H1 H2 hi ⟨s, hD⟩ ⟨T, y, z, rfl, nT, rfl, hy, hz⟩
    obtain ⟨m, hm, rfl⟩ := nat_at hy
    obtain ⟨n, hn, rfl⟩ := nat_at hz
    have hDT : D ≠ T := ne_of_none hD nT
    have hlT : l ≠ T := ne_of_none (s _ _ hl) nT
    refine ⟨T, _, rfl, .inl (.inl upd_same), rfl, nV m, [nV n], rfl, nV n, [], rfl, rfl, rfl, ?_⟩
    refine ⟨nV m, rfl, nV n, rfl, _, _, rfl, rfl, .ref l, rfl, l, ws, rfl, .inl (.inl (.inl (by rw [upd_ne hlT]; exact s _ _ hl))), rfl, hw, inV (.int ((m : Int) + (n : Int))) ws, rfl, ?_⟩
    have e1 : as.take (i + 1) = as.take i ++ [m] := by
      rw [List.take_add_one, hm]
      rfl
    have e2 : bs.take (i + 1) = bs.take i ++ [n] := by
      rw [List.take_add_one, hn]
      rfl
    have lt : (as.take i).length = (bs.take i).length := by
      rw [List.length_take, List.length_take, hlen]
    have hD2 : (upd H1 T (.tup [nV m, nV n])) D = some (.lst ((List.zipWith (mixN ws) (as.take i) (bs.take i)).map nV)) := by
      rw [upd_ne hDT]
      exact hD
    have sz : ((List.zipWith (mixN ws) (as.take i) (bs.take i)).map nV).length < sizeLine := by
      rw [List.length_map, List.length_zipWith, List.length_take]
      exact small1000 (by omega)
    have sm : ∀ o, Same H (upd (upd H1 T (.tup [nV m, nV n])) D o) := fun o b u e => by
      rw [upd_ne (ne_of_none e nD), upd_ne (ne_of_none (s _ _ e) nT)]
      exact s _ _ e
    refine ite2 (fun hc => ?_) (fun hc => ?_)
    · refine ⟨_, hD2, sz, sm _, ?_⟩
      rw [upd_same, e1, e2, List.zipWith_append lt, List.map_append]
      have e : mixN ws m n = 1 := if_pos hc
      rw [List.zipWith_cons_cons, e]
      rfl
    · refine ⟨_, hD2, sz, sm _, ?_⟩
      rw [upd_same, e1, e2, List.zipWith_append lt, List.map_append]
      have e : mixN ws m n = 0 := if_neg hc
      rw [List.zipWith_cons_cons, e]
      rfl
  · rintro H1 ⟨s, hD⟩
    rw [List.take_of_length_le (Nat.le_refl _), hlen, List.take_of_length_le (Nat.le_refl _)] at hD
    exact k D H1 nD s hD
abbrev L1 : List V := [.str "add", .str "sub", .str "mul"]
abbrev LD : List V := [.str "div", .str "rem"]
abbrev L3 : List V := [.str "and", .str "or", .str "xor"]
abbrev LS : List V := [.str "shl", .str "shr"]
section
variable {P : Program} {w : World} {K : PySem.W.Frag} {mg : Str → Option Value} {base : Heap}
structure DueCtx (K : PySem.W.Frag) (mg : Str → Option Value) where
  fD : Addr
  fdD : FuncData
  dD : At K mg "_law_digits" s__law_digits ["number", "width"] fD fdD
  fB : Addr
  fdB : FuncData
  dB : At K mg "_law_back" s__law_back ["digits"] fB fdB
  fT : Addr
  fdT : FuncData
  dT : At K mg "_law_times" s__law_times ["one", "other", "width"] fT fdT
  fP : Addr
  fdP : FuncData
  dP : At K mg "_law_power" s__law_power ["many"] fP fdP
  mi : mg "int" = none
  mr : mg "range" = none
  ml : mg "list" = none
  mz : mg "zip" = none
theorem ok_due {f : Addr} {fd : FuncData} (D : At K mg "_law_due" s__law_due ["op", "width", "one", "other"] f fd) (C : DueCtx K mg) :
    FnOk P w K mg base CX0 3 f fd ["op", "width", "one", "other"] spDue := by
  have GD : FnOk P w K mg base CX0 2 C.fD C.fdD ["number", "width"] spDigits := (ok_digits C.dD C.mr C.mi).mono (by decide)
  have GB : FnOk P w K mg base CX0 2 C.fB C.fdB ["digits"] (spBack K) := (ok_back C.dB).mono (by decide)
  have GT : FnOk P w K mg base CX0 2 C.fT C.fdT ["one", "other", "width"] spTimes := ok_times C.dT C.dP C.mr C.ml
  have GP : FnOk P w K mg base CX0 2 C.fP C.fdP ["many"] spPower := (ok_power C.dP).mono (by decide)
  have nd := sc__law_due.nd
  refine D.F.ok sc__law_due (fun vs H Q E h => ?_) (fun cdv A outer s H vs Q E hr h => ?_)
  · obtain ⟨o, k, a, b, rfl, _⟩ := h
    rfl
  obtain ⟨o, k, a, b, rfl, k0, k1, ha, hb, q⟩ := h
  have hu := hr.units
  have hu1 : A.units + 3 + 1 < cLine := by
    have := hu_of hr
    exact this
  refine ⟨_, pss_cons (ps_par3 (i := 4) (j := 5) (l := 6) (by rfl) nd rfl rfl rfl (by decide) (by decide) (by decide) rfl rfl rfl
        (pa_cons (pe_call GD hr (by rfl) C.dD.g C.dD.F.kp C.dD.b .nil pass0 (pa_cons (pv 2) (pa_cons (pv 1) pa_nil)))
        (pa_cons (pe_call GD hr (by rfl) C.dD.g C.dD.F.kp C.dD.b .nil pass0 (pa_cons (pv 3) (pa_cons (pv 1) pa_nil)))
        (pa_cons (pe_call GP hr (by rfl) C.dP.g C.dP.F.kp C.dP.b .nil pass0 (pa_cons (pv 1) pa_nil)) pa_nil))) (by rfl))
    (pss_cons (ps_if (pt_cmpR op_in_seq (pv 0) (pe_lst (pa_cons pe_str (pa_cons pe_str (pa_cons pe_str pa_nil)))) (by rfl))
      (pss_one (ps_ret (pe_call GB hr (by rfl) C.dB.g C.dB.F.kp C.dB.b .nil pass0 (pa_cons (pe_call GD hr (by rfl) C.dD.g C.dD.F.kp C.dD.b .nil pass0
        (pa_cons (pe_ifExp (pt_cmpR op_eq (pv 0) pe_str (nomark _)) (pe_op op_add (pv 2) (pv 3))
          (pe_ifExp (pt_cmpR op_eq (pv 0) pe_str (nomark _)) (pe_op op_sub (pe_op op_add (pv 2) (pv 6)) (pv 3)) (pe_op op_mul (pv 2) (pv 3)))) (pa_cons (pv 1) pa_nil))) pa_nil)))) pss_nil)
    (pss_cons (ps_if (pt_cmpR op_in_seq (pv 0) (pe_lst (pa_cons pe_str (pa_cons pe_str pa_nil))) (by rfl))
      (pss_cons (ps_set (i := 7) nd rfl (.inl rfl) (pe_ifExp (pt_cmpR op_eq (pv 3) pe_int (nomark _)) pe_int
          (pe_call GT hr (by rfl) C.dT.g C.dT.F.kp C.dT.b .nil pass0 (pa_cons (pv 2) (pa_cons (pv 3) (pa_cons (pv 1) pa_nil))))))
        (pss_one (ps_ret (pe_ifExp (pt_cmpR op_eq (pv 0) pe_str (nomark _)) (pv 7) (pe_op op_sub (pv 2) (pe_op op_mul (pv 3) (pv 7))))))) pss_nil)
    (pss_cons (ps_if (pt_cmpR op_in_seq (pv 0) (pe_lst (pa_cons pe_str (pa_cons pe_str (pa_cons pe_str pa_nil)))) (by rfl))
      (pss_cons (ps_set (i := 8) nd rfl (.inr rfl) (pe_dget hu1 (pe_disp (pps_cons pe_str (pe_lst (pa_cons pe_int pa_nil)) (pps_cons pe_str (pe_lst (pa_cons pe_int (pa_cons pe_int pa_nil))) (pps_cons pe_str (pe_lst (pa_cons pe_int pa_nil)) pps_nil))) rfl rfl (by simp) (by decide)) (pv 0) (fun _ _ => rfl)))
        (pss_one (ps_ret (pe_call GB hr (by rfl) C.dB.g C.dB.F.kp C.dB.b .nil pass0 (pa_cons
          (pe_lc (own := [("a", 10), ("b", 11)]) (g := gTup K 2 (gCons (gName 10) (gCons (gName 11) gNil))) (tt := tYes)
            (te := tIf (tTest (tOp (rIn K false) (tOp (rI0 fun i j => .int (i + j)) (tVar 10) (tVar 11)) (tVar 8))) (tC (.int 1)) (tC (.int 0))) (by rfl) nd (pi_zip (by rfl) C.mz (pa_cons (pv 4) (pa_cons (pv 5) pa_nil)))
            (blkOk_by (own := [("a", 10), ("b", 11)]) (N := ["op", "width", "one", "other", "first", "second", "top", "times", "wanted", "by", "a", "b"]) (sc := defScope s__law_due) (by decide +kernel))
            (fun _ _ _ _ _ => pg_tup rfl (pgs_cons (pg_name (i := 10) nd rfl (.inl rfl)) (pgs_cons (pg_name (i := 11) nd rfl (.inl rfl)) pgs_nil)))
            (fun _ _ _ _ _ => pts_nil)
            (fun _ _ _ _ _ => pe_ifExp (pt_cmpR op_in_seq (pe_op op_add (pv 10) (pv 11)) (pv 8) (by rfl)) pe_int pe_int)) pa_nil))))) pss_nil)
    (pss_cons (ps_set (i := 9) nd rfl (.inl rfl) (pe_op op_mod (pe_callTy call_int1 (by rfl) C.mi boot_int (pa_cons (pv 3) pa_nil)) (pv 1)))
    (pss_cons (ps_if (pt_cmpR op_in_seq (pv 0) (pe_lst (pa_cons pe_str (pa_cons pe_str pa_nil))) (by rfl))
      (pss_one (ps_ret (pe_call GB hr (by rfl) C.dB.g C.dB.F.kp C.dB.b .nil pass0 (pa_cons
        (pe_ifExp (pt_cmpR op_eq (pv 0) pe_str (nomark _)) (pe_slice sl_list (pe_op op_cat (pe_op op_rep (pe_lst (pa_cons pe_int pa_nil)) (pv 9)) (pv 4)) po_none (po_some (pv 1)))
          (pe_slice sl_list (pe_op op_cat (pv 4) (pe_op op_rep (pe_lst (pa_cons pe_int pa_nil)) (pv 9))) (po_some (pv 9)) po_none)) pa_nil)))) pss_nil)
    (pss_one (ps_ret (pe_ifExp (pt_ifT (pt_cmpR op_eq (pv 0) pe_str (nomark _)) (pt_cmpR (op_eqD hu) (pv 4) (pv 5) (nomark _))
      (pt_cmpR (op_ltN hr.units0) (pe_revL (pv 4)) (pe_revL (pv 5)) (nomark _))) pe_int pe_int)))))))), ?_⟩
  refine ⟨nV a, rfl, nV k, rfl, a, k, rfl, by omega, fun p1 H1 np1 s1 e1 => ⟨nV b, rfl, nV k, rfl, b, k, rfl, by omega, fun p2 H2 np2 s2 e2 => ⟨nV k, rfl, k, rfl, by omega, .ref p1, .ref p2, .int ((2 : Int) ^ k), rfl, ?_⟩⟩⟩
  have sH2 : Same H H2 := s1.trans s2
  have f2 : H2 p1 = some (.lst ((bits a k).map nV)) := s2 _ _ e1
  have tk : ((2 : Int) ^ k) = ((2 ^ k : Nat) : Int) := by
    rw [Int.natCast_pow]
    rfl
  have pw : 0 < 2 ^ k := Nat.two_pow_pos k
  cases o
  · -- add
    refine in_step (b := true) rfl rfl rfl (by decide) (by decide +kernel) (fun _ _ _ => rfl) (fun p np => iteT ?_)
    have q' : ∀ H', Same H H' → Q (nV ((a + b) % 2 ^ k)) H' := fun H' s => by
      have := q H' s
      rw [show Op.add.g k a b = (((a + b) % 2 ^ k : Nat) : Int) by
        show ((a : Int) + b) % 2 ^ k = _
        rw [tk, ← Int.natCast_add, Int.natCast_emod]] at this
      exact this
    refine ⟨_, rfl, rfl, _, rfl, iteTe (by decide +kernel) ⟨nV a, rfl, nV b, rfl, _, _, rfl, rfl, nV k, rfl, a + b, k, ?_, by omega, fun p3 H3 np3 s3 e3 => ⟨p3, bits (a + b) k, rfl, .inl (.inl e3), bits01 k _, fun H4 s4 => ?_⟩⟩⟩
    · show [V.int ((a : Int) + (b : Int)), nV k] = [nV (a + b), nV k]
      rw [← Int.natCast_add]
    · rw [val_bits]
      exact q' _ (((sH2.trans (same_new np)).trans s3).trans s4)
  · -- sub
    refine in_step (b := true) rfl rfl rfl (by decide) (by decide +kernel) (fun _ _ _ => rfl) (fun p np => iteT ?_)
    have q' : ∀ H', Same H H' → Q (nV ((a + 2 ^ k - b) % 2 ^ k)) H' := fun H' s => by
      have := q H' s
      rw [show Op.sub.g k a b = (((a + 2 ^ k - b) % 2 ^ k : Nat) : Int) by
        show ((a : Int) - b) % 2 ^ k = _
        rw [tk, Int.natCast_emod, Int.ofNat_sub (by omega), Int.natCast_add, show (a : Int) + ((2 ^ k : Nat) : Int) - b = (a - b) + ((2 ^ k : Nat) : Int) by omega, Int.add_emod_right]] at this
      exact this
    refine ⟨_, rfl, rfl, _, rfl, iteFe (by decide +kernel) ⟨_, rfl, rfl, _, rfl, iteTe (by decide +kernel) ⟨nV a, rfl, .int ((2 : Int) ^ k), rfl, _, _, rfl, rfl, nV b, rfl, _, _, rfl, rfl, nV k, rfl, a + 2 ^ k - b, k, ?_, by omega, fun p3 H3 np3 s3 e3 => ⟨p3, bits (a + 2 ^ k - b) k, rfl, .inl (.inl e3), bits01 k _, fun H4 s4 => ?_⟩⟩⟩⟩
    · show [V.int ((a : Int) + (2 : Int) ^ k - (b : Int)), nV k] = [nV (a + 2 ^ k - b), nV k]
      rw [tk]
      have e : (a : Int) + ((2 ^ k : Nat) : Int) - (b : Int) = ((a + 2 ^ k - b : Nat) : Int) := by omega
      rw [e]
    · rw [val_bits]
      exact q' _ (((sH2.trans (same_new np)).trans s3).trans s4)
  · -- mul
    refine in_step (b := true) rfl rfl rfl (by decide) (by decide +kernel) (fun _ _ _ => rfl) (fun p np => iteT ?_)
    have q' : ∀ H', Same H H' → Q (nV ((a * b) % 2 ^ k)) H' := fun H' s => by
      have := q H' s
      rw [show Op.mul.g k a b = (((a * b) % 2 ^ k : Nat) : Int) by
        show ((a : Int) * b) % 2 ^ k = _
        rw [tk, ← Int.natCast_mul, Int.natCast_emod]] at this
      exact this
    have ha32 := p32n k1 ha
    refine ⟨_, rfl, rfl, _, rfl, iteFe (by decide +kernel) ⟨_, rfl, rfl, _, rfl, iteFe (by decide +kernel) ⟨nV a, rfl, nV b, rfl, _, _, rfl, rfl, .inl ⟨by omega, by omega⟩, nV k, rfl, a * b, k, ?_, by omega, fun p3 H3 np3 s3 e3 => ⟨p3, bits (a * b) k, rfl, .inl (.inl e3), bits01 k _, fun H4 s4 => ?_⟩⟩⟩⟩
    · show [V.int ((a : Int) * (b : Int)), nV k] = [nV (a * b), nV k]
      rw [← Int.natCast_mul]
    · rw [val_bits]
      exact q' _ (((sH2.trans (same_new np)).trans s3).trans s4)
  · -- div
    refine in_step (b := false) rfl rfl rfl (by decide) (by decide +kernel) (fun _ _ _ => rfl) (fun p np => iteF ?_)
    refine in_step (b := true) rfl rfl rfl (by decide) (by decide +kernel) (fun _ _ _ => rfl) (fun r nr => iteT ?_)
    have sR : Same H (upd (upd H2 p (.lst L1)) r (.lst LD)) := (sH2.trans (same_new np)).trans (same_new nr)
    refine ⟨nV b, rfl, rfl, _, rfl, ite2 (fun e => ?_) (fun e => ?_)⟩
    · have e' : (b : Int) = 0 := V.int.inj (of_decide_eq_true e)
      refine ⟨_, rfl, rfl, _, rfl, iteTe (by decide +kernel) ⟨_, rfl, ?_⟩⟩
      have := q _ sR
      rw [show Op.div.g k a b = 0 from if_pos e'] at this
      exact this
    · have e' : ¬ (b : Int) = 0 := fun z => e (decide_eq_true (congrArg V.int z))
      refine ⟨nV a, rfl, nV b, rfl, nV k, rfl, a, b, k, rfl, k1, ha, hb, by omega, fun H4 s4 => ⟨_, rfl, rfl, _, rfl, iteTe (by decide +kernel) ⟨_, rfl, ?_⟩⟩⟩
      have := q _ (sR.trans s4)
      rw [show Op.div.g k a b = ((a / b : Nat) : Int) by rw [Int.natCast_ediv]; exact if_neg e'] at this
      exact this
  · -- rem
    refine in_step (b := false) rfl rfl rfl (by decide) (by decide +kernel) (fun _ _ _ => rfl) (fun p np => iteF ?_)
    refine in_step (b := true) rfl rfl rfl (by decide) (by decide +kernel) (fun _ _ _ => rfl) (fun r nr => iteT ?_)
    have sR : Same H (upd (upd H2 p (.lst L1)) r (.lst LD)) := (sH2.trans (same_new np)).trans (same_new nr)
    have hb32 := p32n k1 hb
    refine ⟨nV b, rfl, rfl, _, rfl, ite2 (fun e => ?_) (fun e => ?_)⟩
    · have e' : (b : Int) = 0 := V.int.inj (of_decide_eq_true e)
      refine ⟨_, rfl, rfl, _, rfl, iteFe (by decide +kernel) ⟨nV a, rfl, nV b, rfl, .int 0, rfl, _, _, rfl, rfl, .inl ⟨by omega, by omega⟩, _, _, rfl, rfl, ?_⟩⟩
      have := q _ sR
      rw [show Op.rem.g k a b = (a : Int) from if_pos e'] at this
      show Q (.int ((a : Int) - (b : Int) * 0)) _
      rw [Int.mul_zero, Int.sub_zero]
      exact this
    · have e' : ¬ (b : Int) = 0 := fun z => e (decide_eq_true (congrArg V.int z))
      refine ⟨nV a, rfl, nV b, rfl, nV k, rfl, a, b, k, rfl, k1, ha, hb, by omega, fun H4 s4 => ⟨_, rfl, rfl, _, rfl, iteFe (by decide +kernel) ⟨nV a, rfl, nV b, rfl, _, rfl, _, _, rfl, rfl, .inl ⟨by omega, by omega⟩, _, _, rfl, rfl, ?_⟩⟩⟩
      have := q _ (sR.trans s4)
      rw [show Op.rem.g k a b = (a : Int) % b from if_neg e'] at this
      show Q (.int ((a : Int) - (b : Int) * ((a / b : Nat) : Int))) _
      rw [Int.natCast_ediv]
      have d := Int.emod_def (a : Int) (b : Int)
      rw [← d]
      exact this
  · -- and
    refine in_step (b := false) rfl rfl rfl (by decide) (by decide +kernel) (fun _ _ _ => rfl) (fun p np => iteF ?_)
    refine in_step (b := false) rfl rfl rfl (by decide) (by decide +kernel) (fun _ _ _ => rfl) (fun r nr => iteF ?_)
    refine in_step (b := true) rfl rfl rfl (by decide) (by decide +kernel) (fun _ _ _ => rfl) (fun t nt => iteT ?_)
    intro d hd
    refine ⟨by show 1 ≤ sizeLine; decide, fun l1 n1 => ⟨by show 2 ≤ sizeLine; decide, fun l2 n2 => ⟨by show 1 ≤ sizeLine; decide, fun l3 n3 => ?_⟩⟩⟩
    have d1 : d ≠ l1 := ne_of_none upd_same n1
    have d2 : d ≠ l2 := ne_of_none (by rw [upd_ne d1]; exact upd_same) n2
    have d3 : d ≠ l3 := ne_of_none (by rw [upd_ne d2, upd_ne d1]; exact upd_same) n3
    have l12 : l1 ≠ l2 := ne_of_none upd_same n2
    have l13 : l1 ≠ l3 := ne_of_none (by rw [upd_ne l12]; exact upd_same) n3
    have l23 : l2 ≠ l3 := ne_of_none upd_same n3
    refine ⟨by rw [upd_ne d3, upd_ne d2, upd_ne d1]; exact upd_same, [(Sum.inr "and", .ref l1), (Sum.inr "or", .ref l2), (Sum.inr "xor", .ref l3)], rfl, by show 3 ≤ 15; decide, .str "and", rfl, d, .ref l1, rfl, DGet.k (k := Sum.inr "and") upd_same, ?_⟩
    have hdH : H d = none := (((sH2.trans (same_new (o := .lst L1) np)).trans (same_new (o := .lst LD) nr)).trans (same_new (o := .lst L3) nt)).free hd
    have sX := ((sH2.trans (same_new (o := .lst L1) np)).trans (same_new (o := .lst LD) nr)).trans (same_new (o := .lst L3) nt)
    have sY := (((sX.trans (same_new (o := .dK []) hd)).trans (same_new (o := .lst [.int 2]) n1)).trans (same_new (o := .lst [.int 1, .int 2]) n2)).trans (same_new (o := .lst [.int 1]) n3)
    have sZ : ∀ o, Same H (upd _ d o) := fun o b u e => by
      rw [upd_ne (ne_of_none e hdH)]
      exact sY b u e
    have nd1 : d ≠ p1 := fun e => by
      have z := ((same_new (o := .lst L1) np).trans (same_new (o := .lst LD) nr)).trans (same_new (o := .lst L3) nt) _ _ f2
      rw [← e, hd] at z
      cases z
    have nd2 : d ≠ p2 := fun e => by
      have z := ((same_new (o := .lst L1) np).trans (same_new (o := .lst LD) nr)).trans (same_new (o := .lst L3) nt) _ _ e2
      rw [← e, hd] at z
      cases z
    have sW := ((((same_new (o := .lst L1) np).trans (same_new (o := .lst LD) nr)).trans (same_new (o := .lst L3) nt)).trans (same_new (o := .dK []) hd)).trans ((((same_new (o := .lst [.int 2]) n1)).trans (same_new (o := .lst [.int 1, .int 2]) n2)).trans (same_new (o := .lst [.int 1]) n3))
    show gName 8 _ _ _ _
    unfold gName
    dsimp only
    refine ret_call ?_
    refine comp_zip (as := bits a k) (bs := bits b k) (ws := [.int 2]) ?_ ?_ ?_ rfl (by rw [bits_len, bits_len]) (by rw [bits_len]; omega) (fun D H5 nD s5 e5 => ?_)
    · rw [upd_ne (fun e => nd1 e.symm)]
      exact sW _ _ f2
    · rw [upd_ne (fun e => nd2 e.symm)]
      exact sW _ _ e2
    · rw [upd_ne (fun e => d1 e.symm)]
      rw [upd_ne l13, upd_ne l12]
      exact upd_same
    have ez : List.zipWith (mixN [.int 2]) (bits a k) (bits b k) = bits (a &&& b) k := by
      rw [bits_and]
      congr 1
      funext x y
      unfold mixN
      have : inV (.int ((x : Int) + (y : Int))) [.int 2] = decide (x + y = 2) := by
        simp only [inV, List.any_cons, List.any_nil, eqV, Bool.or_false]
        rw [Bool.eq_iff_iff, decide_eq_true_iff]
        simp only [Bool.or_eq_true, beq_iff_eq]
        omega
      rw [this]
      by_cases hc : x + y = 2
      · rw [decide_eq_true hc, if_pos rfl, if_pos hc]
      · rw [decide_eq_false hc, if_neg Bool.false_ne_true, if_neg hc]
    rw [ez] at e5
    refine ⟨D, bits (a &&& b) k, rfl, .inl (.inl e5), bits01 k _, fun H6 s6 => ?_⟩
    rw [val_bits, Nat.mod_eq_of_lt (Nat.and_lt_two_pow a hb)]
    have := q _ (((sZ _).trans s5).trans s6)
    rw [show Op.and.g k a b = ((a &&& b : Nat) : Int) by
      show Builtin.bitAnd (a : Int) (b : Int) = _
      rw [bitAnd_pp (by omega) (by omega), Int.toNat_natCast, Int.toNat_natCast]] at this
    exact this
  · -- or
    refine in_step (b := false) rfl rfl rfl (by decide) (by decide +kernel) (fun _ _ _ => rfl) (fun p np => iteF ?_)
    refine in_step (b := false) rfl rfl rfl (by decide) (by decide +kernel) (fun _ _ _ => rfl) (fun r nr => iteF ?_)
    refine in_step (b := true) rfl rfl rfl (by decide) (by decide +kernel) (fun _ _ _ => rfl) (fun t nt => iteT ?_)
    intro d hd
    refine ⟨by show 1 ≤ sizeLine; decide, fun l1 n1 => ⟨by show 2 ≤ sizeLine; decide, fun l2 n2 => ⟨by show 1 ≤ sizeLine; decide, fun l3 n3 => ?_⟩⟩⟩
    have d1 : d ≠ l1 := ne_of_none upd_same n1
    have d2 : d ≠ l2 := ne_of_none (by rw [upd_ne d1]; exact upd_same) n2
    have d3 : d ≠ l3 := ne_of_none (by rw [upd_ne d2, upd_ne d1]; exact upd_same) n3
    have l12 : l1 ≠ l2 := ne_of_none upd_same n2
    have l13 : l1 ≠ l3 := ne_of_none (by rw [upd_ne l12]; exact upd_same) n3
    have l23 : l2 ≠ l3 := ne_of_none upd_same n3
    refine ⟨by rw [upd_ne d3, upd_ne d2, upd_ne d1]; exact upd_same, [(Sum.inr "and", .ref l1), (Sum.inr "or", .ref l2), (Sum.inr "xor", .ref l3)], rfl, by show 3 ≤ 15; decide, .str "or", rfl, d, .ref l2, rfl, DGet.k (k := Sum.inr "or") upd_same, ?_⟩
    have hdH : H d = none := (((sH2.trans (same_new (o := .lst L1) np)).trans (same_new (o := .lst LD) nr)).trans (same_new (o := .lst L3) nt)).free hd
    have sX := ((sH2.trans (same_new (o := .lst L1) np)).trans (same_new (o := .lst LD) nr)).trans (same_new (o := .lst L3) nt)
    have sY := (((sX.trans (same_new (o := .dK []) hd)).trans (same_new (o := .lst [.int 2]) n1)).trans (same_new (o := .lst [.int 1, .int 2]) n2)).trans (same_new (o := .lst [.int 1]) n3)
    have sZ : ∀ o, Same H (upd _ d o) := fun o b u e => by
      rw [upd_ne (ne_of_none e hdH)]
      exact sY b u e
    have nd1 : d ≠ p1 := fun e => by
      have z := ((same_new (o := .lst L1) np).trans (same_new (o := .lst LD) nr)).trans (same_new (o := .lst L3) nt) _ _ f2
      rw [← e, hd] at z
      cases z
    have nd2 : d ≠ p2 := fun e => by
      have z := ((same_new (o := .lst L1) np).trans (same_new (o := .lst LD) nr)).trans (same_new (o := .lst L3) nt) _ _ e2
      rw [← e, hd] at z
      cases z
    have sW := ((((same_new (o := .lst L1) np).trans (same_new (o := .lst LD) nr)).trans (same_new (o := .lst L3) nt)).trans (same_new (o := .dK []) hd)).trans ((((same_new (o := .lst [.int 2]) n1)).trans (same_new (o := .lst [.int 1, .int 2]) n2)).trans (same_new (o := .lst [.int 1]) n3))
    show gName 8 _ _ _ _
    unfold gName
    dsimp only
    refine ret_call ?_
    refine comp_zip (as := bits a k) (bs := bits b k) (ws := [.int 1, .int 2]) ?_ ?_ ?_ rfl (by rw [bits_len, bits_len]) (by rw [bits_len]; omega) (fun D H5 nD s5 e5 => ?_)
    · rw [upd_ne (fun e => nd1 e.symm)]
      exact sW _ _ f2
    · rw [upd_ne (fun e => nd2 e.symm)]
      exact sW _ _ e2
    · rw [upd_ne (fun e => d2 e.symm)]
      rw [upd_ne l23]
      exact upd_same
    have ez : List.zipWith (mixN [.int 1, .int 2]) (bits a k) (bits b k) = bits (a ||| b) k := by
      rw [bits_or]
      congr 1
      funext x y
      unfold mixN
      have : inV (.int ((x : Int) + (y : Int))) [.int 1, .int 2] = decide (x + y = 1 ∨ x + y = 2) := by
        simp only [inV, List.any_cons, List.any_nil, eqV, Bool.or_false]
        rw [Bool.eq_iff_iff, decide_eq_true_iff]
        simp only [Bool.or_eq_true, beq_iff_eq]
        omega
      rw [this]
      by_cases hc : x + y = 1 ∨ x + y = 2
      · rw [decide_eq_true hc, if_pos rfl, if_pos hc]
      · rw [decide_eq_false hc, if_neg Bool.false_ne_true, if_neg hc]
    rw [ez] at e5
    refine ⟨D, bits (a ||| b) k, rfl, .inl (.inl e5), bits01 k _, fun H6 s6 => ?_⟩
    rw [val_bits, Nat.mod_eq_of_lt (Nat.or_lt_two_pow ha hb)]
    have := q _ (((sZ _).trans s5).trans s6)
    rw [show Op.or.g k a b = ((a ||| b : Nat) : Int) by
      show Builtin.bitOr (a : Int) (b : Int) = _
      rw [Bits.bitOr_pp (by omega) (by omega), Int.toNat_natCast, Int.toNat_natCast]] at this
    exact this
  · -- xor
    refine in_step (b := false) rfl rfl rfl (by decide) (by decide +kernel) (fun _ _ _ => rfl) (fun p np => iteF ?_)
    refine in_step (b := false) rfl rfl rfl (by decide) (by decide +kernel) (fun _ _ _ => rfl) (fun r nr => iteF ?_)
    refine in_step (b := true) rfl rfl rfl (by decide) (by decide +kernel) (fun _ _ _ => rfl) (fun t nt => iteT ?_)
    intro d hd
    refine ⟨by show 1 ≤ sizeLine; decide, fun l1 n1 => ⟨by show 2 ≤ sizeLine; decide, fun l2 n2 => ⟨by show 1 ≤ sizeLine; decide, fun l3 n3 => ?_⟩⟩⟩
    have d1 : d ≠ l1 := ne_of_none upd_same n1
    have d2 : d ≠ l2 := ne_of_none (by rw [upd_ne d1]; exact upd_same) n2
    have d3 : d ≠ l3 := ne_of_none (by rw [upd_ne d2, upd_ne d1]; exact upd_same) n3
    have l12 : l1 ≠ l2 := ne_of_none upd_same n2
    have l13 : l1 ≠ l3 := ne_of_none (by rw [upd_ne l12]; exact upd_same) n3
    have l23 : l2 ≠ l3 := ne_of_none upd_same n3
    refine ⟨by rw [upd_ne d3, upd_ne d2, upd_ne d1]; exact upd_same, [(Sum.inr "and", .ref l1), (Sum.inr "or", .ref l2), (Sum.inr "xor", .ref l3)], rfl, by show 3 ≤ 15; decide, .str "xor", rfl, d, .ref l3, rfl, DGet.k (k := Sum.inr "xor") upd_same, ?_⟩
    have hdH : H d = none := (((sH2.trans (same_new (o := .lst L1) np)).trans (same_new (o := .lst LD) nr)).trans (same_new (o := .lst L3) nt)).free hd
    have sX := ((sH2.trans (same_new (o := .lst L1) np)).trans (same_new (o := .lst LD) nr)).trans (same_new (o := .lst L3) nt)
    have sY := (((sX.trans (same_new (o := .dK []) hd)).trans (same_new (o := .lst [.int 2]) n1)).trans (same_new (o := .lst [.int 1, .int 2]) n2)).trans (same_new (o := .lst [.int 1]) n3)
    have sZ : ∀ o, Same H (upd _ d o) := fun o b u e => by
      rw [upd_ne (ne_of_none e hdH)]
      exact sY b u e
    have nd1 : d ≠ p1 := fun e => by
      have z := ((same_new (o := .lst L1) np).trans (same_new (o := .lst LD) nr)).trans (same_new (o := .lst L3) nt) _ _ f2
      rw [← e, hd] at z
      cases z
    have nd2 : d ≠ p2 := fun e => by
      have z := ((same_new (o := .lst L1) np).trans (same_new (o := .lst LD) nr)).trans (same_new (o := .lst L3) nt) _ _ e2
      rw [← e, hd] at z
      cases z
    have sW := ((((same_new (o := .lst L1) np).trans (same_new (o := .lst LD) nr)).trans (same_new (o := .lst L3) nt)).trans (same_new (o := .dK []) hd)).trans ((((same_new (o := .lst [.int 2]) n1)).trans (same_new (o := .lst [.int 1, .int 2]) n2)).trans (same_new (o := .lst [.int 1]) n3))
    show gName 8 _ _ _ _
    unfold gName
    dsimp only
    refine ret_call ?_
    refine comp_zip (as := bits a k) (bs := bits b k) (ws := [.int 1]) ?_ ?_ ?_ rfl (by rw [bits_len, bits_len]) (by rw [bits_len]; omega) (fun D H5 nD s5 e5 => ?_)
    · rw [upd_ne (fun e => nd1 e.symm)]
      exact sW _ _ f2
    · rw [upd_ne (fun e => nd2 e.symm)]
      exact sW _ _ e2
    · rw [upd_ne (fun e => d3 e.symm)]
      exact upd_same
    have ez : List.zipWith (mixN [.int 1]) (bits a k) (bits b k) = bits (a ^^^ b) k := by
      rw [bits_xor]
      congr 1
      funext x y
      unfold mixN
      have : inV (.int ((x : Int) + (y : Int))) [.int 1] = decide (x + y = 1) := by
        simp only [inV, List.any_cons, List.any_nil, eqV, Bool.or_false]
        rw [Bool.eq_iff_iff, decide_eq_true_iff]
        simp only [Bool.or_eq_true, beq_iff_eq]
        omega
      rw [this]
      by_cases hc : x + y = 1
      · rw [decide_eq_true hc, if_pos rfl, if_pos hc]
      · rw [decide_eq_false hc, if_neg Bool.false_ne_true, if_neg hc]
    rw [ez] at e5
    refine ⟨D, bits (a ^^^ b) k, rfl, .inl (.inl e5), bits01 k _, fun H6 s6 => ?_⟩
    rw [val_bits, Nat.mod_eq_of_lt (Nat.xor_lt_two_pow ha hb)]
    have := q _ (((sZ _).trans s5).trans s6)
    rw [show Op.xor.g k a b = ((a ^^^ b : Nat) : Int) by
      show Builtin.bitXor (a : Int) (b : Int) = _
      rw [Bits.bitXor_pp (by omega) (by omega), Int.toNat_natCast, Int.toNat_natCast]] at this
    exact this
  · -- shl
    refine in_step (b := false) rfl rfl rfl (by decide) (by decide +kernel) (fun _ _ _ => rfl) (fun p np => iteF ?_)
    refine in_step (b := false) rfl rfl rfl (by decide) (by decide +kernel) (fun _ _ _ => rfl) (fun r nr => iteF ?_)
    refine in_step (b := false) rfl rfl rfl (by decide) (by decide +kernel) (fun _ _ _ => rfl) (fun t nt => iteF ?_)
    refine ⟨nV b, rfl, .inl ⟨_, rfl, nV k, rfl, _, _, rfl, rfl, by show (0 : Int) < k; omega, ?_⟩⟩
    refine in_step (b := true) rfl rfl rfl (by decide) (by decide +kernel) (fun _ _ _ => rfl) (fun u nu => iteT ?_)
    have sX := ((sH2.trans (same_new (o := .lst L1) np)).trans (same_new (o := .lst LD) nr)).trans (same_new (o := .lst L3) nt)
    have f3 := (((same_new (o := .lst L1) np).trans (same_new (o := .lst LD) nr)).trans (same_new (o := .lst L3) nt)) _ _ f2
    have e3 := (((same_new (o := .lst L1) np).trans (same_new (o := .lst LD) nr)).trans (same_new (o := .lst L3) nt)) _ _ e2
    have hj : (b : Int) % (k : Int) = ((b % k : Nat) : Int) := by rw [Int.natCast_emod]
    have hjk : b % k < k := Nat.mod_lt _ (by omega)
    have f4 := (same_new (o := .lst LS) nu) _ _ f3
    refine ⟨_, rfl, rfl, _, rfl, iteTe (by decide +kernel) ⟨by show 1 ≤ sizeLine; decide, fun l nl => ⟨_, rfl, l, _, _, rfl, rfl, upd_same, by omega, by omega, by rw [hj, Int.toNat_natCast]; show 1 * (b % k) ≤ sizeLine; exact Nat.le_trans (show 1 * (b % k) ≤ 1000 by omega) (by decide), fun r2 nr2 => ?_⟩⟩⟩
    rw [hj, Int.toNat_natCast, rep_flat]
    have f5 := ((same_new (o := .lst [V.int 0]) nl).trans (same_new (o := .lst (List.replicate (b % k) (V.int 0))) nr2)) _ _ f4
    refine ⟨.ref p1, rfl, r2, p1, _, _, rfl, rfl, upd_same, f5, by rw [List.length_replicate, List.length_map, bits_len]; exact Nat.le_trans (show b % k + k ≤ 1000 by omega) (by decide), fun c nc => ⟨nV k, rfl, k, rfl, c, _, rfl, .inl (.inl upd_same), fun d ndd => ?_⟩⟩
    have ec : cutV (List.replicate (b % k) (V.int 0) ++ (bits a k).map nV) none (some (k : Int)) = (bits (a * 2 ^ (b % k)) k).map nV := by
      rw [cut_take, show (List.replicate (b % k) (V.int 0)) = (List.replicate (b % k) 0).map nV from rep_nV _, ← List.map_append, ← List.map_take, bits_shl _ _ _ _ (by omega)]
    refine ⟨d, bits (a * 2 ^ (b % k)) k, rfl, .inl (.inl (by rw [upd_same, ec])), bits01 k _, fun H6 s6 => ?_⟩
    rw [val_bits]
    have := q H6 (((((sX.trans (same_new (o := .lst LS) nu)).trans (same_new nl)).trans (same_new nr2)).trans (same_new nc)).trans ((same_new ndd).trans s6))
    rw [show Op.shl.g k a b = ((a * 2 ^ (b % k) % 2 ^ k : Nat) : Int) by
      show ((a : Int) * 2 ^ ((b : Int) % (k : Int)).toNat) % 2 ^ k = _
      rw [hj, Int.toNat_natCast, tk, Int.natCast_emod, Int.natCast_mul, Int.natCast_pow]
      rfl] at this
    exact this
  · -- shr
    refine in_step (b := false) rfl rfl rfl (by decide) (by decide +kernel) (fun _ _ _ => rfl) (fun p np => iteF ?_)
    refine in_step (b := false) rfl rfl rfl (by decide) (by decide +kernel) (fun _ _ _ => rfl) (fun r nr => iteF ?_)
    refine in_step (b := false) rfl rfl rfl (by decide) (by decide +kernel) (fun _ _ _ => rfl) (fun t nt => iteF ?_)
    refine ⟨nV b, rfl, .inl ⟨_, rfl, nV k, rfl, _, _, rfl, rfl, by show (0 : Int) < k; omega, ?_⟩⟩
    refine in_step (b := true) rfl rfl rfl (by decide) (by decide +kernel) (fun _ _ _ => rfl) (fun u nu => iteT ?_)
    have sX := ((sH2.trans (same_new (o := .lst L1) np)).trans (same_new (o := .lst LD) nr)).trans (same_new (o := .lst L3) nt)
    have f3 := (((same_new (o := .lst L1) np).trans (same_new (o := .lst LD) nr)).trans (same_new (o := .lst L3) nt)) _ _ f2
    have e3 := (((same_new (o := .lst L1) np).trans (same_new (o := .lst LD) nr)).trans (same_new (o := .lst L3) nt)) _ _ e2
    have hj : (b : Int) % (k : Int) = ((b % k : Nat) : Int) := by rw [Int.natCast_emod]
    have hjk : b % k < k := Nat.mod_lt _ (by omega)
    have f4 := (same_new (o := .lst LS) nu) _ _ f3
    refine ⟨_, rfl, rfl, _, rfl, iteFe (by decide +kernel) ⟨.ref p1, rfl, by show 1 ≤ sizeLine; decide, fun l nl => ⟨_, rfl, l, _, _, rfl, rfl, upd_same, by omega, by omega, by rw [hj, Int.toNat_natCast]; show 1 * (b % k) ≤ sizeLine; exact Nat.le_trans (show 1 * (b % k) ≤ 1000 by omega) (by decide), fun r2 nr2 => ?_⟩⟩⟩
    rw [hj, Int.toNat_natCast, rep_flat]
    have f5 := ((same_new (o := .lst [V.int 0]) nl).trans (same_new (o := .lst (List.replicate (b % k) (V.int 0))) nr2)) _ _ f4
    refine ⟨p1, r2, _, _, rfl, rfl, f5, upd_same, by rw [List.length_replicate, List.length_map, bits_len]; exact Nat.le_trans (show k + b % k ≤ 1000 by omega) (by decide), fun c nc => ⟨_, rfl, _, rfl, c, _, rfl, .inl (.inl upd_same), fun d ndd => ?_⟩⟩
    have ec : cutV ((bits a k).map nV ++ List.replicate (b % k) (V.int 0)) (some ((b % k : Nat) : Int)) none = (bits (a / 2 ^ (b % k)) k).map nV := by
      rw [cut_drop, show (List.replicate (b % k) (V.int 0)) = (List.replicate (b % k) 0).map nV from rep_nV _, ← List.map_append, ← List.map_drop, bits_shr (by omega) ha]
    refine ⟨d, bits (a / 2 ^ (b % k)) k, rfl, .inl (.inl (by rw [upd_same]; first | rw [ec] | rw [hj, ec])), bits01 k _, fun H6 s6 => ?_⟩
    have hlt : a / 2 ^ (b % k) < 2 ^ k := Nat.lt_of_le_of_lt (Nat.div_le_self _ _) ha
    rw [val_bits, Nat.mod_eq_of_lt hlt]
    have := q H6 (((((sX.trans (same_new (o := .lst LS) nu)).trans (same_new nl)).trans (same_new nr2)).trans (same_new nc)).trans ((same_new ndd).trans s6))
    rw [show Op.shr.g k a b = ((a / 2 ^ (b % k) : Nat) : Int) by
      show (a : Int) / 2 ^ ((b : Int) % (k : Int)).toNat = _
      rw [hj, Int.toNat_natCast, Int.natCast_ediv, Int.natCast_pow]
      rfl] at this
    exact this
  · -- eq
    refine in_step (b := false) rfl rfl rfl (by decide) (by decide +kernel) (fun _ _ _ => rfl) (fun p np => iteF ?_)
    refine in_step (b := false) rfl rfl rfl (by decide) (by decide +kernel) (fun _ _ _ => rfl) (fun r nr => iteF ?_)
    refine in_step (b := false) rfl rfl rfl (by decide) (by decide +kernel) (fun _ _ _ => rfl) (fun t nt => iteF ?_)
    refine ⟨nV b, rfl, .inl ⟨_, rfl, nV k, rfl, _, _, rfl, rfl, by show (0 : Int) < k; omega, ?_⟩⟩
    refine in_step (b := false) rfl rfl rfl (by decide) (by decide +kernel) (fun _ _ _ => rfl) (fun u nu => iteF ?_)
    have sX := ((sH2.trans (same_new (o := .lst L1) np)).trans (same_new (o := .lst LD) nr)).trans (same_new (o := .lst L3) nt)
    have f3 := (((same_new (o := .lst L1) np).trans (same_new (o := .lst LD) nr)).trans (same_new (o := .lst L3) nt)) _ _ f2
    have e3 := (((same_new (o := .lst L1) np).trans (same_new (o := .lst LD) nr)).trans (same_new (o := .lst L3) nt)) _ _ e2
    have f4 := (same_new (o := .lst LS) nu) _ _ f3
    have e4 := (same_new (o := .lst LS) nu) _ _ e3
    refine ⟨_, rfl, rfl, _, rfl, iteTe (by decide +kernel) ⟨.ref p1, rfl, .ref p2, rfl, .list ((bits a k).map fun n : Nat => PyData.int (n : Int)), .list ((bits b k).map fun n : Nat => PyData.int (n : Int)), .lst (.inl (.inl f4)) (dp_nats _), .lst (.inl (.inl e4)) (dp_nats _), shaped_nats _, shaped_nats _, _, rfl, ?_⟩⟩
    have ev : PyData.eqv (.list ((bits a k).map fun n : Nat => PyData.int (n : Int))) (.list ((bits b k).map fun n : Nat => PyData.int (n : Int))) = decide (a = b) := by
      simp only [PyData.eqv, eqv_nats]
      by_cases h : a = b
      · rw [h]
        simp
      · rw [decide_eq_false h]
        exact decide_eq_false fun z => h (bits_inj ha hb z)
    rw [ev]
    have := q _ (sX.trans (same_new (o := .lst LS) nu))
    refine ite2 (fun hc => ?_) (fun hc => ?_)
    · rw [show Op.eq.g k a b = 1 from if_pos (by rw [of_decide_eq_true hc])] at this
      exact this
    · rw [show Op.eq.g k a b = 0 from if_neg (fun z => hc (decide_eq_true (by omega)))] at this
      exact this
  · -- lt
    refine in_step (b := false) rfl rfl rfl (by decide) (by decide +kernel) (fun _ _ _ => rfl) (fun p np => iteF ?_)
    refine in_step (b := false) rfl rfl rfl (by decide) (by decide +kernel) (fun _ _ _ => rfl) (fun r nr => iteF ?_)
    refine in_step (b := false) rfl rfl rfl (by decide) (by decide +kernel) (fun _ _ _ => rfl) (fun t nt => iteF ?_)
    refine ⟨nV b, rfl, .inl ⟨_, rfl, nV k, rfl, _, _, rfl, rfl, by show (0 : Int) < k; omega, ?_⟩⟩
    refine in_step (b := false) rfl rfl rfl (by decide) (by decide +kernel) (fun _ _ _ => rfl) (fun u nu => iteF ?_)
    have sX := ((sH2.trans (same_new (o := .lst L1) np)).trans (same_new (o := .lst LD) nr)).trans (same_new (o := .lst L3) nt)
    have f3 := (((same_new (o := .lst L1) np).trans (same_new (o := .lst LD) nr)).trans (same_new (o := .lst L3) nt)) _ _ f2
    have e3 := (((same_new (o := .lst L1) np).trans (same_new (o := .lst LD) nr)).trans (same_new (o := .lst L3) nt)) _ _ e2
    have f4 := (same_new (o := .lst LS) nu) _ _ f3
    have e4 := (same_new (o := .lst LS) nu) _ _ e3
    refine ⟨_, rfl, rfl, _, rfl, iteFe (by decide +kernel) ⟨.ref p1, rfl, p1, _, rfl, .inl (.inl f4), fun g1 m1 => ⟨.ref p2, rfl, p2, _, rfl, .inl (.inl (same_new m1 _ _ e4)), fun g2 m2 => ⟨g1, g2, (bits a k).reverse, (bits b k).reverse, rfl, rfl, ?_, ?_, by rw [List.length_reverse, List.length_reverse, bits_len, bits_len], _, rfl, ?_⟩⟩⟩⟩
    · rw [List.map_reverse]
      exact .inl (.inl (same_new m2 _ _ upd_same))
    · rw [List.map_reverse]
      exact .inl (.inl upd_same)
    rw [lex_bits ha hb]
    have := q _ (((sX.trans (same_new (o := .lst LS) nu)).trans (same_new (o := .lst ((bits a k).map nV).reverse) m1)).trans (same_new (o := .lst ((bits b k).map nV).reverse) m2))
    refine ite2 (fun hc => ?_) (fun hc => ?_)
    · rw [show Op.lt.g k a b = 1 from if_pos (by have := of_decide_eq_true hc; omega)] at this
      exact this
    · rw [show Op.lt.g k a b = 0 from if_neg (fun z => hc (decide_eq_true (by omega)))] at this
      exact this
end
end K03
end

section
set_option maxHeartbeats 2000000
namespace K03
open PySem PySem.Spec PyProof.Rows L2 Zc
def spOpWidth : Sp := fun vs H Q _ => ∃ (o : Op) (k : Nat), vs = [.str o.name, nV k] ∧ ∀ H', Same H H' → Q (nV (if o = .eq ∨ o = .lt then 1 else k)) H'
theorem log_small {i : Int} (h : i.natAbs < 2 ^ 70) : i.natAbs.log2 < 1920 := Nat.lt_of_lt_of_le (PySem.Flt.log2_lt_of (by decide) h) (by decide)
theorem g_small {o : Op} {k a b : Nat} (hk : k ≤ 32) (ha : a < 2 ^ k) (hb : b < 2 ^ k) : (o.g k a b).natAbs < 2 ^ 70 := by
  have h32 := p32n hk ha
  have hb32 := p32n hk hb
  have p32' : 2 ^ k ≤ 2 ^ 32 := Nat.pow_le_pow_right (by decide) hk
  have pk : ((2 : Int) ^ k) = ((2 ^ k : Nat) : Int) := by
    rw [Int.natCast_pow]
    rfl
  have pos : (0 : Int) < ((2 ^ k : Nat) : Int) := by
    have := Nat.two_pow_pos k
    omega
  have md : ∀ z : Int, (z % (2 : Int) ^ k).natAbs < 2 ^ 70 := fun z => by
    rw [pk]
    have h1 := Int.emod_nonneg z (show ((2 ^ k : Nat) : Int) ≠ 0 by omega)
    have h2 := Int.emod_lt_of_pos z pos
    omega
  have ab : (a / b : Nat) ≤ a := Nat.div_le_self _ _
  cases o with
  | add => exact md _
  | sub => exact md _
  | mul => exact md _
  | shl => exact md _
  | div =>
    show (if (b : Int) = 0 then (0 : Int) else a / b).natAbs < 2 ^ 70
    split
    · decide
    · rw [← Int.natCast_ediv, Int.natAbs_natCast]
      omega
  | rem =>
    show (if (b : Int) = 0 then (a : Int) else a % b).natAbs < 2 ^ 70
    split
    · omega
    · rw [← Int.natCast_emod, Int.natAbs_natCast]
      have := Nat.mod_le a b
      omega
  | and =>
    show (Builtin.bitAnd (a : Int) (b : Int)).natAbs < 2 ^ 70
    rw [bitAnd_pp (by omega) (by omega), Int.toNat_natCast, Int.toNat_natCast]
    have := Nat.and_lt_two_pow a hb
    omega
  | or =>
    show (Builtin.bitOr (a : Int) (b : Int)).natAbs < 2 ^ 70
    rw [Bits.bitOr_pp (by omega) (by omega), Int.toNat_natCast, Int.toNat_natCast]
    have := Nat.or_lt_two_pow ha hb
    omega
  | xor =>
    show (Builtin.bitXor (a : Int) (b : Int)).natAbs < 2 ^ 70
    rw [Bits.bitXor_pp (by omega) (by omega), Int.toNat_natCast, Int.toNat_natCast]
    have := Nat.xor_lt_two_pow ha hb
    omega
  | shr =>
    show ((a : Int) / 2 ^ ((b : Int) % (k : Int)).toNat).natAbs < 2 ^ 70
    have e : ((a : Int) / 2 ^ ((b : Int) % (k : Int)).toNat) = ((a / 2 ^ ((b : Int) % (k : Int)).toNat : Nat) : Int) := by
      rw [Int.natCast_ediv, Int.natCast_pow]
      rfl
    rw [e, Int.natAbs_natCast]
    have := Nat.div_le_self a (2 ^ ((b : Int) % (k : Int)).toNat)
    omega
  | eq =>
    show (if (a : Int) = b then (1 : Int) else 0).natAbs < 2 ^ 70
    split <;> decide
  | lt =>
    show (if (a : Int) < b then (1 : Int) else 0).natAbs < 2 ^ 70
    split <;> decide
section
variable {P : Program} {w : World} {K : PySem.W.Frag} {mg : Str → Option Value} {base : Heap}
theorem ok_op_width {f : Addr} {fd : FuncData} (D : At K mg "op_width" s_op_width ["op", "width"] f fd) : FnOk P w K mg base CX0 1 f fd ["op", "width"] spOpWidth := by
  refine D.F.ok sc_op_width (fun vs H Q E h => ?_) (fun cdv A outer s H vs Q E hr h => ?_)
  · obtain ⟨o, k, rfl, _⟩ := h
    rfl
  obtain ⟨o, k, rfl, q⟩ := h
  refine ⟨_, pss_one (ps_ret (pe_ifExp (pt_cmpR op_in_seq (pv 0) (pe_tup (pa_cons pe_str (pa_cons pe_str pa_nil))) (by rfl)) pe_int (pv 1))), ?_⟩
  refine ⟨.str o.name, rfl, by show 2 ≤ sizeLine; decide, fun p np => ⟨p, _, rfl, .inr (.inl (.inl upd_same)), rfl, rfl, _, rfl, ?_⟩⟩
  have hi : inV (.str o.name) [.str "eq", .str "lt"] = decide (o = .eq ∨ o = .lt) := by cases o <;> decide +kernel
  have := q _ (same_new (o := .tup [.str "eq", .str "lt"]) np)
  show if inV (.str o.name) [.str "eq", .str "lt"] = true then _ else _
  rw [hi]
  refine ite2 (fun h => ?_) (fun h => ?_)
  · rw [if_pos (of_decide_eq_true h)] at this
    exact this
  · rw [if_neg (fun z => h (decide_eq_true z))] at this
    exact ⟨_, rfl, this⟩
end
end K03
end

section
set_option maxHeartbeats 2000000
namespace K03
open PySem PySem.Spec PyProof.Rows L2 Zc
def spLaw (K : PySem.W.Frag) : Sp := fun vs H Q _ => ∃ (a : Addr) (ns : List Int), vs = [.ref a] ∧ SqL K H a (ns.map V.int) ∧ ns.length ≤ 63 ∧ ∀ H', Q (.bl true) H'
abbrev opsD : List PyData := [.str "add", .str "sub", .str "mul", .str "div", .str "rem", .str "and", .str "or", .str "xor", .str "shl", .str "shr", .str "eq", .str "lt"]
abbrev opsV : List V := [.str "add", .str "sub", .str "mul", .str "div", .str "rem", .str "and", .str "or", .str "xor", .str "shl", .str "shr", .str "eq", .str "lt"]
abbrev widD : List PyData := [.int 1, .int 2, .int 4, .int 8, .int 16, .int 32]
abbrev widV : List V := [.int 1, .int 2, .int 4, .int 8, .int 16, .int 32]
theorem dp_ops {K : PySem.W.Frag} {H : Hp} : DpAll K H opsV opsD :=
  .cons (.str _) (.cons (.str _) (.cons (.str _) (.cons (.str _) (.cons (.str _) (.cons (.str _) (.cons (.str _) (.cons (.str _) (.cons (.str _) (.cons (.str _) (.cons (.str _) (.cons (.str _) .nil)))))))))))
theorem dp_wid {K : PySem.W.Frag} {H : Hp} : DpAll K H widV widD :=
  .cons (.int _) (.cons (.int _) (.cons (.int _) (.cons (.int _) (.cons (.int _) (.cons (.int _) .nil)))))
/-- what stands in the program's text: a tuple that is read -/
def InK (K : PySem.W.Frag) (p : Addr) (xs : List V) : Prop := ∃ (o : Obj) (its : Array Value) (n : Nat), K.lookup p = some o ∧ o.cls = .type "tuple" ∧ o.data = .seq its n ∧ its.size ≤ sizeLine ∧ Vals xs its.toList
theorem InK.sq {K : PySem.W.Frag} {p : Addr} {xs : List V} {H : Hp} (h : InK K p xs) : SqT K H p xs := .inr h
structure LawCtx (P : Program) (w : World) (K : PySem.W.Frag) (mg : Str → Option Value) (base : Heap) where
  C : DueCtx K mg
  f1 : Addr
  fd1 : FuncData
  draw : At K mg "_law_draw" s__law_draw ["script", "salt"] f1 fd1
  f2 : Addr
  fd2 : FuncData
  any : At K mg "_law_any" s__law_any ["deal", "bound"] f2 fd2
  f3 : Addr
  fd3 : FuncData
  of : At K mg "_law_of" s__law_of ["deal", "some"] f3 fd3
  f4 : Addr
  fd4 : FuncData
  due : At K mg "_law_due" s__law_due ["op", "width", "one", "other"] f4 fd4
  f5 : Addr
  fd5 : FuncData
  isw : At K mg "is_word" s_is_word ["value", "width"] f5 fd5
  f6 : Addr
  fd6 : FuncData
  isn : At K mg "is_number" s_is_number ["value"] f6 fd6
  f7 : Addr
  fd7 : FuncData
  isi : At K mg "is_integer" s_is_integer ["value"] f7 fd7
  f8 : Addr
  fd8 : FuncData
  wop : At K mg "word_op" s_word_op ["op", "width", "one", "other"] f8 fd8
  f9 : Addr
  fd9 : FuncData
  wid : At K mg "op_width" s_op_width ["op", "width"] f9 fd9
  kw5 : KBinds K fd5 ["value", "width"] ["width", "value"] revK revK
  kw8 : KBinds K fd8 ["op", "width", "one", "other"] ["other", "one", "width", "op"] revK revK
  kw9 : KBinds K fd9 ["op", "width"] ["width", "op"] revK revK
  pA : Addr
  mA : mg "ACTIONS" = some (.ref pA)
  acts : Acts P w K mg base pA
  pO : Addr
  mO : mg "OPS" = some (.ref pO)
  kO : InK K pO opsV
  pW : Addr
  mW : mg "WIDTHS" = some (.ref pW)
  kW : InK K pW widV
  ms : mg "isinstance" = none
  mb : mg "bool" = none
  ma : mg "abs" = none
  mn : mg "len" = none
  mp : mg "repr" = none
section
variable {P : Program} {w : World} {K : PySem.W.Frag} {mg : Str → Option Value} {base : Heap}
theorem Deal.same {H H' : Hp} {d l : Addr} (h : Deal H d l) (s : Same H H') : Deal H' d l := by
  obtain ⟨xs, b, n, h1, h2, r⟩ := h
  exact ⟨xs, b, n, s _ _ h1, s _ _ h2, r⟩
theorem Deal.ne {H : Hp} {d l m : Addr} (h : Deal H d l) (n : H m = none) : m ≠ d ∧ m ≠ l := by
  obtain ⟨xs, b, _, h1, h2, _⟩ := h
  exact ⟨fun e => (by rw [e, h1] at n; cases n), fun e => (by rw [e, h2] at n; cases n)⟩
/-- one of a new list -/
theorem of_new {K : PySem.W.Frag} {H : Hp} {d l m : Addr} {xs : List V} {Q : VK} {E : XK} (hD : Deal H d l) (nm : H m = none) (h0 : 0 < xs.length) (h1 : xs.length ≤ 1000)
    (k : ∀ (x : V) (H' : Hp), x ∈ xs → Deal H' d l → But d l (upd H m (.lst xs)) H' → Q x H') : spOf K [.ref d, .ref m] (upd H m (.lst xs)) Q E := by
  have ne := Deal.ne hD nm
  exact ⟨d, l, m, xs, rfl, Deal.same hD (same_new nm), fun H' hB => .inl (.inl (hB m _ ne.1 ne.2 upd_same)), h0, h1,
    fun i x H' hx hD' hB => k x H' (List.mem_of_getElem? hx) hD' hB⟩
/-- an int from 0 on, below t -/
def InR (t : Nat) (x : V) : Prop := ∃ z : Int, x = .int z ∧ 0 ≤ z ∧ z < t
theorem InR.nat {t : Nat} {x : V} (h : InR t x) : ∃ v : Nat, x = nV v ∧ v < t := by
  obtain ⟨z, rfl, h0, h1⟩ := h
  refine ⟨z.toNat, ?_, by omega⟩
  show V.int z = V.int ((z.toNat : Nat) : Int)
  rw [Int.toNat_of_nonneg h0]
theorem InR.mod {t : Nat} (h : 0 < t) (z : Int) : InR t (.int (z % (t : Int))) := ⟨_, rfl, Int.emod_nonneg _ (by omega), Int.emod_lt_of_pos _ (by omega)⟩
theorem ok_law {f : Addr} {fd : FuncData} (F : Fun K "law" "law" s_law f fd) (L : LawCtx P w K mg base) : FnG P w K mg base 4 f fd ["script"] (spLaw K) := by
  have GDr : FnOk P w K mg base CX0 3 L.f1 L.fd1 ["script", "salt"] (spDraw K) := (ok_draw L.draw L.C.mi L.ma).mono (by decide)
  have GAn : FnOk P w K mg base CX0 3 L.f2 L.fd2 ["deal", "bound"] spAny := (ok_any L.any L.C.mi).mono (by decide)
  have GOf : FnOk P w K mg base CX0 3 L.f3 L.fd3 ["deal", "some"] (spOf K) := (ok_of L.of L.any L.C.mi L.mn).mono (by decide)
  have GPw : FnOk P w K mg base CX0 3 L.C.fP L.C.fdP ["many"] spPower := (ok_power L.C.dP).mono (by decide)
  have GDu : FnOk P w K mg base CX0 3 L.f4 L.fd4 ["op", "width", "one", "other"] spDue := ok_due L.due L.C
  have GIw : FnOk P w K mg base CX0 3 L.f5 L.fd5 ["value", "width"] spWord := ok_is_word L.isw L.isn L.isi L.ms L.C.mi L.mb
  have GWo : FnOk P w K mg base CX0 3 L.f8 L.fd8 ["op", "width", "one", "other"] spWordOp := ok_word_op L.wop L.mA L.acts
  have GWi : FnOk P w K mg base CX0 3 L.f9 L.fd9 ["op", "width"] spOpWidth := (ok_op_width L.wid).mono (by decide)
  have nd := sc_law.nd
  refine fnG_ok F sc_law (fun vs H Q E h => ?_) (fun cdv A outer s H vs Q E hr hg h => ?_)
  · obtain ⟨a, ns, rfl, _⟩ := h
    rfl
  obtain ⟨a, ns, rfl, hS, hlen, q⟩ := h
  have hu := hr.units
  refine ⟨_, pss_cons (ps_set (i := 1) nd rfl (.inl rfl) (pe_call GDr hr (by rfl) L.draw.g L.draw.F.kp L.draw.b .nil pass0 (pa_cons (pv 0) (pa_cons pe_int pa_nil))))
    (pss_cons (ps_set (i := 2) nd rfl (.inl rfl) (pe_tup (pa_cons pe_str (pa_cons pe_str (pa_cons pe_str (pa_cons pe_str (pa_cons pe_str (pa_cons pe_str (pa_cons pe_str (pa_cons pe_str (pa_cons pe_str (pa_cons pe_str (pa_cons pe_str (pa_cons pe_str pa_nil))))))))))))))
    (pss_cons (ps_if (pt_cmpR op_ne
        (pe_callB (call_repr_D hg hu) (by rfl) L.mp PyProof.Rows.boot_repr (pa_cons (pe_tup (pa_cons (pe_glob (v := .ref L.pO) (by rfl) L.mO rfl) (pa_cons (pe_glob (v := .ref L.pW) (by rfl) L.mW rfl) pa_nil))) pa_nil))
        (pe_callB (call_repr_D hg hu) (by rfl) L.mp PyProof.Rows.boot_repr (pa_cons (pe_tup (pa_cons (pv 2) (pa_cons (pe_tup (pa_cons pe_int (pa_cons pe_int (pa_cons pe_int (pa_cons pe_int (pa_cons pe_int (pa_cons pe_int pa_nil))))))) pa_nil))) pa_nil)) (nomark _))
      (pss_one (ps_ret pe_bl)) pss_nil)
    (pss_cons (ps_for PassesOwn.never rfl (pi_range1 (by rfl) L.C.mr (pa_cons pe_int pa_nil)) (pg_name (i := 3) nd rfl (.inl rfl))
      (pss_cons (ps_set (i := 4) nd rfl (.inl rfl) (pe_call GOf hr (by rfl) L.of.g L.of.F.kp L.of.b .nil pass0 (pa_cons (pv 1) (pa_cons (pe_lst (pa_cons pe_int (pa_cons pe_int (pa_cons pe_int (pa_cons pe_int (pa_cons pe_int (pa_cons pe_int pa_nil))))))) pa_nil))))
      (pss_cons (ps_set (i := 5) nd rfl (.inl rfl) (pe_call GPw hr (by rfl) L.C.dP.g L.C.dP.F.kp L.C.dP.b .nil pass0 (pa_cons (pv 4) pa_nil)))
      (pss_cons (ps_set (i := 6) nd rfl (.inl rfl) (pe_call GOf hr (by rfl) L.of.g L.of.F.kp L.of.b .nil pass0 (pa_cons (pv 1) (pa_cons (pe_lst
        (pa_cons (pe_call GAn hr (by rfl) L.any.g L.any.F.kp L.any.b .nil pass0 (pa_cons (pv 1) (pa_cons (pv 5) pa_nil))) (pa_cons pe_int (pa_cons (pe_op op_sub (pv 5) pe_int) (pa_cons (pe_op op_fdivW (pv 5) pe_int)
          (pa_cons (pe_op op_mod (pe_callTy call_int1 (by rfl) L.C.mi boot_int (pa_cons (pe_call GAn hr (by rfl) L.any.g L.any.F.kp L.any.b .nil pass0 (pa_cons (pv 1) (pa_cons pe_int pa_nil))) pa_nil)) (pv 5)) pa_nil)))))) pa_nil))))
      (pss_cons (ps_set (i := 7) nd rfl (.inl rfl) (pe_call GOf hr (by rfl) L.of.g L.of.F.kp L.of.b .nil pass0 (pa_cons (pv 1) (pa_cons (pe_lst
        (pa_cons (pe_call GAn hr (by rfl) L.any.g L.any.F.kp L.any.b .nil pass0 (pa_cons (pv 1) (pa_cons (pv 5) pa_nil))) (pa_cons (pv 6) (pa_cons pe_int (pa_cons (pe_op op_sub (pv 5) pe_int)
          (pa_cons (pe_op op_mod (pe_callTy call_int1 (by rfl) L.C.mi boot_int (pa_cons (pe_op op_add (pv 6) pe_int) pa_nil)) (pv 5))
          (pa_cons (pe_op op_mod (pe_callTy call_int1 (by rfl) L.C.mi boot_int (pa_cons (pv 4) pa_nil)) (pv 5))
          (pa_cons (pe_op op_mod (pe_callTy call_int1 (by rfl) L.C.mi boot_int (pa_cons (pe_call GAn hr (by rfl) L.any.g L.any.F.kp L.any.b .nil pass0 (pa_cons (pv 1) (pa_cons pe_int pa_nil))) pa_nil)) (pv 5)) pa_nil)))))))) pa_nil))))
      (pss_cons (ps_if (pt_cmpR op_notBl (pe_callKw GIw hr (by rfl) L.isw.g L.isw.F.kp L.kw5 pass0 (pk_cons (pv 4) (pk_cons (pv 6) pk_nil))) pe_bl (nomark _)) (pss_one (ps_ret pe_bl)) pss_nil)
      (pss_cons (ps_for PassesOwn.never rfl (pi_tup (pv 2)) (pg_name (i := 8) nd rfl (.inl rfl))
        (pss_cons (ps_if (pt_cmpR op_ne
            (pe_callB SkE.call_repr_int (by rfl) L.mp PyProof.Rows.boot_repr (pa_cons (pe_callKw GWo hr (by rfl) L.wop.g L.wop.F.kp L.kw8 pass0 (pk_cons (pv 7) (pk_cons (pv 6) (pk_cons (pv 4) (pk_cons (pv 8) pk_nil))))) pa_nil))
            (pe_callB SkE.call_repr_int (by rfl) L.mp PyProof.Rows.boot_repr (pa_cons (pe_call GDu hr (by rfl) L.due.g L.due.F.kp L.due.b .nil pass0 (pa_cons (pv 8) (pa_cons (pv 4) (pa_cons (pv 6) (pa_cons (pv 7) pa_nil))))) pa_nil)) (nomark _))
          (pss_one (ps_ret pe_bl)) pss_nil)
        (pss_one (ps_if (pt_cmpR op_ne
            (pe_callB SkE.call_repr_int (by rfl) L.mp PyProof.Rows.boot_repr (pa_cons (pe_callKw GWi hr (by rfl) L.wid.g L.wid.F.kp L.kw9 pass0 (pk_cons (pv 4) (pk_cons (pv 8) pk_nil))) pa_nil))
            (pe_callB SkE.call_repr_int (by rfl) L.mp PyProof.Rows.boot_repr (pa_cons (pe_ifExp (pt_cmpR op_in_seq (pv 8) (pe_lst (pa_cons pe_str (pa_cons pe_str pa_nil))) (by rfl)) pe_int (pv 4)) pa_nil)) (nomark _))
          (pss_one (ps_ret pe_bl)) pss_nil))))
      (pss_one (ps_if (pt_cmpR op_notBl (pe_call GIw hr (by rfl) L.isw.g L.isw.F.kp L.isw.b .nil pass0
          (pa_cons (pe_call GOf hr (by rfl) L.of.g L.of.F.kp L.of.b .nil pass0 (pa_cons (pv 1) (pa_cons (pe_lst (pa_cons (pv 5) (pa_cons (pe_un un_neg pe_int) (pa_cons pe_bl (pa_cons pe_bl (pa_cons pe_non (pa_cons pe_str
            (pa_cons (pe_tup (pa_cons pe_int pa_nil)) (pa_cons (pe_op op_add (pe_op op_pow pe_int pe_int) (pv 5)) pa_nil))))))))) pa_nil))) (pa_cons (pv 4) pa_nil))) pe_bl (nomark _)) (pss_one (ps_ret pe_bl)) pss_nil)))))))))
    (pss_one (ps_ret pe_bl))))), ?_⟩
  refine ⟨.ref a, rfl, a, ns, 3, rfl, hS, hlen, by decide, by decide, fun d l H1 nd0 nl0 hD s1 => ?_⟩
  refine ⟨by show 12 ≤ sizeLine; decide, fun pn npn => ?_⟩
  have hD1 := Deal.same hD (same_new (o := .tup opsV) npn)
  have nepn := Deal.ne hD npn
  refine ⟨by show 2 ≤ sizeLine; decide, fun t1 n1 => ⟨.ref t1, .tuple [.tuple opsD, .tuple widD], rfl, rfl, .tup (.inl (.inl upd_same)) (.cons (.tup L.kO.sq dp_ops) (.cons (.tup L.kW.sq dp_wid) .nil)), by decide +kernel, by decide +kernel, by decide +kernel, by decide +kernel, ?_⟩⟩
  have hpn1 : (upd (upd H1 pn (.tup opsV)) t1 (.tup [.ref L.pO, .ref L.pW])) pn = some (.tup opsV) := same_new n1 _ _ upd_same
  refine ⟨.ref pn, rfl, by show 6 ≤ sizeLine; decide, fun t2 n2 => ⟨by show 2 ≤ sizeLine; decide, fun t3 n3 => ?_⟩⟩
  have hpn2 := same_new (o := .tup widV) n2 _ _ hpn1
  have hpn3 := same_new (o := .tup [.ref pn, .ref t2]) n3 _ _ hpn2
  have ht2 := same_new (o := .tup [.ref pn, .ref t2]) n3 _ _ (show (upd (upd (upd H1 pn (.tup opsV)) t1 (.tup [.ref L.pO, .ref L.pW])) t2 (.tup widV)) t2 = some (.tup widV) from upd_same)
  refine ⟨.ref t3, .tuple [.tuple opsD, .tuple widD], rfl, rfl, .tup (.inl (.inl upd_same)) (.cons (.tup (.inl (.inl hpn3)) dp_ops) (.cons (.tup (.inl (.inl ht2)) dp_wid) .nil)), by decide +kernel, by decide +kernel, by decide +kernel, by decide +kernel, ?_⟩
  refine ⟨rfl, _, rfl, iteFe (by rw [decide_eq_true rfl]; rfl) ?_⟩
  have hD3 := ((Deal.same (Deal.same (Deal.same hD1 (same_new (o := .tup [.ref L.pO, .ref L.pW]) n1)) (same_new (o := .tup widV) n2)) (same_new (o := .tup [.ref pn, .ref t2]) n3)))
  refine ⟨5, rfl, by decide, by decide, for_range (lo := 0) (n := 5) (fun i σ H' => ∃ y3 y4 y5 y6 y7 y8, σ = [some (.ref a), some (.ref d), some (.ref pn), y3, y4, y5, y6, y7, y8] ∧ Deal H' d l ∧ H' pn = some (.tup opsV))
    ⟨none, none, none, none, none, none, rfl, hD3, hpn3⟩ ?_ ?_⟩
  · rintro i σ H4 hi ⟨y3, y4, y5, y6, y7, y8, rfl, hD4, hn4⟩
    -- width
    refine ⟨.ref d, rfl, by show 6 ≤ sizeLine; decide, fun m nm => of_new (E := E0) hD4 nm (by decide) (by decide) fun x H5 hx hD5 hB5 => ?_⟩
    obtain ⟨k, rfl, k0, k1⟩ : ∃ k : Nat, x = nV k ∧ 1 ≤ k ∧ k ≤ 32 := by
      simp only [List.mem_cons, List.not_mem_nil, or_false] at hx
      rcases hx with rfl | rfl | rfl | rfl | rfl | rfl
      · exact ⟨1, rfl, by decide, by decide⟩
      · exact ⟨2, rfl, by decide, by decide⟩
      · exact ⟨4, rfl, by decide, by decide⟩
      · exact ⟨8, rfl, by decide, by decide⟩
      · exact ⟨16, rfl, by decide, by decide⟩
      · exact ⟨32, rfl, by decide, by decide⟩
    have hn5 : H5 pn = some (.tup opsV) := hB5 _ _ nepn.1 nepn.2 (same_new nm _ _ hn4)
    -- top
    refine ⟨nV k, rfl, k, rfl, by omega, ?_⟩
    have tk : ((2 : Int) ^ k) = ((2 ^ k : Nat) : Int) := by
      rw [Int.natCast_pow]
      rfl
    rw [tk]
    have tp : 0 < 2 ^ k := Nat.two_pow_pos k
    have t64 : 2 ^ k < 2 ^ 64 := Nat.pow_lt_pow_right (by decide) (by omega)
    have tpi : (0 : Int) < ((2 ^ k : Nat) : Int) := by omega
    -- one
    refine ⟨.ref d, rfl, .ref d, rfl, nV (2 ^ k), rfl, d, l, ((2 ^ k : Nat) : Int), rfl, hD5, tpi, by omega, fun r1 H6 r10 r11 hD6 hB6 => ?_⟩
    refine ⟨nV (2 ^ k), rfl, _, 1, rfl, rfl, nV (2 ^ k), rfl, _, 2, rfl, rfl, wide_div (b := 8) (by decide) (by decide) (by decide) (by decide), ?_⟩
    refine ⟨.ref d, rfl, d, l, 9, rfl, hD6, by decide, by decide, fun r2 H7 r20 r21 hD7 hB7 => .inl ⟨r2, rfl, nV (2 ^ k), rfl, _, _, rfl, rfl, tpi, by show 5 ≤ sizeLine; decide, fun m1 nm1 => of_new (E := E0) hD7 nm1 (by show 0 < 5; decide) (by show 5 ≤ 1000; decide) fun x1 H8 hx1 hD8 hB8 => ?_⟩⟩
    have hn6 : H6 pn = some (.tup opsV) := hB6 _ _ nepn.1 nepn.2 hn5
    have hn7 : H7 pn = some (.tup opsV) := hB7 _ _ nepn.1 nepn.2 hn6
    have hn8 : H8 pn = some (.tup opsV) := hB8 _ _ nepn.1 nepn.2 (same_new nm1 _ _ hn7)
    obtain ⟨v1, rfl, h1⟩ : ∃ v1 : Nat, x1 = nV v1 ∧ v1 < 2 ^ k := by
      refine InR.nat ?_
      simp only [List.mem_cons, List.not_mem_nil, or_false] at hx1
      rcases hx1 with rfl | rfl | rfl | rfl | rfl
      · exact ⟨r1, rfl, r10, r11⟩
      · exact ⟨0, rfl, by decide, tpi⟩
      · exact ⟨_, rfl, by omega, by omega⟩
      · exact ⟨_, rfl, by omega, by omega⟩
      · exact InR.mod tp _
    clear hx1
    -- other
    refine ⟨.ref d, rfl, .ref d, rfl, nV (2 ^ k), rfl, d, l, ((2 ^ k : Nat) : Int), rfl, hD8, tpi, by omega, fun r3 H9 r30 r31 hD9 hB9 => ?_⟩
    refine ⟨nV v1, rfl, nV (2 ^ k), rfl, _, 1, rfl, rfl, nV v1, rfl, _, 1, rfl, rfl, .inl ⟨_, rfl, nV (2 ^ k), rfl, _, _, rfl, rfl, tpi, nV k, rfl, .inl ⟨_, rfl, nV (2 ^ k), rfl, _, _, rfl, rfl, tpi, ?_⟩⟩⟩
    refine ⟨.ref d, rfl, d, l, 9, rfl, hD9, by decide, by decide, fun r4 H10 r40 r41 hD10 hB10 => .inl ⟨r4, rfl, nV (2 ^ k), rfl, _, _, rfl, rfl, tpi, by show 7 ≤ sizeLine; decide, fun m2 nm2 => of_new (E := E0) hD10 nm2 (by show 0 < 7; decide) (by show 7 ≤ 1000; decide) fun x2 H11 hx2 hD11 hB11 => ?_⟩⟩
    have hn9 : H9 pn = some (.tup opsV) := hB9 _ _ nepn.1 nepn.2 hn8
    have hn10 : H10 pn = some (.tup opsV) := hB10 _ _ nepn.1 nepn.2 hn9
    have hn11 : H11 pn = some (.tup opsV) := hB11 _ _ nepn.1 nepn.2 (same_new nm2 _ _ hn10)
    obtain ⟨v2, rfl, h2⟩ : ∃ v2 : Nat, x2 = nV v2 ∧ v2 < 2 ^ k := by
      refine InR.nat ?_
      simp only [List.mem_cons, List.not_mem_nil, or_false] at hx2
      rcases hx2 with rfl | rfl | rfl | rfl | rfl | rfl | rfl
      · exact ⟨r3, rfl, r30, r31⟩
      · exact ⟨_, rfl, by omega, by omega⟩
      · exact ⟨0, rfl, by decide, tpi⟩
      · exact ⟨_, rfl, by omega, by omega⟩
      · exact InR.mod tp _
      · exact InR.mod tp _
      · exact InR.mod tp _
    clear hx2
    -- the first is a word
    refine ⟨nV k, rfl, nV v1, rfl, nV v1, true, k, rfl, .int _, by omega, isWord (nV v1) k, true, rfl, rfl, _, rfl, iteFe ?_ ?_⟩
    · have e1 : isWord (nV v1) k = true := by
        show (decide (0 ≤ (v1 : Int)) && decide ((v1 : Int) < 2 ^ k)) = true
        rw [tk, decide_eq_true (by omega), decide_eq_true (by omega)]
        rfl
      rw [e1]
      rfl
    -- the ops
    refine ⟨.ref pn, rfl, pn, rfl, ⟨_, .inl (.inl hn11)⟩, for_tup (K := K) (a := pn) (xs := opsV)
      (fun j σ H' => ∃ z8, σ = [some (.ref a), some (.ref d), some (.ref pn), some (.int (0 + i)), some (nV k), some (nV (2 ^ k)), some (nV v1), some (nV v2), z8] ∧ Same H11 H')
      ⟨_, rfl, Same.refl _⟩ (fun j σ H' _ ⟨_, _, s⟩ => .inl (.inl (s _ _ hn11))) ?_ ?_⟩
    · rintro j x σ H12 hx ⟨z8, rfl, s12⟩
      obtain ⟨o, rfl⟩ : ∃ o : Op, x = .str o.name := by
        have hm := List.mem_of_getElem? hx
        simp only [List.mem_cons, List.not_mem_nil, or_false] at hm
        rcases hm with rfl | rfl | rfl | rfl | rfl | rfl | rfl | rfl | rfl | rfl | rfl | rfl
        · exact ⟨.add, rfl⟩
        · exact ⟨.sub, rfl⟩
        · exact ⟨.mul, rfl⟩
        · exact ⟨.div, rfl⟩
        · exact ⟨.rem, rfl⟩
        · exact ⟨.and, rfl⟩
        · exact ⟨.or, rfl⟩
        · exact ⟨.xor, rfl⟩
        · exact ⟨.shl, rfl⟩
        · exact ⟨.shr, rfl⟩
        · exact ⟨.eq, rfl⟩
        · exact ⟨.lt, rfl⟩
      refine ⟨nV v2, rfl, nV v1, rfl, nV k, rfl, .str o.name, rfl, o, k, v1, v2, rfl, k0, k1, by omega, by rw [tk]; omega, by omega, by rw [tk]; omega, o.g k v1 v2, rfl, log_small (g_small k1 h1 h2), ?_⟩
      refine ⟨.str o.name, rfl, nV k, rfl, nV v1, rfl, nV v2, rfl, o, k, v1, v2, rfl, k0, k1, h1, h2, fun H13 s13 => ⟨o.g k v1 v2, rfl, log_small (g_small k1 h1 h2), rfl, _, rfl, iteFe (by rw [decide_eq_true rfl]; rfl) ?_⟩⟩
      refine ⟨nV k, rfl, .str o.name, rfl, o, k, rfl, fun H14 s14 => ⟨_, rfl, log_small ?_, .str o.name, rfl, by show 2 ≤ sizeLine; decide, fun p np => ⟨p, [.str "eq", .str "lt"], rfl, .inl (.inl (.inl upd_same)), rfl, rfl, _, rfl, ?_⟩⟩⟩
      · split <;> omega
      have hi : inV (.str o.name) [.str "eq", .str "lt"] = decide (o = .eq ∨ o = .lt) := by cases o <;> decide +kernel
      have s15 := (((s12.trans s13).trans s14).trans (same_new (o := .lst [.str "eq", .str "lt"]) np))
      show if inV (.str o.name) [.str "eq", .str "lt"] = true then _ else _
      rw [hi]
      refine ite2 (fun hc => ?_) (fun hc => ?_)
      · have hc' := of_decide_eq_true hc
        refine ⟨1, rfl, by decide, rfl, _, rfl, iteFe ?_ ⟨_, rfl, s15⟩⟩
        rw [if_pos hc']
        show (!decide (V.str (Str.ofString (toString (1 : Int))) = V.str (Str.ofString (toString (1 : Int))))) = false
        rw [decide_eq_true rfl]
        rfl
      · have hc' : ¬ (o = .eq ∨ o = .lt) := fun z => hc (decide_eq_true z)
        refine ⟨_, rfl, k, rfl, log_small (by omega), rfl, _, rfl, iteFe ?_ ⟨_, rfl, s15⟩⟩
        rw [if_neg hc', decide_eq_true rfl]
        rfl
    rintro σ H12 ⟨z8, rfl, s12⟩
    have hD12 := Deal.same hD11 s12
    have hn12 := s12 _ _ hn11
    -- what is no word
    refine ⟨.ref d, rfl, nV (2 ^ k), rfl, 1, rfl, by show 1 ≤ sizeLine; decide, fun tz ntz => ?_⟩
    have hD13 := Deal.same hD12 (same_new (o := .tup [.int 0]) ntz)
    have hn13 := same_new (o := .tup [.int 0]) ntz _ _ hn12
    refine ⟨10, 12, rfl, rfl, ⟨by decide, by decide, by decide⟩, nV (2 ^ k), rfl, _, _, rfl, rfl, by show 8 ≤ sizeLine; decide, fun m3 nm3 => of_new (E := E0) hD13 nm3 (by show 0 < 8; decide) (by show 8 ≤ 1000; decide) fun x3 H14 hx3 hD14 hB14 => ?_⟩
    have hn14 : H14 pn = some (.tup opsV) := hB14 _ _ nepn.1 nepn.2 (same_new nm3 _ _ hn13)
    have tzne := Deal.ne hD12 ntz
    have htz : H14 tz = some (.tup [.int 0]) := hB14 _ _ tzne.1 tzne.2 (same_new nm3 _ _ upd_same)
    obtain ⟨b3, kd3, w3⟩ : ∃ b3, Kd H14 x3 b3 ∧ isWord x3 k = false := by
      simp only [List.mem_cons, List.not_mem_nil, or_false] at hx3
      rcases hx3 with rfl | rfl | rfl | rfl | rfl | rfl | rfl | rfl
      · refine ⟨_, .int _, ?_⟩
        show (decide (0 ≤ ((2 ^ k : Nat) : Int)) && decide (((2 ^ k : Nat) : Int) < 2 ^ k)) = false
        rw [tk, decide_eq_false (p := ((2 ^ k : Nat) : Int) < ((2 ^ k : Nat) : Int)) (by omega), Bool.and_false]
      · exact ⟨_, .int _, rfl⟩
      · exact ⟨_, .bl _, rfl⟩
      · exact ⟨_, .bl _, rfl⟩
      · exact ⟨_, .non, rfl⟩
      · exact ⟨_, .str _, rfl⟩
      · exact ⟨_, .tup htz, rfl⟩
      · refine ⟨_, .int _, ?_⟩
        show (decide (0 ≤ (10 : Int) ^ (12 : Int).toNat + ((2 ^ k : Nat) : Int)) && decide ((10 : Int) ^ (12 : Int).toNat + ((2 ^ k : Nat) : Int) < 2 ^ k)) = false
        have e10 : (10 : Int) ^ (12 : Int).toNat = 1000000000000 := by decide
        rw [tk, e10, decide_eq_false (p := (1000000000000 : Int) + ((2 ^ k : Nat) : Int) < ((2 ^ k : Nat) : Int)) (by omega), Bool.and_false]
    refine ⟨nV k, rfl, x3, b3, k, rfl, kd3, by omega, isWord x3 k, false, rfl, rfl, _, rfl, iteFe ?_ ⟨_, _, _, _, _, _, rfl, hD14, hn14⟩⟩
    rw [w3]
    rfl
  · rintro σ H' ⟨y3, y4, y5, y6, y7, y8, rfl, _, _⟩
    exact q _
end
end K03
end

section
set_option maxHeartbeats 4000000
namespace K03
open PySem PySem.Spec PyProof.Rows L2 Zc
theorem all_mk {l : PySem.W.OpenLaw} {w : World} {K : PySem.W.Frag} {h : Heap} {mg : Str → Option Value} {fa : Addr}
    (X : K.In h) (G : h.Ns mainGlobals mg) (hfa : mg "law" = some (.ref fa))
    {f0 : Addr} {od0 an0 : Option Addr} {sl0 : Array (Option Value)} {oc0 kV0 dc0 pm0 cd0 ct0 : Value}
    {f1 : Addr} {od1 an1 : Option Addr} {sl1 : Array (Option Value)} {oc1 kV1 dc1 pm1 cd1 ct1 : Value}
    {f2 : Addr} {od2 an2 : Option Addr} {sl2 : Array (Option Value)} {oc2 kV2 dc2 pm2 cd2 ct2 : Value}
    {f3 : Addr} {od3 an3 : Option Addr} {sl3 : Array (Option Value)} {oc3 kV3 dc3 pm3 cd3 ct3 : Value}
    {f4 : Addr} {od4 an4 : Option Addr} {sl4 : Array (Option Value)} {oc4 kV4 dc4 pm4 cd4 ct4 : Value}
    {f5 : Addr} {od5 an5 : Option Addr} {sl5 : Array (Option Value)} {oc5 kV5 dc5 pm5 cd5 ct5 : Value}
    {f6 : Addr} {od6 an6 : Option Addr} {sl6 : Array (Option Value)} {oc6 kV6 dc6 pm6 cd6 ct6 : Value}
    {f7 : Addr} {od7 an7 : Option Addr} {sl7 : Array (Option Value)} {oc7 kV7 dc7 pm7 cd7 ct7 : Value}
    {f8 : Addr} {od8 an8 : Option Addr} {sl8 : Array (Option Value)} {oc8 kV8 dc8 pm8 cd8 ct8 : Value}
    {f9 : Addr} {od9 an9 : Option Addr} {sl9 : Array (Option Value)} {oc9 kV9 dc9 pm9 cd9 ct9 : Value}
    {f10 : Addr} {od10 an10 : Option Addr} {sl10 : Array (Option Value)} {oc10 kV10 dc10 pm10 cd10 ct10 : Value}
    {f11 : Addr} {od11 an11 : Option Addr} {sl11 : Array (Option Value)} {oc11 kV11 dc11 pm11 cd11 ct11 : Value}
    {f12 : Addr} {od12 an12 : Option Addr} {sl12 : Array (Option Value)} {oc12 kV12 dc12 pm12 cd12 ct12 : Value}
    {f13 : Addr} {od13 an13 : Option Addr} {sl13 : Array (Option Value)} {oc13 kV13 dc13 pm13 cd13 ct13 : Value}
    {f14 : Addr} {od14 an14 : Option Addr} {sl14 : Array (Option Value)} {oc14 kV14 dc14 pm14 cd14 ct14 : Value}
    {f15 : Addr} {od15 an15 : Option Addr} {sl15 : Array (Option Value)} {oc15 kV15 dc15 pm15 cd15 ct15 : Value}
    {f16 : Addr} {od16 an16 : Option Addr} {sl16 : Array (Option Value)} {oc16 kV16 dc16 pm16 cd16 ct16 : Value}
    {f17 : Addr} {od17 an17 : Option Addr} {sl17 : Array (Option Value)} {oc17 kV17 dc17 pm17 cd17 ct17 : Value}
    {f18 : Addr} {od18 an18 : Option Addr} {sl18 : Array (Option Value)} {oc18 kV18 dc18 pm18 cd18 ct18 : Value}
    {f19 : Addr} {od19 an19 : Option Addr} {sl19 : Array (Option Value)} {oc19 kV19 dc19 pm19 cd19 ct19 : Value}
    {f20 : Addr} {od20 an20 : Option Addr} {sl20 : Array (Option Value)} {oc20 kV20 dc20 pm20 cd20 ct20 : Value}
    {f21 : Addr} {od21 an21 : Option Addr} {sl21 : Array (Option Value)} {oc21 kV21 dc21 pm21 cd21 ct21 : Value}
    {f22 : Addr} {od22 an22 : Option Addr} {sl22 : Array (Option Value)} {oc22 kV22 dc22 pm22 cd22 ct22 : Value}
    {f23 : Addr} {od23 an23 : Option Addr} {sl23 : Array (Option Value)} {oc23 kV23 dc23 pm23 cd23 ct23 : Value}
    {f24 : Addr} {od24 an24 : Option Addr} {sl24 : Array (Option Value)} {oc24 kV24 dc24 pm24 cd24 ct24 : Value}
    {f25 : Addr} {od25 an25 : Option Addr} {sl25 : Array (Option Value)} {oc25 kV25 dc25 pm25 cd25 ct25 : Value}
    {f26 : Addr} {od26 an26 : Option Addr} {sl26 : Array (Option Value)} {oc26 kV26 dc26 pm26 cd26 ct26 : Value}
    (a0 : PySem.W.nsIn K mainGlobals "law" = some (some (.ref f0)))
    (l0 : K.lookup f0 = some ⟨oc0, od0, .func (PySem.W.fnOf "law" "law" (defArgs s_law) (defBody s_law)
      (defScope s_law) .none kV0 dc0 pm0 an0 cd0 ct0), sl0⟩)
    (c0 : PySem.W.codeIn K cd0 "law" = true) (k0 : PySem.W.keepIn K (.ref f0) = true)
    (a1 : PySem.W.nsIn K mainGlobals "_law_draw" = some (some (.ref f1)))
    (l1 : K.lookup f1 = some ⟨oc1, od1, .func (PySem.W.fnOf "_law_draw" "_law_draw" (defArgs s__law_draw) (defBody s__law_draw)
      (defScope s__law_draw) .none kV1 dc1 pm1 an1 cd1 ct1), sl1⟩)
    (c1 : PySem.W.codeIn K cd1 "_law_draw" = true) (k1 : PySem.W.keepIn K (.ref f1) = true)
    (a2 : PySem.W.nsIn K mainGlobals "_law_any" = some (some (.ref f2)))
    (l2 : K.lookup f2 = some ⟨oc2, od2, .func (PySem.W.fnOf "_law_any" "_law_any" (defArgs s__law_any) (defBody s__law_any)
      (defScope s__law_any) .none kV2 dc2 pm2 an2 cd2 ct2), sl2⟩)
    (c2 : PySem.W.codeIn K cd2 "_law_any" = true) (k2 : PySem.W.keepIn K (.ref f2) = true)
    (a3 : PySem.W.nsIn K mainGlobals "_law_of" = some (some (.ref f3)))
    (l3 : K.lookup f3 = some ⟨oc3, od3, .func (PySem.W.fnOf "_law_of" "_law_of" (defArgs s__law_of) (defBody s__law_of)
      (defScope s__law_of) .none kV3 dc3 pm3 an3 cd3 ct3), sl3⟩)
    (c3 : PySem.W.codeIn K cd3 "_law_of" = true) (k3 : PySem.W.keepIn K (.ref f3) = true)
    (a4 : PySem.W.nsIn K mainGlobals "_law_power" = some (some (.ref f4)))
    (l4 : K.lookup f4 = some ⟨oc4, od4, .func (PySem.W.fnOf "_law_power" "_law_power" (defArgs s__law_power) (defBody s__law_power)
      (defScope s__law_power) .none kV4 dc4 pm4 an4 cd4 ct4), sl4⟩)
    (c4 : PySem.W.codeIn K cd4 "_law_power" = true) (k4 : PySem.W.keepIn K (.ref f4) = true)
    (a5 : PySem.W.nsIn K mainGlobals "_law_digits" = some (some (.ref f5)))
    (l5 : K.lookup f5 = some ⟨oc5, od5, .func (PySem.W.fnOf "_law_digits" "_law_digits" (defArgs s__law_digits) (defBody s__law_digits)
      (defScope s__law_digits) .none kV5 dc5 pm5 an5 cd5 ct5), sl5⟩)
    (c5 : PySem.W.codeIn K cd5 "_law_digits" = true) (k5 : PySem.W.keepIn K (.ref f5) = true)
    (a6 : PySem.W.nsIn K mainGlobals "_law_back" = some (some (.ref f6)))
    (l6 : K.lookup f6 = some ⟨oc6, od6, .func (PySem.W.fnOf "_law_back" "_law_back" (defArgs s__law_back) (defBody s__law_back)
      (defScope s__law_back) .none kV6 dc6 pm6 an6 cd6 ct6), sl6⟩)
    (c6 : PySem.W.codeIn K cd6 "_law_back" = true) (k6 : PySem.W.keepIn K (.ref f6) = true)
    (a7 : PySem.W.nsIn K mainGlobals "_law_times" = some (some (.ref f7)))
    (l7 : K.lookup f7 = some ⟨oc7, od7, .func (PySem.W.fnOf "_law_times" "_law_times" (defArgs s__law_times) (defBody s__law_times)
      (defScope s__law_times) .none kV7 dc7 pm7 an7 cd7 ct7), sl7⟩)
    (c7 : PySem.W.codeIn K cd7 "_law_times" = true) (k7 : PySem.W.keepIn K (.ref f7) = true)
    (a8 : PySem.W.nsIn K mainGlobals "_law_due" = some (some (.ref f8)))
    (l8 : K.lookup f8 = some ⟨oc8, od8, .func (PySem.W.fnOf "_law_due" "_law_due" (defArgs s__law_due) (defBody s__law_due)
      (defScope s__law_due) .none kV8 dc8 pm8 an8 cd8 ct8), sl8⟩)
    (c8 : PySem.W.codeIn K cd8 "_law_due" = true) (k8 : PySem.W.keepIn K (.ref f8) = true)
    (a9 : PySem.W.nsIn K mainGlobals "is_integer" = some (some (.ref f9)))
    (l9 : K.lookup f9 = some ⟨oc9, od9, .func (PySem.W.fnOf "is_integer" "is_integer" (defArgs s_is_integer) (defBody s_is_integer)
      (defScope s_is_integer) .none kV9 dc9 pm9 an9 cd9 ct9), sl9⟩)
    (c9 : PySem.W.codeIn K cd9 "is_integer" = true) (k9 : PySem.W.keepIn K (.ref f9) = true)
    (a10 : PySem.W.nsIn K mainGlobals "is_number" = some (some (.ref f10)))
    (l10 : K.lookup f10 = some ⟨oc10, od10, .func (PySem.W.fnOf "is_number" "is_number" (defArgs s_is_number) (defBody s_is_number)
      (defScope s_is_number) .none kV10 dc10 pm10 an10 cd10 ct10), sl10⟩)
    (c10 : PySem.W.codeIn K cd10 "is_number" = true) (k10 : PySem.W.keepIn K (.ref f10) = true)
    (a11 : PySem.W.nsIn K mainGlobals "is_word" = some (some (.ref f11)))
    (l11 : K.lookup f11 = some ⟨oc11, od11, .func (PySem.W.fnOf "is_word" "is_word" (defArgs s_is_word) (defBody s_is_word)
      (defScope s_is_word) .none kV11 dc11 pm11 an11 cd11 ct11), sl11⟩)
    (c11 : PySem.W.codeIn K cd11 "is_word" = true) (k11 : PySem.W.keepIn K (.ref f11) = true)
    (a12 : PySem.W.nsIn K mainGlobals "wrapped" = some (some (.ref f12)))
    (l12 : K.lookup f12 = some ⟨oc12, od12, .func (PySem.W.fnOf "wrapped" "wrapped" (defArgs s_wrapped) (defBody s_wrapped)
      (defScope s_wrapped) .none kV12 dc12 pm12 an12 cd12 ct12), sl12⟩)
    (c12 : PySem.W.codeIn K cd12 "wrapped" = true) (k12 : PySem.W.keepIn K (.ref f12) = true)
    (a13 : PySem.W.nsIn K mainGlobals "word_op" = some (some (.ref f13)))
    (l13 : K.lookup f13 = some ⟨oc13, od13, .func (PySem.W.fnOf "word_op" "word_op" (defArgs s_word_op) (defBody s_word_op)
      (defScope s_word_op) .none kV13 dc13 pm13 an13 cd13 ct13), sl13⟩)
    (c13 : PySem.W.codeIn K cd13 "word_op" = true) (k13 : PySem.W.keepIn K (.ref f13) = true)
    (a14 : PySem.W.nsIn K mainGlobals "op_width" = some (some (.ref f14)))
    (l14 : K.lookup f14 = some ⟨oc14, od14, .func (PySem.W.fnOf "op_width" "op_width" (defArgs s_op_width) (defBody s_op_width)
      (defScope s_op_width) .none kV14 dc14 pm14 an14 cd14 ct14), sl14⟩)
    (c14 : PySem.W.codeIn K cd14 "op_width" = true) (k14 : PySem.W.keepIn K (.ref f14) = true)
    (a15 : PySem.W.nsIn K mainGlobals "add_words" = some (some (.ref f15)))
    (l15 : K.lookup f15 = some ⟨oc15, od15, .func (PySem.W.fnOf "add_words" "add_words" (defArgs s_add_words) (defBody s_add_words)
      (defScope s_add_words) .none kV15 dc15 pm15 an15 cd15 ct15), sl15⟩)
    (c15 : PySem.W.codeIn K cd15 "add_words" = true) (k15 : PySem.W.keepIn K (.ref f15) = true)
    (a16 : PySem.W.nsIn K mainGlobals "subtract_words" = some (some (.ref f16)))
    (l16 : K.lookup f16 = some ⟨oc16, od16, .func (PySem.W.fnOf "subtract_words" "subtract_words" (defArgs s_subtract_words) (defBody s_subtract_words)
      (defScope s_subtract_words) .none kV16 dc16 pm16 an16 cd16 ct16), sl16⟩)
    (c16 : PySem.W.codeIn K cd16 "subtract_words" = true) (k16 : PySem.W.keepIn K (.ref f16) = true)
    (a17 : PySem.W.nsIn K mainGlobals "multiply_words" = some (some (.ref f17)))
    (l17 : K.lookup f17 = some ⟨oc17, od17, .func (PySem.W.fnOf "multiply_words" "multiply_words" (defArgs s_multiply_words) (defBody s_multiply_words)
      (defScope s_multiply_words) .none kV17 dc17 pm17 an17 cd17 ct17), sl17⟩)
    (c17 : PySem.W.codeIn K cd17 "multiply_words" = true) (k17 : PySem.W.keepIn K (.ref f17) = true)
    (a18 : PySem.W.nsIn K mainGlobals "divide_words" = some (some (.ref f18)))
    (l18 : K.lookup f18 = some ⟨oc18, od18, .func (PySem.W.fnOf "divide_words" "divide_words" (defArgs s_divide_words) (defBody s_divide_words)
      (defScope s_divide_words) .none kV18 dc18 pm18 an18 cd18 ct18), sl18⟩)
    (c18 : PySem.W.codeIn K cd18 "divide_words" = true) (k18 : PySem.W.keepIn K (.ref f18) = true)
    (a19 : PySem.W.nsIn K mainGlobals "rest_of_words" = some (some (.ref f19)))
    (l19 : K.lookup f19 = some ⟨oc19, od19, .func (PySem.W.fnOf "rest_of_words" "rest_of_words" (defArgs s_rest_of_words) (defBody s_rest_of_words)
      (defScope s_rest_of_words) .none kV19 dc19 pm19 an19 cd19 ct19), sl19⟩)
    (c19 : PySem.W.codeIn K cd19 "rest_of_words" = true) (k19 : PySem.W.keepIn K (.ref f19) = true)
    (a20 : PySem.W.nsIn K mainGlobals "both_words" = some (some (.ref f20)))
    (l20 : K.lookup f20 = some ⟨oc20, od20, .func (PySem.W.fnOf "both_words" "both_words" (defArgs s_both_words) (defBody s_both_words)
      (defScope s_both_words) .none kV20 dc20 pm20 an20 cd20 ct20), sl20⟩)
    (c20 : PySem.W.codeIn K cd20 "both_words" = true) (k20 : PySem.W.keepIn K (.ref f20) = true)
    (a21 : PySem.W.nsIn K mainGlobals "either_word" = some (some (.ref f21)))
    (l21 : K.lookup f21 = some ⟨oc21, od21, .func (PySem.W.fnOf "either_word" "either_word" (defArgs s_either_word) (defBody s_either_word)
      (defScope s_either_word) .none kV21 dc21 pm21 an21 cd21 ct21), sl21⟩)
    (c21 : PySem.W.codeIn K cd21 "either_word" = true) (k21 : PySem.W.keepIn K (.ref f21) = true)
    (a22 : PySem.W.nsIn K mainGlobals "unlike_words" = some (some (.ref f22)))
    (l22 : K.lookup f22 = some ⟨oc22, od22, .func (PySem.W.fnOf "unlike_words" "unlike_words" (defArgs s_unlike_words) (defBody s_unlike_words)
      (defScope s_unlike_words) .none kV22 dc22 pm22 an22 cd22 ct22), sl22⟩)
    (c22 : PySem.W.codeIn K cd22 "unlike_words" = true) (k22 : PySem.W.keepIn K (.ref f22) = true)
    (a23 : PySem.W.nsIn K mainGlobals "shift_up" = some (some (.ref f23)))
    (l23 : K.lookup f23 = some ⟨oc23, od23, .func (PySem.W.fnOf "shift_up" "shift_up" (defArgs s_shift_up) (defBody s_shift_up)
      (defScope s_shift_up) .none kV23 dc23 pm23 an23 cd23 ct23), sl23⟩)
    (c23 : PySem.W.codeIn K cd23 "shift_up" = true) (k23 : PySem.W.keepIn K (.ref f23) = true)
    (a24 : PySem.W.nsIn K mainGlobals "shift_down" = some (some (.ref f24)))
    (l24 : K.lookup f24 = some ⟨oc24, od24, .func (PySem.W.fnOf "shift_down" "shift_down" (defArgs s_shift_down) (defBody s_shift_down)
      (defScope s_shift_down) .none kV24 dc24 pm24 an24 cd24 ct24), sl24⟩)
    (c24 : PySem.W.codeIn K cd24 "shift_down" = true) (k24 : PySem.W.keepIn K (.ref f24) = true)
    (a25 : PySem.W.nsIn K mainGlobals "are_equal" = some (some (.ref f25)))
    (l25 : K.lookup f25 = some ⟨oc25, od25, .func (PySem.W.fnOf "are_equal" "are_equal" (defArgs s_are_equal) (defBody s_are_equal)
      (defScope s_are_equal) .none kV25 dc25 pm25 an25 cd25 ct25), sl25⟩)
    (c25 : PySem.W.codeIn K cd25 "are_equal" = true) (k25 : PySem.W.keepIn K (.ref f25) = true)
    (a26 : PySem.W.nsIn K mainGlobals "is_less" = some (some (.ref f26)))
    (l26 : K.lookup f26 = some ⟨oc26, od26, .func (PySem.W.fnOf "is_less" "is_less" (defArgs s_is_less) (defBody s_is_less)
      (defScope s_is_less) .none kV26 dc26 pm26 an26 cd26 ct26), sl26⟩)
    (c26 : PySem.W.codeIn K cd26 "is_less" = true) (k26 : PySem.W.keepIn K (.ref f26) = true)
    (z_int : PySem.W.nsIn K mainGlobals "int" = some none)
    (z_range : PySem.W.nsIn K mainGlobals "range" = some none)
    (z_list : PySem.W.nsIn K mainGlobals "list" = some none)
    (z_zip : PySem.W.nsIn K mainGlobals "zip" = some none)
    (z_isinstance : PySem.W.nsIn K mainGlobals "isinstance" = some none)
    (z_bool : PySem.W.nsIn K mainGlobals "bool" = some none)
    (z_abs : PySem.W.nsIn K mainGlobals "abs" = some none)
    (z_len : PySem.W.nsIn K mainGlobals "len" = some none)
    (z_repr : PySem.W.nsIn K mainGlobals "repr" = some none)
    {pA pO pW : Addr} {esA : Array DictEntry} {nA : Nat} {itO itW : Array Value} {nO nW : Nat} {ddO ddW : Option Addr} {slO slW : Array (Option Value)}
    (aA : PySem.W.nsIn K mainGlobals "ACTIONS" = some (some (.ref pA))) (lA : K.lookup pA = some ⟨.type "dict", none, .dict esA nA, #[]⟩)
    (kA : PySem.W.KeysLit w.params esA.toList)
    (d_add : PySem.W.nsIn K pA "add" = some (some (.ref f15)))
    (d_sub : PySem.W.nsIn K pA "sub" = some (some (.ref f16)))
    (d_mul : PySem.W.nsIn K pA "mul" = some (some (.ref f17)))
    (d_div : PySem.W.nsIn K pA "div" = some (some (.ref f18)))
    (d_rem : PySem.W.nsIn K pA "rem" = some (some (.ref f19)))
    (d_and : PySem.W.nsIn K pA "and" = some (some (.ref f20)))
    (d_or : PySem.W.nsIn K pA "or" = some (some (.ref f21)))
    (d_xor : PySem.W.nsIn K pA "xor" = some (some (.ref f22)))
    (d_shl : PySem.W.nsIn K pA "shl" = some (some (.ref f23)))
    (d_shr : PySem.W.nsIn K pA "shr" = some (some (.ref f24)))
    (d_eq : PySem.W.nsIn K pA "eq" = some (some (.ref f25)))
    (d_lt : PySem.W.nsIn K pA "lt" = some (some (.ref f26)))
    (aO : PySem.W.nsIn K mainGlobals "OPS" = some (some (.ref pO))) (lO : K.lookup pO = some ⟨.type "tuple", ddO, .seq itO nO, slO⟩) (vO : Vals opsV itO.toList)
    (aW : PySem.W.nsIn K mainGlobals "WIDTHS" = some (some (.ref pW))) (lW : K.lookup pW = some ⟨.type "tuple", ddW, .seq itW nW, slW⟩) (vW : Vals widV itW.toList) :
    ∃ fd : FuncData, (∀ (s : Shared) (v : Value), BindsTo s fd ⟨[v], []⟩ [("script", v)]) ∧
      ∀ base : Heap, K.In base → base.Ns mainGlobals mg → FnG l.prog w K mg base 4 fa fd ["script"] (spLaw K) := by
  have e := hfa.symm.trans (PySem.W.mg_of X G a0)
  cases e
  have F0 := fun_mk (st := s_law) l0 c0 k0
  have D0 : At K mg "law" s_law ["script"] fa _ := ⟨F0, PySem.W.mg_of X G a0,
    F0.binds (ps := ["script"]) fun _ _ _ _ _ _ us hl => match us, hl with | [_], _ => rfl⟩
  have F1 := fun_mk (st := s__law_draw) l1 c1 k1
  have D1 : At K mg "_law_draw" s__law_draw ["script", "salt"] f1 _ := ⟨F1, PySem.W.mg_of X G a1,
    F1.binds (ps := ["script", "salt"]) fun _ _ _ _ _ _ us hl => match us, hl with | [_, _], _ => rfl⟩
  have F2 := fun_mk (st := s__law_any) l2 c2 k2
  have D2 : At K mg "_law_any" s__law_any ["deal", "bound"] f2 _ := ⟨F2, PySem.W.mg_of X G a2,
    F2.binds (ps := ["deal", "bound"]) fun _ _ _ _ _ _ us hl => match us, hl with | [_, _], _ => rfl⟩
  have F3 := fun_mk (st := s__law_of) l3 c3 k3
  have D3 : At K mg "_law_of" s__law_of ["deal", "some"] f3 _ := ⟨F3, PySem.W.mg_of X G a3,
    F3.binds (ps := ["deal", "some"]) fun _ _ _ _ _ _ us hl => match us, hl with | [_, _], _ => rfl⟩
  have F4 := fun_mk (st := s__law_power) l4 c4 k4
  have D4 : At K mg "_law_power" s__law_power ["many"] f4 _ := ⟨F4, PySem.W.mg_of X G a4,
    F4.binds (ps := ["many"]) fun _ _ _ _ _ _ us hl => match us, hl with | [_], _ => rfl⟩
  have F5 := fun_mk (st := s__law_digits) l5 c5 k5
  have D5 : At K mg "_law_digits" s__law_digits ["number", "width"] f5 _ := ⟨F5, PySem.W.mg_of X G a5,
    F5.binds (ps := ["number", "width"]) fun _ _ _ _ _ _ us hl => match us, hl with | [_, _], _ => rfl⟩
  have F6 := fun_mk (st := s__law_back) l6 c6 k6
  have D6 : At K mg "_law_back" s__law_back ["digits"] f6 _ := ⟨F6, PySem.W.mg_of X G a6,
    F6.binds (ps := ["digits"]) fun _ _ _ _ _ _ us hl => match us, hl with | [_], _ => rfl⟩
  have F7 := fun_mk (st := s__law_times) l7 c7 k7
  have D7 : At K mg "_law_times" s__law_times ["one", "other", "width"] f7 _ := ⟨F7, PySem.W.mg_of X G a7,
    F7.binds (ps := ["one", "other", "width"]) fun _ _ _ _ _ _ us hl => match us, hl with | [_, _, _], _ => rfl⟩
  have F8 := fun_mk (st := s__law_due) l8 c8 k8
  have D8 : At K mg "_law_due" s__law_due ["op", "width", "one", "other"] f8 _ := ⟨F8, PySem.W.mg_of X G a8,
    F8.binds (ps := ["op", "width", "one", "other"]) fun _ _ _ _ _ _ us hl => match us, hl with | [_, _, _, _], _ => rfl⟩
  have F9 := fun_mk (st := s_is_integer) l9 c9 k9
  have D9 : At K mg "is_integer" s_is_integer ["value"] f9 _ := ⟨F9, PySem.W.mg_of X G a9,
    F9.binds (ps := ["value"]) fun _ _ _ _ _ _ us hl => match us, hl with | [_], _ => rfl⟩
  have F10 := fun_mk (st := s_is_number) l10 c10 k10
  have D10 : At K mg "is_number" s_is_number ["value"] f10 _ := ⟨F10, PySem.W.mg_of X G a10,
    F10.binds (ps := ["value"]) fun _ _ _ _ _ _ us hl => match us, hl with | [_], _ => rfl⟩
  have F11 := fun_mk (st := s_is_word) l11 c11 k11
  have D11 : At K mg "is_word" s_is_word ["value", "width"] f11 _ := ⟨F11, PySem.W.mg_of X G a11,
    F11.binds (ps := ["value", "width"]) fun _ _ _ _ _ _ us hl => match us, hl with | [_, _], _ => rfl⟩
  have F12 := fun_mk (st := s_wrapped) l12 c12 k12
  have D12 : At K mg "wrapped" s_wrapped ["number", "width"] f12 _ := ⟨F12, PySem.W.mg_of X G a12,
    F12.binds (ps := ["number", "width"]) fun _ _ _ _ _ _ us hl => match us, hl with | [_, _], _ => rfl⟩
  have F13 := fun_mk (st := s_word_op) l13 c13 k13
  have D13 : At K mg "word_op" s_word_op ["op", "width", "one", "other"] f13 _ := ⟨F13, PySem.W.mg_of X G a13,
    F13.binds (ps := ["op", "width", "one", "other"]) fun _ _ _ _ _ _ us hl => match us, hl with | [_, _, _, _], _ => rfl⟩
  have F14 := fun_mk (st := s_op_width) l14 c14 k14
  have D14 : At K mg "op_width" s_op_width ["op", "width"] f14 _ := ⟨F14, PySem.W.mg_of X G a14,
    F14.binds (ps := ["op", "width"]) fun _ _ _ _ _ _ us hl => match us, hl with | [_, _], _ => rfl⟩
  have F15 := fun_mk (st := s_add_words) l15 c15 k15
  have D15 : At K mg "add_words" s_add_words ["width", "one", "other"] f15 _ := ⟨F15, PySem.W.mg_of X G a15,
    F15.binds (ps := ["width", "one", "other"]) fun _ _ _ _ _ _ us hl => match us, hl with | [_, _, _], _ => rfl⟩
  have F16 := fun_mk (st := s_subtract_words) l16 c16 k16
  have D16 : At K mg "subtract_words" s_subtract_words ["width", "one", "other"] f16 _ := ⟨F16, PySem.W.mg_of X G a16,
    F16.binds (ps := ["width", "one", "other"]) fun _ _ _ _ _ _ us hl => match us, hl with | [_, _, _], _ => rfl⟩
  have F17 := fun_mk (st := s_multiply_words) l17 c17 k17
  have D17 : At K mg "multiply_words" s_multiply_words ["width", "one", "other"] f17 _ := ⟨F17, PySem.W.mg_of X G a17,
    F17.binds (ps := ["width", "one", "other"]) fun _ _ _ _ _ _ us hl => match us, hl with | [_, _, _], _ => rfl⟩
  have F18 := fun_mk (st := s_divide_words) l18 c18 k18
  have D18 : At K mg "divide_words" s_divide_words ["_", "one", "other"] f18 _ := ⟨F18, PySem.W.mg_of X G a18,
    F18.binds (ps := ["_", "one", "other"]) fun _ _ _ _ _ _ us hl => match us, hl with | [_, _, _], _ => rfl⟩
  have F19 := fun_mk (st := s_rest_of_words) l19 c19 k19
  have D19 : At K mg "rest_of_words" s_rest_of_words ["_", "one", "other"] f19 _ := ⟨F19, PySem.W.mg_of X G a19,
    F19.binds (ps := ["_", "one", "other"]) fun _ _ _ _ _ _ us hl => match us, hl with | [_, _, _], _ => rfl⟩
  have F20 := fun_mk (st := s_both_words) l20 c20 k20
  have D20 : At K mg "both_words" s_both_words ["_", "one", "other"] f20 _ := ⟨F20, PySem.W.mg_of X G a20,
    F20.binds (ps := ["_", "one", "other"]) fun _ _ _ _ _ _ us hl => match us, hl with | [_, _, _], _ => rfl⟩
  have F21 := fun_mk (st := s_either_word) l21 c21 k21
  have D21 : At K mg "either_word" s_either_word ["_", "one", "other"] f21 _ := ⟨F21, PySem.W.mg_of X G a21,
    F21.binds (ps := ["_", "one", "other"]) fun _ _ _ _ _ _ us hl => match us, hl with | [_, _, _], _ => rfl⟩
  have F22 := fun_mk (st := s_unlike_words) l22 c22 k22
  have D22 : At K mg "unlike_words" s_unlike_words ["_", "one", "other"] f22 _ := ⟨F22, PySem.W.mg_of X G a22,
    F22.binds (ps := ["_", "one", "other"]) fun _ _ _ _ _ _ us hl => match us, hl with | [_, _, _], _ => rfl⟩
  have F23 := fun_mk (st := s_shift_up) l23 c23 k23
  have D23 : At K mg "shift_up" s_shift_up ["width", "one", "other"] f23 _ := ⟨F23, PySem.W.mg_of X G a23,
    F23.binds (ps := ["width", "one", "other"]) fun _ _ _ _ _ _ us hl => match us, hl with | [_, _, _], _ => rfl⟩
  have F24 := fun_mk (st := s_shift_down) l24 c24 k24
  have D24 : At K mg "shift_down" s_shift_down ["width", "one", "other"] f24 _ := ⟨F24, PySem.W.mg_of X G a24,
    F24.binds (ps := ["width", "one", "other"]) fun _ _ _ _ _ _ us hl => match us, hl with | [_, _, _], _ => rfl⟩
  have F25 := fun_mk (st := s_are_equal) l25 c25 k25
  have D25 : At K mg "are_equal" s_are_equal ["_", "one", "other"] f25 _ := ⟨F25, PySem.W.mg_of X G a25,
    F25.binds (ps := ["_", "one", "other"]) fun _ _ _ _ _ _ us hl => match us, hl with | [_, _, _], _ => rfl⟩
  have F26 := fun_mk (st := s_is_less) l26 c26 k26
  have D26 : At K mg "is_less" s_is_less ["_", "one", "other"] f26 _ := ⟨F26, PySem.W.mg_of X G a26,
    F26.binds (ps := ["_", "one", "other"]) fun _ _ _ _ _ _ us hl => match us, hl with | [_, _, _], _ => rfl⟩
  have mi := PySem.W.mg_none_of X G z_int
  have szO : itO.size ≤ sizeLine := by
    have e : opsV.length = itO.size := vO.length.trans Array.length_toList
    rw [← e]
    show 12 ≤ sizeLine
    decide
  have szW : itW.size ≤ sizeLine := by
    have e : widV.length = itW.size := vW.length.trans Array.length_toList
    rw [← e]
    show 6 ≤ sizeLine
    decide
  refine ⟨_, fun s v => .of_eq rfl, fun base _ _ => ok_law (P := l.prog) (w := w) (K := K) (mg := mg) (base := base) F0 ?_⟩
  have C : DueCtx K mg := ⟨f5, _, D5, f6, _, D6, f7, _, D7, f4, _, D4, mi, PySem.W.mg_none_of X G z_range, PySem.W.mg_none_of X G z_list, PySem.W.mg_none_of X G z_zip⟩
  have acts : Acts l.prog w K mg base pA := by
    intro o
    cases o
    · exact ⟨f15, ⟨esA, nA, _, lA, kA, d_add, rfl⟩, ⟨_, _, ok_add D15 D12, D15.F.kp, D15.b⟩⟩
    · exact ⟨f16, ⟨esA, nA, _, lA, kA, d_sub, rfl⟩, ⟨_, _, ok_sub D16 D12, D16.F.kp, D16.b⟩⟩
    · exact ⟨f17, ⟨esA, nA, _, lA, kA, d_mul, rfl⟩, ⟨_, _, ok_mul D17 D12, D17.F.kp, D17.b⟩⟩
    · exact ⟨f18, ⟨esA, nA, _, lA, kA, d_div, rfl⟩, ⟨_, _, ok_div D18, D18.F.kp, D18.b⟩⟩
    · exact ⟨f19, ⟨esA, nA, _, lA, kA, d_rem, rfl⟩, ⟨_, _, ok_rem D19, D19.F.kp, D19.b⟩⟩
    · exact ⟨f20, ⟨esA, nA, _, lA, kA, d_and, rfl⟩, ⟨_, _, ok_and D20, D20.F.kp, D20.b⟩⟩
    · exact ⟨f21, ⟨esA, nA, _, lA, kA, d_or, rfl⟩, ⟨_, _, ok_or D21, D21.F.kp, D21.b⟩⟩
    · exact ⟨f22, ⟨esA, nA, _, lA, kA, d_xor, rfl⟩, ⟨_, _, ok_xor D22, D22.F.kp, D22.b⟩⟩
    · exact ⟨f23, ⟨esA, nA, _, lA, kA, d_shl, rfl⟩, ⟨_, _, ok_shl D23 D12, D23.F.kp, D23.b⟩⟩
    · exact ⟨f24, ⟨esA, nA, _, lA, kA, d_shr, rfl⟩, ⟨_, _, ok_shr D24, D24.F.kp, D24.b⟩⟩
    · exact ⟨f25, ⟨esA, nA, _, lA, kA, d_eq, rfl⟩, ⟨_, _, ok_eq D25 mi, D25.F.kp, D25.b⟩⟩
    · exact ⟨f26, ⟨esA, nA, _, lA, kA, d_lt, rfl⟩, ⟨_, _, ok_lt D26 mi, D26.F.kp, D26.b⟩⟩
  exact ⟨C, f1, _, D1, f2, _, D2, f3, _, D3, f8, _, D8, f11, _, D11, f10, _, D10, f9, _, D9, f13, _, D13, f14, _, D14,
    kb_rev (ks := ["width", "value"]) F11 (by simp) rfl (fun _ _ _ _ _ _ ws hl => match ws, hl with | [_, _], _ => rfl),
    kb_rev (ks := ["other", "one", "width", "op"]) F13 (by simp) rfl (fun _ _ _ _ _ _ ws hl => match ws, hl with | [_, _, _, _], _ => rfl),
    kb_rev (ks := ["width", "op"]) F14 (by simp) rfl (fun _ _ _ _ _ _ ws hl => match ws, hl with | [_, _], _ => rfl),
    pA, PySem.W.mg_of X G aA, acts, pO, PySem.W.mg_of X G aO, ⟨_, itO, nO, lO, rfl, rfl, szO, vO⟩, pW, PySem.W.mg_of X G aW, ⟨_, itW, nW, lW, rfl, rfl, szW, vW⟩,
    PySem.W.mg_none_of X G z_isinstance, PySem.W.mg_none_of X G z_bool, PySem.W.mg_none_of X G z_abs, PySem.W.mg_none_of X G z_len, PySem.W.mg_none_of X G z_repr⟩
end K03
open PySem PySem.W PyProof.Rows
set_option maxRecDepth 100000 in
set_option maxHeartbeats 0 in
theorem PySem.Challenge.cw_lookalike_k03_words_and_ops_holds : PySem.Challenge.rw_lookalike_k03_words_and_ops.Holds := by
  w_on; o_law; k_head; (case hw => w_witness2)
  k_fill
  refine Zc.walkG (l := PySem.Challenge.rw_lookalike_k03_words_and_ops) (n := 63) (k := 4) (x := "script") (sp := K03.spLaw) rfl (by decide) rfl
    ⟨rfl, by decide, by decide⟩ (fun w h Y => PySem.W.kIn_of Y) ?F (fun K H a ns hl hS => ⟨a, ns, rfl, hS, hl, fun _ => rfl⟩)
  case F =>
    intro w mg fa h KX G hmg
    refine' K03.all_mk KX G hmg ?a0 ?l0 ?c0 ?k0 ?a1 ?l1 ?c1 ?k1 ?a2 ?l2 ?c2 ?k2 ?a3 ?l3 ?c3 ?k3 ?a4 ?l4 ?c4 ?k4 ?a5 ?l5 ?c5 ?k5 ?a6 ?l6 ?c6 ?k6 ?a7 ?l7 ?c7 ?k7 ?a8 ?l8 ?c8 ?k8 ?a9 ?l9 ?c9 ?k9 ?a10 ?l10 ?c10 ?k10 ?a11 ?l11 ?c11 ?k11 ?a12 ?l12 ?c12 ?k12 ?a13 ?l13 ?c13 ?k13 ?a14 ?l14 ?c14 ?k14 ?a15 ?l15 ?c15 ?k15 ?a16 ?l16 ?c16 ?k16 ?a17 ?l17 ?c17 ?k17 ?a18 ?l18 ?c18 ?k18 ?a19 ?l19 ?c19 ?k19 ?a20 ?l20 ?c20 ?k20 ?a21 ?l21 ?c21 ?k21 ?a22 ?l22 ?c22 ?k22 ?a23 ?l23 ?c23 ?k23 ?a24 ?l24 ?c24 ?k24 ?a25 ?l25 ?c25 ?k25 ?a26 ?l26 ?c26 ?k26 ?z_int ?z_range ?z_list ?z_zip ?z_isinstance ?z_bool ?z_abs ?z_len ?z_repr ?aA ?lA ?kA ?d_add ?d_sub ?d_mul ?d_div ?d_rem ?d_and ?d_or ?d_xor ?d_shl ?d_shr ?d_eq ?d_lt ?aO ?lO ?vO ?aW ?lW ?vW
    (case a0 => k_is)
    (case l0 => k_is)
    (case c0 => k_is)
    (case k0 => k_is)
    (case a1 => k_is)
    (case l1 => k_is)
    (case c1 => k_is)
    (case k1 => k_is)
    (case a2 => k_is)
    (case l2 => k_is)
    (case c2 => k_is)
    (case k2 => k_is)
    (case a3 => k_is)
    (case l3 => k_is)
    (case c3 => k_is)
    (case k3 => k_is)
    (case a4 => k_is)
    (case l4 => k_is)
    (case c4 => k_is)
    (case k4 => k_is)
    (case a5 => k_is)
    (case l5 => k_is)
    (case c5 => k_is)
    (case k5 => k_is)
    (case a6 => k_is)
    (case l6 => k_is)
    (case c6 => k_is)
    (case k6 => k_is)
    (case a7 => k_is)
    (case l7 => k_is)
    (case c7 => k_is)
    (case k7 => k_is)
    (case a8 => k_is)
    (case l8 => k_is)
    (case c8 => k_is)
    (case k8 => k_is)
    (case a9 => k_is)
    (case l9 => k_is)
    (case c9 => k_is)
    (case k9 => k_is)
    (case a10 => k_is)
    (case l10 => k_is)
    (case c10 => k_is)
    (case k10 => k_is)
    (case a11 => k_is)
    (case l11 => k_is)
    (case c11 => k_is)
    (case k11 => k_is)
    (case a12 => k_is)
    (case l12 => k_is)
    (case c12 => k_is)
    (case k12 => k_is)
    (case a13 => k_is)
    (case l13 => k_is)
    (case c13 => k_is)
    (case k13 => k_is)
    (case a14 => k_is)
    (case l14 => k_is)
    (case c14 => k_is)
    (case k14 => k_is)
    (case a15 => k_is)
    (case l15 => k_is)
    (case c15 => k_is)
    (case k15 => k_is)
    (case a16 => k_is)
    (case l16 => k_is)
    (case c16 => k_is)
    (case k16 => k_is)
    (case a17 => k_is)
    (case l17 => k_is)
    (case c17 => k_is)
    (case k17 => k_is)
    (case a18 => k_is)
    (case l18 => k_is)
    (case c18 => k_is)
    (case k18 => k_is)
    (case a19 => k_is)
    (case l19 => k_is)
    (case c19 => k_is)
    (case k19 => k_is)
    (case a20 => k_is)
    (case l20 => k_is)
    (case c20 => k_is)
    (case k20 => k_is)
    (case a21 => k_is)
    (case l21 => k_is)
    (case c21 => k_is)
    (case k21 => k_is)
    (case a22 => k_is)
    (case l22 => k_is)
    (case c22 => k_is)
    (case k22 => k_is)
    (case a23 => k_is)
    (case l23 => k_is)
    (case c23 => k_is)
    (case k23 => k_is)
    (case a24 => k_is)
    (case l24 => k_is)
    (case c24 => k_is)
    (case k24 => k_is)
    (case a25 => k_is)
    (case l25 => k_is)
    (case c25 => k_is)
    (case k25 => k_is)
    (case a26 => k_is)
    (case l26 => k_is)
    (case c26 => k_is)
    (case k26 => k_is)
    (case z_int => k_is)
    (case z_range => k_is)
    (case z_list => k_is)
    (case z_zip => k_is)
    (case z_isinstance => k_is)
    (case z_bool => k_is)
    (case z_abs => k_is)
    (case z_len => k_is)
    (case z_repr => k_is)
    (case aA => k_is)
    (case lA => k_is)
    (case d_add => k_is)
    (case d_sub => k_is)
    (case d_mul => k_is)
    (case d_div => k_is)
    (case d_rem => k_is)
    (case d_and => k_is)
    (case d_or => k_is)
    (case d_xor => k_is)
    (case d_shl => k_is)
    (case d_shr => k_is)
    (case d_eq => k_is)
    (case d_lt => k_is)
    (case aO => k_is)
    (case lO => k_is)
    (case aW => k_is)
    (case lW => k_is)
    (case kA => exact ⟨⟨_, _, rfl, rfl⟩, ⟨_, _, rfl, rfl⟩, ⟨_, _, rfl, rfl⟩, ⟨_, _, rfl, rfl⟩, ⟨_, _, rfl, rfl⟩, ⟨_, _, rfl, rfl⟩, ⟨_, _, rfl, rfl⟩, ⟨_, _, rfl, rfl⟩, ⟨_, _, rfl, rfl⟩, ⟨_, _, rfl, rfl⟩, ⟨_, _, rfl, rfl⟩, ⟨_, _, rfl, rfl⟩, trivial⟩)
    (case vO => exact .cons ⟨_, rfl⟩ (.cons ⟨_, rfl⟩ (.cons ⟨_, rfl⟩ (.cons ⟨_, rfl⟩ (.cons ⟨_, rfl⟩ (.cons ⟨_, rfl⟩ (.cons ⟨_, rfl⟩ (.cons ⟨_, rfl⟩ (.cons ⟨_, rfl⟩ (.cons ⟨_, rfl⟩ (.cons ⟨_, rfl⟩ (.cons ⟨_, rfl⟩ (.nil)))))))))))))
    (case vW => exact .cons ⟨_, rfl⟩ (.cons ⟨_, rfl⟩ (.cons ⟨_, rfl⟩ (.cons ⟨_, rfl⟩ (.cons ⟨_, rfl⟩ (.cons ⟨_, rfl⟩ (.nil)))))))
end
